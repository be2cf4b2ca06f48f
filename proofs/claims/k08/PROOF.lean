import PyProof.Rows.All
import Wide.All
import OpenK.AllK
import Wide.FinOn
import HandS.SetBool
import HandS.SetKeys
import HandS.Set
import HandS.Strs
import HandS.Comp
import PyProof.Rows.SortStr
import HandS.Walk
import HandS.List
import HandS.Flow
import HandS.ForMost
import KE.GoesEnum
import HandS.TupAny
import HandS.TupMul
import HandS.IsInst
import HandS.MakeKwOnly
import HandS.DictComp
import HandS.Deep
import HandS.More
import HandS.Defaults
import HandS.Evl
import HandS.Conv
import HandS.Codes
import HandS.CallLocal
import HandS.ExcField
import HandS.ExcOwn
import HandS.WordsExc
import HandS.ExcInit
import HandS.FStr
import HandS.WideBits
import HandS.Style
import HandS.RaiseMore
import HandS.TryMany
import HandS.Wide
import HandS.EndTab
import PySem.Challenge.RW_beatwires_k08_whole_words
set_option Elab.async false
set_option linter.all false
set_option maxRecDepth 100000
set_option maxHeartbeats 2000000
/-! Sets of keys of any kind that can be walked: what a set comprehension makes, and sorted of it. -/
namespace LayT
open PySem PySem.Spec PyProof.Rows L2 PpSet
section
variable {P : Program} {w : World} {κ : Type} [DecidableEq κ] {kd : PySem.KeyKind P w κ}
abbrev EnS := Int × Value
/-- two members have no key in common -/
def Apart (kd : PySem.KeyKind P w κ) (e f : EnS) : Prop := ∀ k, ¬ (kd.is k e.2 = true ∧ kd.is k f.2 = true)
def HasKey (kd : PySem.KeyKind P w κ) (es : List EnS) (k : κ) : Prop := ∃ e ∈ es, kd.is k e.2 = true
theorem HasKey.perm {es fs : List EnS} {k : κ} (p : es.Perm fs) : HasKey kd es k ↔ HasKey kd fs k := ⟨fun ⟨e, h, q⟩ => ⟨e, p.mem_iff.mp h, q⟩, fun ⟨e, h, q⟩ => ⟨e, p.mem_iff.mpr h, q⟩⟩
theorem apart_perm {es fs : List EnS} (p : es.Perm fs) : es.Pairwise (Apart kd) ↔ fs.Pairwise (Apart kd) := p.pairwise_iff fun h k z => h k ⟨z.2, z.1⟩
/-- S tells the keys of the set at a, n their number; its table can be walked -/
def SetG (kd : PySem.KeyKind P w κ) (h : Heap) (a : Addr) (S : κ → Bool) (n : Nat) : Prop :=
  ∃ o es ep t, h.get? a = some o ∧ o.ExactSet ∧ o.data = .set es ep t ∧ ElemsOf kd es.toList ∧ es.toList.Pairwise (Apart kd) ∧ (∀ k, S k = true ↔ HasKey kd es.toList k) ∧ es.size < scanBound ∧ t.fits es.size = true ∧ es.size = n ∧ Ris t.place.toList ∧
    (w.params.followText "set-order" = true ∨ t.led = true)
variable {h h' : Heap} {a : Addr} {S : κ → Bool} {n : Nat}
theorem SetG.keep (R : SetG kd h a S n) (f : ∀ o, h.get? a = some o → h'.get? a = some o) : SetG kd h' a S n := let ⟨o, es, ep, t, q, r⟩ := R; ⟨o, es, ep, t, f o q, r⟩
theorem SetG.there (R : SetG kd h a S n) : ∃ o, h.get? a = some o := let ⟨o, _, _, _, q, _⟩ := R; ⟨o, q⟩
theorem SetG.of (R : SetG kd h a S n) : h.SetOf kd a S n := let ⟨o, es, ep, t, q, hx, hd, el, _, hm, hb, hf, hn, _⟩ := R; ⟨o, es, ep, t, q, hx, hd, el, hm, hb, hf, hn⟩
theorem setG_new {h : Heap} : SetG kd (h.push { cls := .type "set", dict := none, data := .set #[] 0 (.fresh 0 0 (!w.params.followText "set-order")) }) h.objs.size (fun _ => false) 0 := by
  refine ⟨_, #[], 0, _, Heap.get?_push_size _ rfl, ⟨rfl, rfl, rfl⟩, rfl, (fun e he => by simp at he), List.Pairwise.nil, (fun k => ⟨fun z => (by cases z), fun ⟨e, he, _⟩ => (by simp at he)⟩), (by decide), (by rfl), rfl, List.Pairwise.nil, ?_⟩
  show _ ∨ (!w.params.followText "set-order") = true
  cases w.params.followText "set-order" with
  | true => exact .inl rfl
  | false => exact .inr rfl
end
section
variable {P : Program} {w : World} {κ : Type} [DecidableEq κ] {kd : PySem.KeyKind P w κ} {A : Around} {E : Value → Shared → Prop} {s : Shared} {a : Addr} {S : κ → Bool} {n : Nat}
theorem put_end {give : Bool → Sem Unit} (quiet : ∀ (b : Bool) (s1 : Shared) (R : Unit → Shared → Prop), R () s1 → wpAny (model P w) A (give b) R E s1) {o : Obj} {old : Array EnS} {ep : Nat} {t0 : SetTable} (at_ : s.heap.get? a = some o) (ex : o.ExactSet) (dat : o.data = .set old ep t0)
    {es : Array EnS} {t : SetTable} {S' : κ → Bool} (el : ElemsOf kd es.toList) (ap : es.toList.Pairwise (Apart kd)) (mem : ∀ k, S' k = true ↔ HasKey kd es.toList k) (few : es.size < scanBound) (fit : t.fits es.size = true) (ris : Ris t.place.toList)
    (led : w.params.followText "set-order" = true ∨ t.led = true) {was : Bool} {R : Option Bool → Shared → Prop} (k : ∀ h', Heap.SameBut a s.heap h' → SetG kd h' a S' es.size → R (some true) { s with heap := h' }) :
    wpAny (model P w) A (do
        storeSet a es t
        if (!was && t.tooFull) = true then do
            give (relayAll t es (SetTable.grown es.size)).2.2
            storeSet a (relayAll t es (SetTable.grown es.size)).1 (relayAll t es (SetTable.grown es.size)).2.1
            pure (some true)
          else pure (some true)) R E s := by
  refine wpAny_bind (wpAny_storeSet_of at_ dat ?_ (fits_of_scanBound few))
  have at1 := storeB_at (es' := es) (t' := t) at_ dat
  have same1 := Heap.SameBut.update s.heap a (Obj.putSet es t)
  split
  · have p := relayAll_perm t es (SetTable.grown es.size); have f3 := relayAll_fits t es (SetTable.grown es.size)
    have r3 := relayAll_ris t es (SetTable.grown es.size); have l3 := relayAll_led t es (SetTable.grown es.size)
    generalize relayAll t es (SetTable.grown es.size) = W at p f3 r3 l3 ⊢
    obtain ⟨es2, t2, gv⟩ := W
    dsimp only at p f3 r3 l3 ⊢
    have sz2 : es2.size = es.size := by rw [← Array.length_toList, p.length_eq, Array.length_toList]
    have few2 : es2.size < scanBound := by rw [sz2]; exact few
    refine wpAny_bind (quiet _ _ _ (wpAny_bind (wpAny_storeSet_of at1 rfl ?_ (fits_of_scanBound few2))))
    refine wpAny_pure (k _ (same1.trans (Heap.SameBut.update _ a _)) ?_)
    exact ⟨_, es2, _, t2, storeB_at (es' := es2) (t' := t2) at1 rfl, ex, rfl, fun e he => el e (p.mem_iff.mp he), (apart_perm p).mpr ap, fun x => (mem x).trans (HasKey.perm p).symm, few2, f3, sz2, r3, led.imp id fun z => by rw [l3]; exact z⟩
  · exact wpAny_pure (k _ same1 ⟨_, es, _, t, at1, ex, rfl, el, ap, mem, few, fit, rfl, ris, led⟩)
theorem put_hashed {x : κ} {v : Value} (isx : kd.is x v = true) (sc : v.scannable = true) {Q : Bool → Shared → Prop} (R : SetG kd s.heap a S n) (room : n + 1 < scanBound)
    (go : ∀ h', Heap.SameBut a s.heap h' → SetG kd h' a (fun j => S j || decide (j = x)) (if S x = true then n else n + 1) → Q (!S x) { s with heap := h' }) : wpAny (model P w) A (setAddHashed a v (kd.hash x)) Q E s := by
  obtain ⟨o, es, ep, t, at_, ex, dat, el, ap, mem, few, fit, num, ris, led⟩ := R
  unfold setAddHashed setAddHashedIn; refine wpAny_holding (wpAny_bind (wpAny_setState_of at_ dat fit ?_))
  dsimp only
  rw [byScan_of sc few el]
  simp only [↓reduceIte]
  unfold setAddByScan; refine wpAny_bind (wpAny_bind (wpAny_rule (wpAny_bind (wpAny_setScan_of isx at_ dat fit el ?_))))
  cases found : List.findIdx? (fun e => kd.is x e.2) es.toList with
  | some j =>
    dsimp only
    obtain ⟨jl, jx, _⟩ := List.findIdx?_eq_some_iff_getElem.mp found
    have Sx : S x = true := (mem x).mpr ⟨es.toList[j], List.getElem_mem jl, jx⟩
    have q := go s.heap (Heap.SameBut.refl a s.heap) ⟨o, es, ep, t, at_, ex, dat, el, ap, fun i => by
      rw [Bool.or_eq_true, decide_eq_true_eq, ← mem i]; exact ⟨fun z => z.elim id fun e => e ▸ Sx, .inl⟩, few, fit, by rw [if_pos Sx]; exact num, ris, led⟩
    rw [Sx] at q
    exact wpAny_pure (wpAny_pure q)
  | none =>
    dsimp only
    have none_ : ∀ e ∈ es.toList, ¬ kd.is x e.2 = true := fun e he z => by
      have c := List.findIdx?_eq_none_iff.mp found e he
      rw [z] at c
      cases c
    have Sx : S x = false := by
      cases q : S x with
      | false => rfl
      | true => obtain ⟨e, he, z⟩ := (mem x).mp q; exact absurd z (none_ e he)
    have rl : ∀ (b : Bool) {s1 : Shared} {R : Unit → Shared → Prop}, R () s1 → wpAny (model P w) A (match b with | true => rule "set.scan.the-table-gave-way" | false => pure ()) R E s1 := fun b s1 R q => by cases b <;> first | exact wpAny_pure q | exact wpAny_rule q
    have p := layNew_perm t es (kd.hash x) v; have f1 := layNew_fits t es (kd.hash x) v
    have r1 := layNew_ris t es (kd.hash x) v ris; have l1 := layNew_led t es (kd.hash x) v
    generalize layNew t es (kd.hash x) v = W at p f1 r1 l1 ⊢
    obtain ⟨es1, t1, was, gv⟩ := W
    dsimp only at p f1 r1 l1 ⊢
    rw [Array.toList_push] at p
    have pc : es1.toList.Perm ((kd.hash x, v) :: es.toList) := p.trans (List.perm_append_singleton _ _)
    have el1 : ElemsOf kd es1.toList := fun e he => by
      rcases List.mem_cons.mp (pc.mem_iff.mp he) with z | z
      · rw [z]; exact ⟨⟨x, isx, rfl⟩, sc⟩
      · exact el e z
    have ap1 : es1.toList.Pairwise (Apart kd) := (apart_perm pc).mpr (List.pairwise_cons.mpr ⟨fun e he y z => none_ e he (by rw [kd.inj _ _ _ isx z.1]; exact z.2), ap⟩)
    have mem1 : ∀ i, (S i || decide (i = x)) = true ↔ HasKey kd es1.toList i := fun i => by
      rw [Bool.or_eq_true, decide_eq_true_eq, mem i, HasKey.perm pc]
      constructor
      · rintro (⟨e, he, z⟩ | z)
        · exact ⟨e, List.mem_cons_of_mem _ he, z⟩
        · exact ⟨_, List.mem_cons_self, by rw [z]; exact isx⟩
      · rintro ⟨e, he, z⟩
        rcases List.mem_cons.mp he with q | q
        · rw [q] at z; exact .inr (kd.inj _ _ _ z isx)
        · exact .inl ⟨e, q, z⟩
    have num1 : es1.size = n + 1 := by rw [← Array.length_toList, pc.length_eq, List.length_cons, Array.length_toList, num]
    have few1 : es1.size < scanBound := by rw [num1]; exact room
    have led1 : w.params.followText "set-order" = true ∨ t1.led = true := led.imp id fun z => by rw [l1]; exact z
    have fin : ∀ h', Heap.SameBut a s.heap h' → SetG kd h' a (fun j => S j || decide (j = x)) es1.size → Q true { s with heap := h' } := fun h' sb r => by
      have q := go h' sb
      rw [Sx] at q
      rw [num1] at r
      exact q r
    refine wpAny_bind (rl _ ?_)
    split
    · refine wpAny_bind ?_
      rw [hashByValue_scannable 8 sc]; refine wpAny_pure ?_
      refine put_end (fun b s1 R q => by cases b <;> first | exact wpAny_pure q | exact wpAny_rule q) at_ ex dat el1 ap1 mem1 few1 ?_ ?_ ?_ fun h' sb r => wpAny_pure (fin h' sb r)
      · first | (split <;> first | exact f1 | exact SetTable.fits_plain_off f1) | exact f1
      · first | (split <;> exact r1) | exact r1
      · first | (split <;> exact led1) | exact led1
    · refine wpAny_bind (wpAny_pure ?_)
      simp only [↓reduceIte]
      exact put_end (fun b s1 R q => by cases b <;> first | exact wpAny_pure q | exact wpAny_rule q) at_ ex dat el1 ap1 mem1 few1 f1 r1 led1 fun h' sb r => wpAny_pure (fin h' sb r)
/-- set.add -/
theorem put_add {x : κ} {v : Value} (isx : kd.is x v = true) (sc : v.scannable = true) {Q : Value → Shared → Prop} (R : SetG kd s.heap a S n) (room : n + 1 < scanBound)
    (go : ∀ h', Heap.SameBut a s.heap h' → SetG kd h' a (fun j => S j || decide (j = x)) (if S x = true then n else n + 1) → Q .none { s with heap := h', toks := s.toks + 1 }) : wpAny (model P w) A (call (.builtin "set.add") [.ref a, v]) Q E s := by
  have so : s.heap.SetOf kd a S n := R.of
  refine wpAny_call_entry F.slot_set_add so.typeIs F.entry_set_add ?_ (F.args_set_add_2 _ _)
  unfold Builtin.«set.add» Builtin.Frozenset.oneOther; simp only [List.isEmpty_nil, bind_assoc]
  unfold Builtin.Frozenset.addrOf setAdd; refine wpAny_bind (wpAny_pure ?_)
  try dsimp only
  refine wpAny_bind (wpAny_pure ?_)
  try dsimp only
  refine wpAny_bind (wpAny_holding (wpAny_bind (kd.pyHash isx (put_hashed (s := { s with toks := s.toks + 1 }) isx sc R room fun h' sb r => ?_))))
  show wpAny _ _ (ret Value.none) _ _ _
  exact wpAny_pure ⟨_, rfl, go h' sb r⟩
end
end LayT
set_option maxHeartbeats 2000000
namespace LayT
open PySem PySem.Spec PyProof.Rows L2 PpSet
/-- a set of keys (ints, texts) that can be walked -/
def SetW (P : Program) (w : World) (a : Addr) (S : Key → Bool) (n : Nat) : HO := .ext fun h => SetG (mixKind P w) h a S n
section
variable {P : Program} {w : World} {H : Hp} {h : Heap} {a : Addr} {S : Key → Bool} {n : Nat}
theorem SetW.new (R : SetG (mixKind P w) h a S n) : ObjOk P w H h a (SetW P w a S n) := ⟨R, R.there, fun _ _ p k => SetG.keep p k⟩
theorem SetW.get {X : Cx} {pins : List (Addr × Obj)} {σ : L2.St} {s : Shared} (I : Inv X pins σ H s) (e : H a = some (SetW X.prog X.w a S n)) : SetG (mixKind X.prog X.w) s.heap a S n := (I.hok a _ e).1
/-- one more key -/
theorem add_in {X : Cx} {pins : List (Addr × Obj)} {σ : L2.St} {s : Shared} {E : Value → Shared → Prop} {Q : Value → Shared → Prop} {k : Key} {u : Value} (I : Inv X pins σ H s) (e : H a = some (SetW X.prog X.w a S n)) (room : n + 1 < scanBound) (ru : RelV (kV k) u)
    (go : ∀ s', Inv X pins σ (upd H a (SetW X.prog X.w a (fun j => S j || decide (j = k)) (if S k = true then n else n + 1))) s' → Q .none s') : wpAny (model X.prog X.w) X.A (call (.builtin "set.add") [.ref a, u]) Q E s :=
  put_add (kV_is ru) (key_scan ru) (SetW.get I e) room fun h' same R => go _ (I.write (e := a) (t' := s.toks + 1) (by rw [e]; trivial) (.inl rfl) (fun b o nb q => (same.2 b nb).trans q) R.there (SetW.new R))
end
section
variable {X : Cx}
/-- {elt for target in iter if ..}, elt a key: D the new set -/
def tScK (P : Program) (w : World) (wi : TI) (g : TG) (tt : TT) (te : TE) (vs : List Nat) : TE := fun σ H Q => wi σ H fun J H1 => ∀ D, H1 D = none → ∃ W : Nat → Nat → Hp → Prop, (∃ m, W 0 m (upd H1 D (SetW P w D (fun _ => false) 0))) ∧ ∀ i m H, W i m H →
  (J.stop i H ∧ Q (.ref D) H) ∨ (J.go i H ∧ ∃ N : Hp → Prop, (∀ G, N G → ∃ m', m' < m ∧ W (i + 1) m' G) ∧ ∀ x G, J.yld i H x G → g x (wipe σ vs) G fun σ2 G2 => wipe σ2 vs = wipe σ vs ∧ tt σ2 G2 fun b G3 =>
    if b = true then te σ2 G3 fun y G4 => ∃ (k : Key) (S : Key → Bool) (n : Nat), y = kV k ∧ G4 D = some (SetW P w D S n) ∧ n + 1 < scanBound ∧ N (upd G4 D (SetW P w D (fun j => S j || decide (j = k)) (if S k = true then n else n + 1))) else N G3)
abbrev theSet (w : World) : Obj := { cls := .type "set", dict := none, data := .set #[] 0 (.fresh 0 0 (!w.params.followText "set-order")) }
theorem core {pins : List (Addr × Obj)} {s : Shared} {σ : L2.St} {H : Hp} {Q : VK} {elt tg iter : Expr} {ifs : List Expr} {scope : Scope} {own : List (PySem.Str × Nat)} {pos pos' : Pos} {wi : TI} {g : TG} {tt : TT} {te : TE} {use : Option (Value → Sem Unit)} {Qf : Value → Shared → Prop}
    (calm : X.calm = true) (nd : X.N.Nodup) (I : Inv X pins σ H s) (src : PI X tg iter wi) (blk : BlkOk X.N X.env.scope scope own) (pgs : ∀ (s : Shared) (H : Hp) (C : Addr) (cl : List (PySem.Str × Addr)) (fp : List Addr), PG (X.blk s H scope (compEnvC scope cl C X.env) fp) tg g)
    (pts : ∀ (s : Shared) (H : Hp) (C : Addr) (cl : List (PySem.Str × Addr)) (fp : List Addr), PTs (X.blk s H scope (compEnvC scope cl C X.env) fp) ifs tt) (pes : ∀ (s : Shared) (H : Hp) (C : Addr) (cl : List (PySem.Str × Addr)) (fp : List Addr), PE (X.blk s H scope (compEnvC scope cl C X.env) fp) elt te)
    (fold : ∀ x, foldedSetIterable iter X.env x = pure x) (wish : tScK X.prog X.w wi g tt te (own.map (·.2)) σ H Q)
    (fin : ∀ D C s' m G, Inv X pins σ G s' → Q (.ref D) G → s'.heap.Ns C m → FpOk X pins G C → compPost (model X.prog X.w) X.A X.xe use Qf (.ref D) C (.ok .next) s') :
    wpAny (model X.prog X.w) X.A (comprehension (.SetComp elt [⟨tg, iter, ifs, 0⟩] scope pos) scope X.env pos' (newSet (.type "set")) false (eval iter X.env) use) Qf X.xe s := by
  have free : ∀ y ∈ scope.names, y.2 = .free → ∃ c, X.env.cells.lookup y.1 = some c := fun y hy e => by
    rcases blk.free y hy e with z | z
    · exact I.ok.has _ (.inl z)
    · exact I.ok.has _ (.inr z)
  refine wpAny_comprehension_free (use := use) rfl fold (closure_ok free) blk.kind (fun y hy e => by rw [blk.uniq y hy, e]) (thn (src.run pins s σ H _ I wish) fun xv sA hx => thn hx fun itv sB hB => ?_)
  obtain ⟨it, fp, tn, J, HB, rfl, IB, T, stB, fpB, q⟩ := hB
  refine newSet_ok (newEnv_comp ?_)
  generalize eD : sB.heap.objs.size = D
  have freeD : HB D = none := IB.hok.fresh (Nat.le_of_eq eD)
  obtain ⟨W, ⟨mZ, wZ⟩, turn⟩ := q D freeD
  generalize eC : ({ sB with heap := sB.heap.push (theSet X.w) } : Shared) = sC
  have IC : Inv X pins σ (upd HB D (SetW X.prog X.w D (fun _ => false) 0)) sC := by
    rw [← eC]; refine IB.laid (t' := sB.toks) (fun b o e => Heap.get?_push_of_some _ e) (Nat.le_of_eq eD) ?_
    rw [← eD]; exact SetW.new setG_new
  have hC : sC.heap = sB.heap.push (theSet X.w) := by rw [← eC]
  have small : ∀ b ∈ fp, b < sB.heap.objs.size := fun b hb => let ⟨_, e, _⟩ := T.obj _ _ stB b hb; Heap.lt_size e
  have fpC : ∀ b ∈ fp, FpOk X pins (upd HB D (SetW X.prog X.w D (fun _ => false) 0)) b ∧ b < sC.heap.objs.size := fun b hb => by
    have lt := small b hb
    refine ⟨⟨?_, (fpB b hb).2⟩, by rw [hC, Heap.size_push]; exact Nat.lt_succ_of_lt lt⟩
    rw [upd_ne (by rw [← eD]; exact Nat.ne_of_lt lt)]; exact (fpB b hb).1
  have stC : tn 0 sC.heap := T.keep _ _ _ stB fun b _ o e => by rw [hC]; exact Heap.get?_push_of_some _ e
  have IE := block_start IC blk nd fpC
  have hg := pgs sC (upd HB D (SetW X.prog X.w D (fun _ => false) 0)) sC.heap.objs.size (cellsFrom (sC.heap.objs.size + 1) scope.names (cloFrom X.env.cells scope.names [])) fp
  have ht := pts sC (upd HB D (SetW X.prog X.w D (fun _ => false) 0)) sC.heap.objs.size (cellsFrom (sC.heap.objs.size + 1) scope.names (cloFrom X.env.cells scope.names [])) fp
  have he := pes sC (upd HB D (SetW X.prog X.w D (fun _ => false) 0)) sC.heap.objs.size (cellsFrom (sC.heap.objs.size + 1) scope.names (cloFrom X.env.cells scope.names [])) fp
  show codeAny _ _ (.compStart (.SetComp elt [⟨tg, iter, ifs, 0⟩] scope pos) 0 (.ref it) (.ref D) (compEnvC scope (cellsFrom (sC.heap.objs.size + 1) scope.names (cloFrom X.env.cells scope.names [])) sC.heap.objs.size X.env)) (compPost (model X.prog X.w) X.A X.xe use Qf (.ref D) sC.heap.objs.size) { sC with heap := pushCells (sC.heap.push { cls := .type "dict", data := .dict #[] }) scope.names }
  have off : ∀ b ∈ fp, (upd HB D (SetW X.prog X.w D (fun _ => false) 0)) b = none := fun b hb => (fpC b hb).1.1
  generalize eEnv : compEnvC scope (cellsFrom (sC.heap.objs.size + 1) scope.names (cloFrom X.env.cells scope.names [])) sC.heap.objs.size X.env = env at IE hg ht he ⊢
  have loc : env.locals = sC.heap.objs.size := by subst eEnv; rfl
  generalize eH : upd HB D (SetW X.prog X.w D (fun _ => false) 0) = HC at IC IE hg ht he wZ off fpC
  generalize eS : ({ sC with heap := pushCells (sC.heap.push { cls := .type "dict", data := .dict #[] }) scope.names } : Shared) = sD at IE ⊢
  have stD : tn 0 sD.heap := T.keep _ _ _ stC fun b _ o e => by rw [← eS]; exact pushCells_keeps _ _ _ _ (Heap.get?_push_of_some _ e)
  have foot : ∀ {σ' : L2.St} {G : Hp} {s' : Shared}, Inv (X.blk sC HC scope env fp) [] σ' G s' → (∀ b ∈ fp, G b = none) → ∀ b ∈ fp, FpOk (X.blk sC HC scope env fp) [] G b := fun {σ' G s'} I' z b hb =>
    ⟨z b hb, (I'.ok.exf b hb).1, I'.ok.exfs b hb, .inl hb, fun x c e => (I'.ok.exf b hb).2 x c e, fun p hp => absurd (show p ∈ ([] : List (Addr × Obj)) ++ [] from hp) (by simp)⟩
  have loop : codeAny (model X.prog X.w) X.A (.compLoop (.SetComp elt [⟨tg, iter, ifs, 0⟩] scope pos) 0 (.ref it) (.ref D) env) (compPost (model X.prog X.w) X.A X.xe use Qf (.ref D) sC.heap.objs.size) sD := by
    refine compLoopS_any (fun n s' => ∃ i G, Inv (X.blk sC HC scope env fp) [] (wipe σ (own.map (·.2))) G s' ∧ tn i s'.heap ∧ (∀ b ∈ fp, G b = none) ∧ W i n G) ?_ mZ ⟨0, HC, IE, stD, off, wZ⟩
    rintro n sF ⟨i, HF, IF, stF, nF, wF⟩
    rcases turn i n HF wF with ⟨stop, done⟩ | ⟨goes, N, less, step⟩
    · refine thnF (T.done (X.blk sC HC scope env fp) rfl rfl rfl calm i [] sF _ HF (fun _ _ => False) IF (foot IF nF) stF stop) fun r sG ⟨er, IG⟩ => ?_
      subst er
      have IH : Inv X pins σ HF sG := IC.call' (ch := fp) IG.os IG.base IG.hok IG.bare fun b hb => ⟨(fpC b hb).1.2.2.2.1, (fpC b hb).1.2.1, (fpC b hb).1.2.2.2.2.1, (fpC b hb).1.2.2.2.2.2⟩
      have nC : HF sC.heap.objs.size = none := by
        have z : HF env.locals = none := IG.free
        rw [loc] at z; exact z
      obtain ⟨m, ns, _⟩ := IG.loc
      have ns' : sG.heap.Ns env.locals m := ns
      rw [loc] at ns'
      exact fin D sC.heap.objs.size sG m HF IH done ns' (IC.fpOk (Nat.le_refl _) nC)
    · refine thnF (T.item (X.blk sC HC scope env fp) rfl rfl rfl calm i [] sF _ HF (fun _ _ => False) IF (foot IF nF) stF goes) fun r sG ⟨u, er, hG⟩ => ?_
      subst er
      refine thnF hG fun _ sI ⟨x, HI, II, rI, yI, stI, nI⟩ => ?_
      refine thnF (hg.run _ sI _ HI x u _ (II.pinned (foot II nI) (T.obj _ _ stI)) rI (step x HI yI)) fun _ sJ ⟨σJ, HJ, IJ, wJ, qJ⟩ => ?_
      refine thnF (ht.run _ sJ σJ HJ _ IJ qJ) fun b sK ⟨HK, IK, qK⟩ => ?_
      have last : ∀ {s' : Shared} {G : Hp}, Inv (X.blk sC HC scope env fp) ([] ++ pinsAt fp sI.heap) σJ G s' → N G → ∃ m, m < n ∧ ∃ i G, Inv (X.blk sC HC scope env fp) [] (wipe σ (own.map (·.2))) G s' ∧ tn i s'.heap ∧ (∀ b ∈ fp, G b = none) ∧ W i m G := fun {s' G} I' nx => by
        obtain ⟨m', lt, w'⟩ := less G nx
        have pin : ∀ b ∈ fp, ∀ o, sI.heap.get? b = some o → s'.heap.get? b = some o ∧ G b = none := fun b hb o e => let z := I'.pin (b, o) (List.mem_append_right _ (List.mem_append_right _ (mem_pinsAt hb e))); ⟨z.1, z.2.1⟩
        have len : (wipe σ (own.map (·.2))).length = σJ.length := by rw [← wJ, wipe_length]
        refine ⟨m', lt, i + 1, G, (I'.unpinned (pins := [])).weak len (fun j v e => ?_), T.keep _ _ _ stI fun b hb o e => (pin b hb o e).1, fun b hb => ?_, w'⟩
        · rw [← wJ] at e; exact (wipe_some e).1
        · obtain ⟨o, e, _⟩ := T.obj _ _ stI b hb
          exact (pin b hb o e).2
      cases b with
      | false => simp only [Bool.false_eq_true, if_false] at qK ⊢; exact last IK qK
      | true =>
        simp only [if_true] at qK ⊢
        refine thnF (he.run _ sK σJ HK _ IK qK) fun z sL ⟨y, HL, IL, rL, k, S, num, ey, hD, room, nx⟩ => ?_
        subst ey
        exact add_in (X := X.blk sC HC scope env fp) IL hD room rL fun s' I' => last I' nx
  exact codeAny_compStart_set loop (T.self X.A 0 _ _ _ stD loop)
theorem pe_scK {elt tg iter : Expr} {ifs : List Expr} {scope : Scope} {own : List (PySem.Str × Nat)} {pos : Pos} {wi : TI} {g : TG} {tt : TT} {te : TE} (calm : X.calm = true) (nd : X.N.Nodup) (src : PI X tg iter wi) (blk : BlkOk X.N X.env.scope scope own)
    (pgs : ∀ (s : Shared) (H : Hp) (C : Addr) (cl : List (PySem.Str × Addr)) (fp : List Addr), PG (X.blk s H scope (compEnvC scope cl C X.env) fp) tg g) (pts : ∀ (s : Shared) (H : Hp) (C : Addr) (cl : List (PySem.Str × Addr)) (fp : List Addr), PTs (X.blk s H scope (compEnvC scope cl C X.env) fp) ifs tt)
    (pes : ∀ (s : Shared) (H : Hp) (C : Addr) (cl : List (PySem.Str × Addr)) (fp : List Addr), PE (X.blk s H scope (compEnvC scope cl C X.env) fp) elt te) (fold : ∀ x, foldedSetIterable iter X.env x = pure x := by intro _; rfl) :
    PE X (.SetComp elt [⟨tg, iter, ifs, 0⟩] scope pos) (tScK X.prog X.w wi g tt te (own.map (·.2))) := by
  refine ⟨fun pins s σ H Q I wish => ?_⟩
  rw [eval_SetComp]
  refine core calm nd I src blk pgs pts pes fold wish fun D C s' m G I' q ns f => ⟨m, ns, fun h'' same => ?_⟩
  obtain ⟨f0, f1, f2, f3, f4, f5⟩ := f
  exact ⟨.ref D, G, I'.turned (t' := s'.toks) (fun b o nb e => (same.2 b nb).trans e) f0 f1 f3 f4 f5, rfl, q⟩
end
end LayT
set_option maxHeartbeats 2000000
namespace LayT
open PySem PySem.Spec PyProof.Rows L2 PpSet
/-! ### sorted(a set of texts) -/
def textOf (v : Value) : Str := match v with
  | .str x _ => x
  | _ => Str.empty
theorem texts_of : ∀ (l : List Value), (∀ v ∈ l, ∃ x t, v = Value.str x t) → StrsAre l (l.map textOf)
  | [], _ => .nil
  | v :: l, f => by
    obtain ⟨x, t, rfl⟩ := f v List.mem_cons_self
    exact .cons x t (texts_of l fun u hu => f u (List.mem_cons_of_mem _ hu))
theorem is_text {P : Program} {w : World} {x y : Str} {t : Tok} : (mixKind P w).is (Sum.inr x : Key) (.str y t) = true ↔ x = y := by
  constructor
  · intro h
    rcases keyIs_shape (show keyIs (Sum.inr x : Key) (.str y t) = true from h) with ⟨i, t', e, _⟩ | ⟨x', t', e, e'⟩
    · cases e
    · cases e
      cases e'
      rfl
  · rintro rfl
    exact kV_is (show RelV (kV (Sum.inr x : Key)) (.str x t) from ⟨t, rfl⟩)
section
variable {P : Program} {w : World} {A : Around} {E : Value → Shared → Prop} {s : Shared} {a : Addr} {S : Key → Bool} {n : Nat}
theorem sorted_texts {Q : Value → Shared → Prop} (R : SetG (mixKind P w) s.heap a S n) (calm : A.handled = none) (few : n < 64) (txt : ∀ k, S k = true → ∃ x, k = (Sum.inr x : Key))
    (go : ∀ s' p (out : Array Value) (c : Nat) (ys : List Str), (∀ b o, s.heap.get? b = some o → s'.heap.get? b = some o) → s'.gens = s.gens → s'.os = s.os → s.heap.objs.size ≤ p → s'.heap.get? p = some (seqObj "list" out c) → StrsAre out.toList ys →
      sortedS ys = true → ys.Nodup → (∀ x, x ∈ ys ↔ S (Sum.inr x) = true) → ys.length = n → Q (.ref p) s') : wpAny (model P w) A (call (.builtin "sorted") [.ref a]) Q E s := by
  obtain ⟨o, es, ep, t, at_, ex, dat, el, ap, mem, sm, fit, num, ris, led⟩ := R
  have isT : ∀ e ∈ es.toList, ∃ x tk, e.2 = Value.str x tk := fun e he => by
    obtain ⟨⟨k, hk, _⟩, _⟩ := el e he
    obtain ⟨x, rfl⟩ := txt k ((mem k).mpr ⟨e, he, hk⟩)
    rcases keyIs_shape (show keyIs (Sum.inr x : Key) e.2 = true from hk) with ⟨i, tk, z, _⟩ | ⟨y, tk, _, z⟩
    · cases z
    · exact ⟨y, tk, z⟩
  have key : ∀ e ∈ es.toList, ∀ x, (mixKind P w).is (Sum.inr x : Key) e.2 = true ↔ x = textOf e.2 := fun e he x => by
    obtain ⟨y, tk, z⟩ := isT e he
    rw [z]; exact is_text
  refine Calls.call_function_entry kind_sorted plain_sorted entry_sorted (args_sorted1 _) ?_
  unfold Builtin.«sorted»; refine wpAny_bind (m := checkCount "sorted" 1 1 _) (wpAny_pure (wpAny_bind (collect_set (A := A.in1) calm ⟨o, at_, ex.1, dat⟩ fit sm ris led fun sB vs keep grow gens os perm => ?_)))
  have lenV : vs.length = n := by rw [perm.length_eq, List.length_map, Array.length_toList]; exact num
  have are : StrsAre vs (vs.map textOf) := texts_of vs fun v hv => by
    obtain ⟨e, he, rfl⟩ := List.mem_map.mp (perm.mem_iff.mp hv)
    exact isT e he
  have permT : (vs.map textOf).Perm (es.toList.map fun e => textOf e.2) := by
    have q := perm.map textOf
    rw [List.map_map] at q; exact q
  have ndT : (es.toList.map fun e => textOf e.2).Nodup := by
    refine List.pairwise_map.mpr (List.Pairwise.imp_of_mem (fun {e f} he hf d z => ?_) ap)
    exact d (Sum.inr (textOf e.2)) ⟨(key e he _).mpr rfl, (key f hf _).mpr z⟩
  have memT : ∀ x, x ∈ (es.toList.map fun e => textOf e.2) ↔ S (Sum.inr x) = true := fun x => by
    rw [mem, List.mem_map]
    exact ⟨fun ⟨e, he, z⟩ => ⟨e, he, (key e he x).mpr z.symm⟩, fun ⟨e, he, z⟩ => ⟨e, he, ((key e he x).mp z).symm⟩⟩
  refine wpAny_bind (wpAny_newList ?_ (by rw [lenV, sizeLine_eq]; omega))
  have newL : (sB.heap.push (seqObj "list" vs.toArray 0)).get? sB.heap.objs.size = some (seqObj "list" vs.toArray 0) := Heap.get?_push_size _ rfl
  refine wpAny_bind (wpAny_holding (wpAny_call_entry slot_list_sort ⟨_, newL, rfl⟩ entry_list_sort (list_sort_treeK strKind_oneLt newL are.keysOf (fun v1 v2 rest e => keyKind_strs (by rw [← e]; exact are)) (by rw [lenV]; exact few) fun st p1 p2 => ⟨_, rfl, ?_⟩) (args_list_sort _)))
  obtain ⟨ys, b1, b2, b3⟩ := sorted_out_str are p1 p2
  obtain ⟨c, hc⟩ := sortedHeap_at (vs := vs) (out := (arrOf st).map (·.2)) newL
  have pn := b2.trans permT
  refine wpAny_pure ⟨_, rfl, go _ sB.heap.objs.size ((arrOf st).map (·.2)) c ys (fun b u e => ?_) gens os grow hc b1 b3 (pn.nodup_iff.mpr ndT) (fun x => by rw [pn.mem_iff, memT]) ?_⟩
  · have q := keep b u e
    have lt := Heap.lt_size q
    show (sortedHeap (sB.heap.push (seqObj "list" vs.toArray 0)) sB.heap.objs.size vs ((arrOf st).map (·.2))).get? b = some u
    rw [sortedHeap_old (Nat.ne_of_lt lt) (by rw [size_push']; exact Nat.lt_succ_of_lt lt)]; exact Heap.get?_push_of_some _ q
  · rw [pn.length_eq, List.length_map, Array.length_toList]; exact num
end
def rSortW (P : Program) (w : World) : List V → Hp → VK → Prop := fun vs H Q => ∃ (a : Addr) (S : Key → Bool) (n : Nat), vs = [V.ref a] ∧ H a = some (SetW P w a S n) ∧ n < 64 ∧ (∀ k, S k = true → ∃ x, k = (Sum.inr x : Key)) ∧
  ∀ (ys : List Str) (p : Addr), sortedS ys = true → ys.Nodup → (∀ x, x ∈ ys ↔ S (Sum.inr x) = true) → ys.length = n → H p = none → Q (.ref p) (upd H p (.lst (ys.map V.str)))
theorem cr_sortW {X : Cx} (calm : X.calm = true) : CallR X (.builtin "sorted") (rSortW X.prog X.w) := by
  intro pins s σ H vs us Q I r wish
  obtain ⟨a, S, n, rfl, e, few, txt, q⟩ := wish
  rw [Vals.ref1 r]
  refine sorted_texts (SetW.get I e) (I.ok.hd calm) few txt fun s' p out c ys keep gens os new at_ are srt nd mem len => ?_
  have small : (ys.map V.str).length ≤ sizeLine := by rw [List.length_map, len, sizeLine_eq]; omega
  have free : H p = none := I.hok.fresh new
  have J : Inv X pins σ (upd H p (.lst (ys.map V.str))) { s with heap := s'.heap, gens := s'.gens, drawn := s'.drawn, toks := s'.toks } :=
    I.call (ch := []) (Un.laid keep new free) (I.hok.laid keep new ⟨small, out.toList, c, vals_of_strs are, at_⟩) (by rw [gens]; exact I.bare) (fun _ z => nomatch z)
  have eS : s' = { s with heap := s'.heap, gens := s'.gens, drawn := s'.drawn, toks := s'.toks } := by
    cases s'; cases s; cases os; rfl
  rw [eS]
  exact ⟨.ref p, _, J, rfl, q ys p srt nd mem len free⟩
/-! ### walks of a set comprehension -/
theorem scK_it {P : Program} {w : World} {J : It} {m : Nat} {G : Hp → Prop} {Y : Nat → Hp → V → Hp → Prop} (walk : Walk J m G Y) {g : TG} {tt : TT} {te : TE} {vs : List Nat} {σ : L2.St} {H1 : Hp} {D : Addr} {Qd : Hp → Prop} (Pv : Nat → Hp → Prop) (start : Pv 0 (upd H1 D (SetW P w D (fun _ => false) 0)))
    (stays : ∀ i H, i ≤ m → Pv i H → G H) (turn : ∀ i x H H', i < m → Pv i H → Y i H x H' → g x (wipe σ vs) H' fun σ2 H2 => wipe σ2 vs = wipe σ vs ∧ tt σ2 H2 fun b H3 =>
      if b = true then te σ2 H3 fun y H4 => ∃ (k : Key) (S : Key → Bool) (n : Nat), y = kV k ∧ H4 D = some (SetW P w D S n) ∧ n + 1 < scanBound ∧ Pv (i + 1) (upd H4 D (SetW P w D (fun j => S j || decide (j = k)) (if S k = true then n else n + 1))) else Pv (i + 1) H3) (behind : ∀ H, Pv m H → Qd H) :
    ∃ W : Nat → Nat → Hp → Prop, (∃ q, W 0 q (upd H1 D (SetW P w D (fun _ => false) 0))) ∧ ∀ i q H, W i q H → (J.stop i H ∧ Qd H) ∨ (J.go i H ∧ ∃ N : Hp → Prop, (∀ G, N G → ∃ q', q' < q ∧ W (i + 1) q' G) ∧ ∀ x G, J.yld i H x G → g x (wipe σ vs) G fun σ2 G2 => wipe σ2 vs = wipe σ vs ∧ tt σ2 G2 fun b G3 =>
      if b = true then te σ2 G3 fun y G4 => ∃ (k : Key) (S : Key → Bool) (n : Nat), y = kV k ∧ G4 D = some (SetW P w D S n) ∧ n + 1 < scanBound ∧ N (upd G4 D (SetW P w D (fun j => S j || decide (j = k)) (if S k = true then n else n + 1))) else N G3) := by
  refine ⟨fun i q H => q = m - i ∧ i ≤ m ∧ Pv i H, ⟨m, rfl, Nat.zero_le _, start⟩, ?_⟩
  rintro i q H ⟨rfl, le, p⟩
  have gd := stays i H le p
  rcases Nat.lt_or_eq_of_le le with lt | rfl
  · exact .inr ⟨walk.goes i H lt gd, Pv (i + 1), fun G p' => ⟨m - (i + 1), by omega, rfl, lt, p'⟩, fun x G y => turn i x H G lt p (walk.yields i H x G lt gd y)⟩
  · exact .inl ⟨walk.stops H gd, behind H p⟩
end LayT
set_option maxHeartbeats 2000000
/-! LayT4: del xs[a:] of a list -/
namespace LayT
open PySem PySem.Spec PyProof.Rows L2
theorem keep_take {α : Type} (g : α × Nat → Option α) (a : Nat) : ∀ (its : List α) (m : Nat), (∀ x k, m ≤ k → k < m + its.length → g (x, k) = if a ≤ k then none else some x) → (its.zipIdx m).filterMap g = its.take (a - m)
  | [], m, _ => by simp
  | x :: its, m, h => by
    rw [List.zipIdx_cons, List.filterMap_cons]
    have ih := keep_take g a its (m + 1) fun y k h1 h2 => h y k (by omega) (by rw [List.length_cons]; omega)
    have h0 := h x m (Nat.le_refl _) (by rw [List.length_cons]; omega)
    by_cases e : a ≤ m
    · rw [if_pos e] at h0
      have e1 : a - m = 0 := by omega
      have e2 : a - (m + 1) = 0 := by omega
      rw [e1, List.take_zero]
      rw [e2, List.take_zero] at ih
      rw [h0]
      exact ih
    · rw [if_neg e] at h0
      have e1 : a - m = (a - (m + 1)) + 1 := by omega
      rw [e1, List.take_succ_cons, h0, ← ih]
theorem pick_eq {α : Type} {a k n : Nat} (hk : k < n) (x : α) : (if (if (1 : Int) > 0 then decide ((a : Int) ≤ (k : Int)) && decide ((k : Int) < (n : Int)) && ((k : Int) - (a : Int)) % 1 == 0 else decide ((n : Int) < (k : Int)) && decide ((k : Int) ≤ (a : Int)) && ((a : Int) - (k : Int)) % (-1) == 0) = true then none else some x) = if a ≤ k then none else some x := by
  rw [if_pos (show (1 : Int) > 0 by decide)]
  have h1 : decide ((k : Int) < (n : Int)) = true := by rw [decide_eq_true_eq]; omega
  have h2 : (((k : Int) - (a : Int)) % 1 == 0) = true := by rw [Int.emod_one]; rfl
  rw [h1, h2, Bool.and_true, Bool.and_true]
  by_cases e : a ≤ k
  · rw [if_pos e, if_pos (by rw [decide_eq_true_eq]; omega)]
  · rw [if_neg e, if_neg (by rw [decide_eq_true_eq]; omega)]
theorem bounds_tail {a n : Nat} (ha : a ≤ n) : sliceBounds (some (a : Int)) none none n = ((a : Int), (n : Int), 1) := by
  simp only [sliceBounds, Option.getD_none]
  have h1 : ¬ ((a : Int) < 0) := by omega
  simp only [h1, if_false, show (1 : Int) > 0 by decide, if_true]
  congr 1
  omega
section
variable {prog : Program} {w : World} {A : Around} {E : Value → Shared → Prop} {s : Shared}
theorem delItem_slice {l sl : Addr} {its : List Value} {n : Nat} {vl vu : Value} {a : Nat} {Q : Unit → Shared → Prop}
    (e : s.heap.get? l = some { cls := .type "list", data := .seq its.toArray n }) (hs : s.heap.IsSliceOf sl vl vu .none) (pl : IsPart vl (some (a : Int))) (pu : IsPart vu none) (ha : a ≤ its.length)
    (hsz : its.length ≤ sizeLine) (h : ∀ f, f its.toArray = (its.take a).toArray → Q () { s with heap := s.heap.update l (Obj.mapSeq f) }) :
    wpAny (model prog w) A (delItem (.ref l) (.ref sl)) Q E s := by
  have hl : s.heap.IsList l its.toArray := PySem.IsL.isList e
  obtain ⟨os, hos, hcs, hds⟩ := id hs
  have hTs : s.TypeIs (.ref sl) "slice" := ⟨os, hos, hcs⟩
  have hstep : ¬ ((rawPart none == rawInt 0) = true) := Bool.false_ne_true
  have hsz2 : its.toArray.size ≤ sizeLine := by rw [List.size_toArray]; exact hsz
  refine wpAny_delItem_slot hl.typeIs (by decide) F.slot_list_delitem (wpAny_call_entry F.slot_list_delitem hl.typeIs F.entry_list_delitem ?_ (F.args_list_delitem_2 _ _))
  show wpAny _ _ (Builtin.List.listSubscript? (.ref sl) >>= _) _ _ s
  refine wpAny_bind ?_
  unfold Builtin.List.listSubscript?
  refine wpAny_bind (wpAny_specialOf hTs slice_no_index ?_)
  simp only [Option.isNone_none, if_true]
  refine wpAny_pure ?_
  show wpAny _ _ (typeOf (.ref sl) >>= _) _ _ s
  refine wpAny_bind (wpAny_typeOf hTs ?_)
  first
    | rw [if_neg (by decide)]
    | refine PySem.W.KFB.if_not (by decide) ?_
  rw [listSliceParts_eq]
  refine wpAny_bind (wpAny_bind (wpAny_field hos hds (x := .none) rfl (wpAny_bind (wpAny_listPart .none ?_))))
  rw [if_neg hstep]
  refine wpAny_bind (wpAny_field hos hds (x := vl) rfl (wpAny_bind (wpAny_listPart pl ?_)))
  refine wpAny_bind (wpAny_field hos hds (x := vu) rfl (wpAny_bind (wpAny_listPart pu (wpAny_pure ?_))))
  refine wpAny_bind (wpAny_bind (wpAny_seqItems e rfl (wpAny_pure ?_)))
  refine wpAny_bind (wpAny_of_eq ((sliceIndices_raw (some (a : Int)) none none its.toArray.size (by simp)).trans (congrArg (pure : Int × Int × Int → Sem (Int × Int × Int)) (bounds_tail (n := its.toArray.size) (by rw [List.size_toArray]; exact ha)))) ?_)
  refine wpAny_bind (wpAny_rule ?_)
  refine wpAny_bind ?_
  show wpAny _ _ (updateSeq l _) _ _ s
  refine wpAny_updateSeq (hz := hsz2) (_hz' := ?_) e rfl ?_
  · refine wpAny_bind (wpAny_letGo ?_)
    refine wpAny_pure ⟨.none, rfl, ?_⟩
    refine h _ (congrArg List.toArray ((keep_take _ a its 0 fun x k _ hk => ?_).trans (by rw [Nat.sub_zero])))
    exact pick_eq (n := its.toArray.size) (by rw [List.size_toArray]; omega) x
  · refine Nat.le_trans ?_ (Nat.le_succ_of_le hsz)
    rw [List.size_toArray]
    exact Nat.le_trans (List.length_filterMap_le _ _) (by rw [List.length_zipIdx]; exact Nat.le_refl _)
end
section
variable {X : Cx}
/-- del xs[a:] -/
def tDelT (to : TE) (tl : TO) : TS := fun D σ H => to σ H fun x H1 => tl σ H1 fun lo H2 => ∃ (l : Addr) (xs : List V) (a : Nat), x = .ref l ∧ lo = some (a : Int) ∧ H2 l = some (.lst xs) ∧ a ≤ xs.length ∧ D.nx σ (upd H2 l (.lst (xs.take a)))
theorem ps_delT {o : Expr} {lo : Option Expr} {to : TE} {tl : TO} {p2 tpos pos : Pos} (ho : PE X o to) (hl : PO X lo tl) : PS X (.Delete [.Subscript o (.Slice lo none none p2) tpos] pos) (tDelT to tl) := by
  refine ⟨fun pins s σ H D I h => ?_⟩
  refine wpAny_Delete (wpAny_deleteEach_cons (wpAny_delete_Subscript (thn (ho.run pins s σ H _ I h) fun u s1 ⟨x, H1, I1, rx, q1⟩ => ?_)))
  refine wpAny_Slice (thn (hl.run pins s1 σ H1 _ I1 q1) fun vl s2 ⟨lw, H2, I2, pl, q2⟩ => ?_)
  rw [evalPart_none]
  refine wpAny_pure ?_
  refine wpAny_pure ?_
  obtain ⟨l, xs, a, rfl, rfl, hH, ha, q⟩ := q2
  cases (show u = Value.ref l from rx)
  have I4 : Inv X pins σ H2 { s2 with heap := s2.heap.push { cls := .type "slice", data := .fields #[vl, .none, .none] } } := I2.kept (t' := s2.toks) fun b ob q => Heap.get?_push_of_some _ q
  obtain ⟨z, its, n, r, hln, e⟩ := I4.lstM hH
  refine delItem_slice (a := a) e (Heap.IsSliceOf.new ..) pl .none (by omega) (by omega) fun f hf => wpAny_deleteEach_nil ⟨σ, _, I4.lset (its' := its.take a) (t' := s2.toks) hH e hf (r.take _) (by rw [List.length_take]; omega), q⟩
end
end LayT
/-! max(t), min(t) of a tuple of ints -/
namespace LayT
open PySem PySem.Spec PyProof.Rows L2
section
variable {prog : Program} {w : World} {A : Around} {E : Value → Shared → Prop} {s : Shared} {l : Addr} {xs : Array (Int × Tok)}
theorem tup_kept {h' : Heap} (hk : ∀ b o, b ∉ [s.heap.objs.size] → (s.heap.push { cls := .type "tuple_iterator", data := .fields #[.ref l, .int 0 0] }).get? b = some o → h'.get? b = some o) :
    ∀ b o, s.heap.get? b = some o → h'.get? b = some o := fun b o e => by
  refine hk b o (fun hm => ?_) (Heap.get?_push_of_some _ e)
  rcases List.mem_cons.mp hm with e1 | hm
  · exact absurd (e1 ▸ Heap.lt_size e) (Nat.lt_irrefl _)
  · cases hm
theorem max_intTuple {Q : Value → Shared → Prop} (hh : A.handled = none) (hl : s.heap.IsTuple l (intItems xs)) (hne : 0 < xs.size)
    (h : ∀ v h' tk, (intItems xs)[argBest (fun i j => decide (numAt xs i > numAt xs j)) (xs.size - 1)]? = some v → (∀ b o, s.heap.get? b = some o → h'.get? b = some o) → Q v { s with heap := h', toks := tk }) :
    wpAny (model prog w) A (call (.builtin "max") [.ref l]) Q E s := by
  have hlt : l < s.heap.objs.size := by obtain ⟨_, e, _⟩ := hl; exact Heap.lt_size e
  refine call_max_walk (wpAny_pyIter_tuple hl ?_)
  refine ⟨_, _, _, _, _, _, _, rfl, Walks.tuple (A := A.in1) hh _ l (Nat.ne_of_lt hlt) (intItems xs), ⟨⟨_, Heap.get?_push_size _ rfl, rfl, rfl⟩, hl.push _⟩, fun b hb => ?_, by simpa [intItems] using hne, CmpOf.ints_gt (numAt xs) (fun _ _ => intItems_at), fun v h' tk hP hk => ?_⟩
  · show b < (s.heap.push _).objs.size
    rw [Heap.size_push]
    rcases List.mem_cons.mp hb with rfl | hb
    · exact Nat.lt_succ_self _
    · rcases List.mem_cons.mp hb with rfl | hb
      · exact Nat.lt_succ_of_lt hlt
      · cases hb
  · exact h v h' tk (by simpa [intItems] using hP) (tup_kept hk)
theorem min_intTuple {Q : Value → Shared → Prop} (hh : A.handled = none) (hl : s.heap.IsTuple l (intItems xs)) (hne : 0 < xs.size)
    (h : ∀ v h' tk, (intItems xs)[argBest (fun i j => decide (numAt xs i < numAt xs j)) (xs.size - 1)]? = some v → (∀ b o, s.heap.get? b = some o → h'.get? b = some o) → Q v { s with heap := h', toks := tk }) :
    wpAny (model prog w) A (call (.builtin "min") [.ref l]) Q E s := by
  have hlt : l < s.heap.objs.size := by obtain ⟨_, e, _⟩ := hl; exact Heap.lt_size e
  refine call_min_walk (wpAny_pyIter_tuple hl ?_)
  refine ⟨_, _, _, _, _, _, _, rfl, Walks.tuple (A := A.in1) hh _ l (Nat.ne_of_lt hlt) (intItems xs), ⟨⟨_, Heap.get?_push_size _ rfl, rfl, rfl⟩, hl.push _⟩, fun b hb => ?_, by simpa [intItems] using hne, CmpOf.ints_lt (numAt xs) (fun _ _ => intItems_at), fun v h' tk hP hk => ?_⟩
  · show b < (s.heap.push _).objs.size
    rw [Heap.size_push]
    rcases List.mem_cons.mp hb with rfl | hb
    · exact Nat.lt_succ_self _
    · rcases List.mem_cons.mp hb with rfl | hb
      · exact Nat.lt_succ_of_lt hlt
      · cases hb
  · exact h v h' tk (by simpa [intItems] using hP) (tup_kept hk)
theorem maxT_raw {its : List Value} {ns : List Int} {Q : Value → Shared → Prop} (hh : A.handled = none) (hl : s.heap.IsTuple l its.toArray) (hi : IntsAre its ns) (hne : 0 < ns.length)
    (h : ∀ h' tk M t', (∀ b o, s.heap.get? b = some o → h'.get? b = some o) → M ∈ ns → (∀ a, a ∈ ns → a ≤ M) → Q (.int M t') { s with heap := h', toks := tk }) : wpAny (model prog w) A (call (.builtin "max") [.ref l]) Q E s := by
  obtain ⟨xs, e⟩ := hi.allInts.items
  have hn : numsOf (intItems xs).toList = ns := by rw [← e]; exact hi.numsOf
  rw [nums_intItems] at hn
  subst hn
  rw [e] at hl
  have hsz : 0 < xs.size := by simpa using hne
  refine max_intTuple hh hl hsz fun v h' tk hv hk => ?_
  obtain ⟨t, rfl⟩ := intItems_at hv
  obtain ⟨h1, h2⟩ := argBest_gt (numAt xs) (xs.size - 1)
  refine h h' tk _ t hk ?_ fun a ha => ?_
  · rw [numAt_eq]; exact PySem.getD_mem (by rw [List.length_map, Array.length_toList]; omega)
  · obtain ⟨j, hj, rfl⟩ := mem_getD ha
    rw [List.length_map, Array.length_toList] at hj
    rw [← numAt_eq]; exact h2 j (by omega)
theorem minT_raw {its : List Value} {ns : List Int} {Q : Value → Shared → Prop} (hh : A.handled = none) (hl : s.heap.IsTuple l its.toArray) (hi : IntsAre its ns) (hne : 0 < ns.length)
    (h : ∀ h' tk M t', (∀ b o, s.heap.get? b = some o → h'.get? b = some o) → M ∈ ns → (∀ a, a ∈ ns → M ≤ a) → Q (.int M t') { s with heap := h', toks := tk }) : wpAny (model prog w) A (call (.builtin "min") [.ref l]) Q E s := by
  obtain ⟨xs, e⟩ := hi.allInts.items
  have hn : numsOf (intItems xs).toList = ns := by rw [← e]; exact hi.numsOf
  rw [nums_intItems] at hn
  subst hn
  rw [e] at hl
  have hsz : 0 < xs.size := by simpa using hne
  refine min_intTuple hh hl hsz fun v h' tk hv hk => ?_
  obtain ⟨t, rfl⟩ := intItems_at hv
  obtain ⟨h1, h2⟩ := argBest_lt (numAt xs) (xs.size - 1)
  refine h h' tk _ t hk ?_ fun a ha => ?_
  · rw [numAt_eq]; exact PySem.getD_mem (by rw [List.length_map, Array.length_toList]; omega)
  · obtain ⟨j, hj, rfl⟩ := mem_getD ha
    rw [List.length_map, Array.length_toList] at hj
    rw [← numAt_eq]; exact h2 j (by omega)
end
section
variable {X : Cx}
def rMaxT (K : PySem.W.Frag) : List V → Hp → VK → Prop := fun vs H Q => ∃ (a : Addr) (ns : List Int), vs = [V.ref a] ∧ SqT K H a (ns.map V.int) ∧ 0 < ns.length ∧ ∀ m, m ∈ ns → (∀ y, y ∈ ns → y ≤ m) → Q (.int m) H
def rMinT (K : PySem.W.Frag) : List V → Hp → VK → Prop := fun vs H Q => ∃ (a : Addr) (ns : List Int), vs = [V.ref a] ∧ SqT K H a (ns.map V.int) ∧ 0 < ns.length ∧ ∀ m, m ∈ ns → (∀ y, y ∈ ns → m ≤ y) → Q (.int m) H
theorem cr_maxT (hc : X.calm = true) : CallR X (.builtin "max") (rMaxT X.K) := by
  intro pins s σ H vs us Q I r h
  obtain ⟨a, ns, rfl, hs, hne, q⟩ := h
  obtain ⟨its, rv, hl, _⟩ := I.tuple hs
  rw [Vals.ref1 r]
  exact maxT_raw (I.ok.hd hc) hl rv.ints hne fun h' tk m t' hk h1 h2 => ⟨.int _, H, I.kept hk, ⟨_, rfl⟩, q m h1 h2⟩
theorem cr_minT (hc : X.calm = true) : CallR X (.builtin "min") (rMinT X.K) := by
  intro pins s σ H vs us Q I r h
  obtain ⟨a, ns, rfl, hs, hne, q⟩ := h
  obtain ⟨its, rv, hl, _⟩ := I.tuple hs
  rw [Vals.ref1 r]
  exact minT_raw (I.ok.hd hc) hl rv.ints hne fun h' tk m t' hk h1 h2 => ⟨.int _, H, I.kept hk, ⟨_, rfl⟩, q m h1 h2⟩
end
end LayT
namespace LayT
open PySem PySem.Spec PyProof.Rows L2
/-! ### enumerate(a tuple) -/
set_option maxHeartbeats 1000000 in
theorem enum_new1 {v : Value} {o : Obj} {H : Heap → Prop} (B : Begins v o H) : Meets (Builtin.«enumerate.__new__» ⟨[.type "enumerate", v], []⟩) (fun _ R s => H s.heap ∧
    R (.ok (.ret (.ref (s.heap.push o).objs.size))) { s with heap := (s.heap.push o).push { cls := .type "enumerate", data := .fields #[.none, .bool false, .ref s.heap.objs.size, rawInt 0, .none, .none] } }) :=
  .of_wp fun prog w A R s ⟨h1, h2⟩ => by
    have sub0 := sub_enumerate
    have it0 : ∀ {A' : Around} {E : Value → Shared → Prop} {Q : Value → Shared → Prop}, Q (.ref s.heap.objs.size) { s with heap := s.heap.push o } → wpAny (model prog w) A' (pyIter v) Q E s := fun q => B.iter prog w _ _ s _ h1 q
    obtain ⟨hp, gg, dd, tt, oo⟩ := s
    wp_walk using it0
    refine wpAny_stack_any fun st => wpAny_pure ?_
    split
    · rename_i c _ _ _ _ _
      cases (c == Value.type "enumerate") <;> (wp_walk using it0; exact ⟨_, rfl, h2⟩)
    · wp_walk using it0; exact ⟨_, rfl, h2⟩
section
variable {prog : Program} {w : World} {A : Around} {E : Value → Shared → Prop} {s : Shared}
theorem call_enum1 {v : Value} {o : Obj} {H : Heap → Prop} {Q : Value → Shared → Prop} (B : Begins v o H) (h1 : H s.heap)
    (fin : ∀ h', IsEnum h' (s.heap.objs.size + 1) s.heap.objs.size 0 .none → h'.get? s.heap.objs.size = some o → (∀ b u, s.heap.get? b = some u → h'.get? b = some u) → Q (.ref (s.heap.objs.size + 1)) { s with heap := h' }) :
    wpAny (model prog w) A (call (.type "enumerate") [v]) Q E s := by
  refine callType_new F.called_enumerate (by decide) (F.typeCall_enumerate_1 v) (F.newCall_enumerate_1 v) (fun obj => F.args_object_init_2 obj v) F.entry_enumerate_new (enum_new1 B) ⟨h1, ?_⟩
  have z : (s.heap.push o).objs.size = s.heap.objs.size + 1 := Heap.size_push ..
  show _ ∧ _
  rw [z]
  have e1 : IsEnum ((s.heap.push o).push { cls := .type "enumerate", data := .fields #[.none, .bool false, .ref s.heap.objs.size, rawInt 0, .none, .none] }) (s.heap.objs.size + 1) s.heap.objs.size 0 .none := by
    have q := Heap.get?_push_size (s.heap.push o) (o := { cls := .type "enumerate", data := .fields #[.none, .bool false, .ref s.heap.objs.size, rawInt 0, .none, .none] }) rfl
    rw [z] at q
    exact q
  exact ⟨⟨_, e1, rfl⟩, fin _ e1 (Heap.get?_push_of_some _ (Heap.get?_push_size _ B.free)) fun b u x => Heap.get?_push_of_some _ (Heap.get?_push_of_some _ x)⟩
end
def Itet (K : PySem.W.Frag) (a : Addr) : It :=
  ⟨fun i H => ∃ (xs : List V) (x : V), SqT K H a xs ∧ xs[i]? = some x, fun i H v H' => ∃ T x, v = .ref T ∧ H T = none ∧ H' = upd H T (.tup [.int (i : Nat), x]) ∧ ∀ xs, SqT K H a xs → xs[i]? = some x, fun i H => ∃ xs : List V, SqT K H a xs ∧ xs.length = i⟩
theorem turn_enumT {P : Program} {w : World} {K : PySem.W.Frag} {elts : List Expr} {kk : Nat} {tpos : Pos} (a e it : Addr) :
    Turn P w K (.Tuple elts kk tpos) (Itet K a) [e, it] e (fun i h => (∃ old, IsEnum h e it ((i : Nat) : Int) old) ∧ h.IsTupleIter it a i ∧ e ≠ it ∧ a ≠ it ∧ e ≠ a) where
  mem := List.mem_cons_self
  obj := fun i h ⟨⟨old, he⟩, ⟨o, ho, hc, hd⟩, _⟩ b hb => by
    rcases List.mem_cons.mp hb with z | z
    · subst z
      exact ⟨_, he, fun v q => nomatch q⟩
    · rw [List.mem_singleton.mp z]
      exact ⟨o, ho, fun v q => by rw [hd] at q; cases q⟩
  keep := fun i h h' ⟨⟨old, he⟩, ⟨o, ho, r⟩, n⟩ k => ⟨⟨old, k e List.mem_cons_self _ he⟩, ⟨o, k it (List.mem_cons_of_mem _ List.mem_cons_self) o ho, r⟩, n⟩
  item := by
    rintro X rfl rfl rfl hcalm i pins s σ H E I hf ⟨⟨old, he⟩, hit, n1, n2, n3⟩ ⟨xs, x, hq, hx⟩
    obtain ⟨its, rv, pt, hz⟩ := I.tuple hq
    obtain ⟨u, hu, ru⟩ := rv.get hx
    have lte : e < s.heap.objs.size := Heap.lt_size he
    have lti : it < s.heap.objs.size := by obtain ⟨_, q, _⟩ := hit; exact Heap.lt_size q
    have hh : X.A.in1.handled = none := I.ok.hd hcalm
    have hlt : i < its.toArray.size := by rw [List.size_toArray]; exact (List.getElem?_eq_some_iff.mp hu).1
    refine wpAny_pyNext_enum_itemD (Draws.tuple (A := X.A.in1) hh it a n2 its.toArray) he ⟨hit, pt⟩ hlt n1 (by
      intro z
      rcases List.mem_cons.mp z with z | z
      · exact n1 z
      · exact n3 (List.mem_singleton.mp z)) fun y h' tk hy ho hst' hT hsz hk => ?_
    have ey : y = u := by
      have q : its.toArray[i]? = some y := hy
      rw [show its.toArray[i]? = some u by simpa using hu] at q
      exact (Option.some.inj q).symm
    subst ey
    refine ⟨_, rfl, wpAny_letOwnedTupleGo_enum (s := { s with heap := h', toks := tk + 1 }) ho fun h2 he2 sb => ?_⟩
    have hT2 := (sb.2 s.heap.objs.size (Nat.ne_of_gt lte)).trans hT
    have new : ObjOk X.prog X.w (upd H s.heap.objs.size (.tup [.int (i : Nat), x])) h2 s.heap.objs.size (.tup [.int (i : Nat), x]) :=
      ⟨Nat.le_trans (show 2 ≤ 100000 by decide) (by decide), [.int i tk, y], .cons ⟨_, rfl⟩ (.cons ru .nil), ⟨_, hT2, rfl, _, rfl⟩⟩
    have ne2 : ∀ b, b ∉ [e, it] → b ≠ e ∧ b ≠ it := fun b hb => ⟨fun z => hb (by rw [z]; exact List.mem_cons_self), fun z => hb (by rw [z]; exact List.mem_cons_of_mem _ List.mem_cons_self)⟩
    have J := I.turnedNew (t' := tk + 1) (h' := h2) (ch := [e, it]) (fun b ob hb q => (sb.2 b (ne2 b hb).1).trans (hk b ob (ne2 b hb).1 (ne2 b hb).2 q)) hf (Nat.le_refl _) new
    refine ⟨.ref s.heap.objs.size, _, J, rfl, ⟨_, x, rfl, I.hok.fresh (Nat.le_refl _), rfl, fun ys hy2 => by rw [I.tuple_inj hy2 hq]; exact hx⟩, ⟨⟨y, ?_⟩, ?_, n1, n2, n3⟩, fun b hb => ?_⟩
    · rw [show ((i + 1 : Nat) : Int) = (i : Int) + 1 by omega]
      exact he2
    · obtain ⟨o3, ho3, r3⟩ := hst'.1
      exact ⟨o3, (sb.2 it n1.symm).trans ho3, r3⟩
    · have lt2 : b < s.heap.objs.size := by
        rcases List.mem_cons.mp hb with z | z
        · rw [z]; exact lte
        · rw [List.mem_singleton.mp z]; exact lti
      rw [upd_ne (Nat.ne_of_lt lt2)]
      exact (hf b hb).1
  done := by
    rintro X rfl rfl rfl hcalm i pins s σ H E I hf ⟨⟨old, he⟩, hit, n1, n2, n3⟩ ⟨xs, hq, hx⟩
    obtain ⟨its, rv, pt, hz⟩ := I.tuple hq
    have hh : X.A.in1.handled = none := I.ok.hd hcalm
    obtain ⟨f0, f1, f2, f3, f4, f5⟩ := hf it (List.mem_cons_of_mem _ List.mem_cons_self)
    have hl := rv.length
    have ei : its.toArray.size = i := by rw [List.size_toArray, ← hl]; exact hx
    exact wpAny_pyNext_enum_endD (Draws.tuple (A := X.A.in1) hh it a n2 its.toArray) he ⟨by rw [ei]; exact hit, pt⟩ fun h' eb => ⟨rfl, I.turned (t' := s.toks) (fun b o hb q => eb b o hb q) f0 f1 f3 f4 f5⟩
  self := fun A i s Q E ⟨⟨_, he⟩, _⟩ h => wpAny_pyIter_enum he h
def iEnumT (K : PySem.W.Frag) (ta : TA) : TI := fun σ H R => ta σ H fun vs H1 => ∃ a xs, vs = [.ref a] ∧ SqT K H1 a xs ∧ R (Itet K a) H1
theorem pi_enumT {X : Cx} {e : Expr} {ta : TA} {p pos tpos : Pos} {elts : List Expr} {kk : Nat} (hg : Gl X "enumerate") (hm : X.mg "enumerate" = none) (ha : PA X [e] ta) (hs : starEach [e] X.env = [(false, eval e X.env)] := by rfl) :
    PI X (.Tuple elts kk tpos) (.Call (.Name "enumerate" p) [e] [] pos) (iEnumT X.K ta) := by
  refine ⟨fun pins s σ H R I h => ?_⟩
  refine Call_ (ld_blt I hg hm boot_enumerate (PyProof.Rows.callWith_type1 (thn (ha.run pos pins s σ H _ I h) fun us s1 ⟨vs, H1, I1, r1, a, xs, ex, hq, q⟩ => ?_) hs rfl))
  subst ex
  obtain ⟨u, rfl, ru⟩ := vals1 r1
  obtain rfl : u = Value.ref a := ru
  obtain ⟨its, rv, pt, hz⟩ := I1.tuple hq
  refine call_enum1 (begins_tuple a its.toArray) pt fun h' he hit kp => wpAny_pyIter_enum he ?_
  have lta : a < s1.heap.objs.size := pt.lt
  have I2 : Inv X pins σ H1 { s1 with heap := h' } := I1.kept (t' := s1.toks) kp
  refine ⟨s1.heap.objs.size + 1, [s1.heap.objs.size + 1, s1.heap.objs.size], _, _, H1, rfl, I2, turn_enumT a (s1.heap.objs.size + 1) s1.heap.objs.size, ⟨⟨.none, he⟩, ⟨_, hit, rfl, rfl⟩, Nat.succ_ne_self _, Nat.ne_of_lt lta, Nat.ne_of_gt (Nat.lt_succ_of_lt lta)⟩, fun b hb => ?_, q⟩
  have le : s1.heap.objs.size ≤ b := by
    rcases List.mem_cons.mp hb with z | z
    · rw [z]; exact Nat.le_succ _
    · rw [List.mem_singleton.mp z]; exact Nat.le_refl _
  exact I1.fpOk le (I1.hok.fresh le)
theorem walk_enumT {K : PySem.W.Frag} {a : Addr} {xs : List V} : Walk (Itet K a) xs.length (fun H => SqT K H a xs) (YPair (fun i => some (.int (i : Nat))) (fun i => xs[i]?)) :=
  ⟨fun i _ hi q => ⟨xs, xs[i], q, List.getElem?_eq_getElem hi⟩, fun _ q => ⟨xs, q, rfl⟩, fun i H v H' _ q ⟨T, x, h1, h2, h3, h4⟩ => ⟨T, .int (i : Nat), x, h1, h2, h3, rfl, h4 xs q⟩⟩
end LayT
namespace K8
open PySem PySem.Spec PyProof.Rows L2
def top (i : Nat) : Stmt := PySem.Challenge.pw_beatwires_k08_whole_words.main.body.getD i (.Pass ⟨0, 0, 0, 0⟩)
abbrev sNum : Stmt := top 3
abbrev sWord : Stmt := top 4
abbrev sLow : Stmt := top 6
abbrev sWide : Stmt := top 7
abbrev sTaken : Stmt := top 14
abbrev sTerms : Stmt := top 22
abbrev sBetw : Stmt := top 23
abbrev sParts : Stmt := top 24
abbrev sOrd : Stmt := top 25
abbrev sNames : Stmt := top 26
abbrev sNeedP : Stmt := top 29
abbrev sNeedW : Stmt := top 30
abbrev sAreV : Stmt := top 31
abbrev sNeedV : Stmt := top 32
abbrev sWTold : Stmt := top 33
abbrev sWDen : Stmt := top 34
abbrev sWTimes : Stmt := top 35
abbrev sWUp : Stmt := top 36
abbrev sWAdd : Stmt := top 37
abbrev sWSub : Stmt := top 38
abbrev sWBoth : Stmt := top 39
abbrev sWEith : Stmt := top 40
abbrev sWUnl : Stmt := top 41
abbrev sWEq : Stmt := top 42
abbrev sWLess : Stmt := top 43
abbrev sWBel : Stmt := top 44
abbrev sWTurn : Stmt := top 45
abbrev sWEvery : Stmt := top 46
abbrev sWSome : Stmt := top 47
abbrev sToldAt : Stmt := top 50
abbrev sWordOf : Stmt := top 51
abbrev sHolds : Stmt := top 52
abbrev sDraw : Stmt := top 54
abbrev sLTerm : Stmt := top 55
abbrev sLForm : Stmt := top 56
abbrev sLVal : Stmt := top 57
abbrev sLHolds : Stmt := top 58
abbrev sLRef : Stmt := top 59
abbrev sLaw : Stmt := top 60
/-! ### lists of values that tell lists of data -/
def Al {α : Type} (R : V → α → Prop) (xs : List V) (ds : List α) : Prop := xs.length = ds.length ∧ ∀ (i : Nat) (x : V) (d : α), xs[i]? = some x → ds[i]? = some d → R x d
section
variable {α : Type} {R S : V → α → Prop} {xs ys : List V} {ds es : List α}
theorem Al.nil : Al R [] [] := ⟨rfl, fun i x d h => by simp at h⟩
theorem Al.mono (h : Al R xs ds) (f : ∀ x d, R x d → S x d) : Al S xs ds := ⟨h.1, fun i x d a b => f x d (h.2 i x d a b)⟩
theorem Al.snoc (h : Al R xs ds) {x : V} {d : α} (r : R x d) : Al R (xs ++ [x]) (ds ++ [d]) := by
  refine ⟨by simp [h.1], fun i y e a b => ?_⟩
  by_cases hi : i < xs.length
  · rw [List.getElem?_append_left hi] at a
    rw [List.getElem?_append_left (by rw [← h.1]; exact hi)] at b
    exact h.2 i y e a b
  · rw [List.getElem?_append_right (by omega)] at a
    rw [List.getElem?_append_right (by rw [← h.1]; omega), ← h.1] at b
    cases q : i - xs.length with
    | zero => rw [q] at a b; simp at a b; subst a; subst b; exact r
    | succ n => rw [q] at a; simp at a
theorem Al.one {x : V} {d : α} (r : R x d) : Al R [x] [d] := Al.snoc Al.nil r
theorem Al.append (h : Al R xs ds) (h' : Al R ys es) : Al R (xs ++ ys) (ds ++ es) := by
  refine ⟨by simp [h.1, h'.1], fun i y e a b => ?_⟩
  by_cases hi : i < xs.length
  · rw [List.getElem?_append_left hi] at a
    rw [List.getElem?_append_left (by rw [← h.1]; exact hi)] at b
    exact h.2 i y e a b
  · rw [List.getElem?_append_right (by omega)] at a
    rw [List.getElem?_append_right (by rw [← h.1]; omega), ← h.1] at b
    exact h'.2 _ y e a b
theorem Al.at (h : Al R xs ds) {i : Nat} {x : V} (a : xs[i]? = some x) : ∃ d, ds[i]? = some d ∧ R x d := by
  have hi := (List.getElem?_eq_some_iff.mp a).1
  rw [h.1] at hi
  exact ⟨ds[i], List.getElem?_eq_getElem hi, h.2 i x _ a (List.getElem?_eq_getElem hi)⟩
theorem Al.at' (h : Al R xs ds) {i : Nat} {d : α} (a : ds[i]? = some d) : ∃ x, xs[i]? = some x ∧ R x d := by
  have hi := (List.getElem?_eq_some_iff.mp a).1
  rw [← h.1] at hi
  exact ⟨xs[i], List.getElem?_eq_getElem hi, h.2 i _ d (List.getElem?_eq_getElem hi) a⟩
theorem Al.split (h : Al R xs ds) {e : α} {es : List α} (q : ds = es ++ [e]) : ∃ ys y, xs = ys ++ [y] ∧ Al R ys es ∧ R y e := by
  subst q
  have hl := h.1
  rcases List.eq_nil_or_concat xs with rfl | ⟨ys, y, rfl⟩
  · simp at hl
  · rw [List.concat_eq_append] at *
    simp at hl
    refine ⟨ys, y, rfl, ⟨hl, fun i x d a b => ?_⟩, ?_⟩
    · have hi := (List.getElem?_eq_some_iff.mp a).1
      refine h.2 i x d (by rw [List.getElem?_append_left hi]; exact a) (by rw [List.getElem?_append_left (by omega)]; exact b)
    · refine h.2 ys.length y e (by simp) (by rw [hl]; simp)
end

/-! ### heaps: new objects -/
/-- tuples stay -/
def Tups (H H' : Hp) : Prop := ∀ b xs, H b = some (.tup xs) → H' b = some (.tup xs)
theorem _root_.L2.Same.tups {H H' : Hp} (s : Same H H') : Tups H H' := fun b xs h => s b _ h
theorem Tups.refl (H : Hp) : Tups H H := fun _ _ h => h
theorem Tups.trans {H H1 H2 : Hp} (a : Tups H H1) (b : Tups H1 H2) : Tups H H2 := fun c xs h => b c xs (a c xs h)
theorem same_upd {H : Hp} {p : Addr} {o : HO} (h : H p = none) : Same H (upd H p o) := fun b x e => by
  rw [upd_ne (ne_of_none e h)]
  exact e
/-- all but c stays -/
def But (c : Addr) (H H' : Hp) : Prop := ∀ b o, b ≠ c → H b = some o → H' b = some o
theorem _root_.L2.Same.but {H H' : Hp} (s : Same H H') (c : Addr) : But c H H' := fun b o _ h => s b o h
theorem But.trans {c : Addr} {H H1 H2 : Hp} (a : But c H H1) (b : But c H1 H2) : But c H H2 := fun d o n h => b d o n (a d o n h)
theorem but_upd {c : Addr} {H : Hp} {o : HO} : But c H (upd H c o) := fun b x n e => by rw [upd_ne n]; exact e
theorem But.same {c : Addr} {H H' : Hp} (s : But c H H') (hc : H c = none) : Same H H' := fun b o e => s b o (fun z => by rw [z, hc] at e; cases e) e
/-- a mutable list at l, changed: what did not know l stays -/
theorem _root_.L2.Same.mut {H H' : Hp} {l : Addr} {o : HO} (s : Same H H') (h : H l = none) : Same H (upd H' l o) := fun b x e => by
  rw [upd_ne (ne_of_none e h)]
  exact s b x e

section
variable {X : Cx}
theorem pgl {x : Str} {v : V} {pos : Pos} (h : ∃ u, X.mg x = some u ∧ RelV v u) (hg : Gl X x := by rfl) (hd : (x == ("__debug__" : Str)) = false := by decide) : PE X (.Name x pos) (tC v) := by
  obtain ⟨u, h1, h2⟩ := h
  exact pe_glob hg h1 h2 hd
end
/-! ### tuples read and made, with what stood before kept -/
theorem sz {n : Nat} (h : n ≤ 100000) : n ≤ sizeLine := Nat.le_trans h (by decide)
theorem szl {n : Nat} (h : n ≤ 100000) : n < sizeLine := Nat.lt_of_le_of_lt h (by decide)
section
variable {K : PySem.W.Frag} {H : Hp} {Q : VK} {a b : Addr} {xs ys : List V}
@[irreducible] def rTup (xs : List V) (H : Hp) (Q : VK) : Prop := xs.length ≤ sizeLine ∧ ∀ p, H p = none → Q (.ref p) (upd H p (.tup xs))
@[irreducible] def rLst (xs : List V) (H : Hp) (Q : VK) : Prop := xs.length ≤ sizeLine ∧ ∀ p, H p = none → Q (.ref p) (upd H p (.lst xs))
theorem rd_tup (hl : xs.length ≤ 100000) (k : ∀ p H', Same H H' → H' p = some (.tup xs) → Q (.ref p) H') : rTup xs H Q := by
  unfold rTup
  exact ⟨sz hl, fun p hp => k p _ (same_upd hp) upd_same⟩
theorem rd_lst (hl : xs.length ≤ 100000) (k : ∀ p H', H p = none → Same H H' → H' p = some (.lst xs) → Q (.ref p) H') : rLst xs H Q := by
  unfold rLst
  exact ⟨sz hl, fun p hp => k p _ hp (same_upd hp) upd_same⟩
theorem rd_t0 (k : ∀ p H', Same H H' → H' p = some (.tup []) → Q (.ref p) H') : rTup [] H Q := rd_tup (by decide) k
theorem rd_t1 {x : V} (k : ∀ p H', Same H H' → H' p = some (.tup [x]) → Q (.ref p) H') : rTup [x] H Q := rd_tup (by show 1 ≤ 100000; decide) k
theorem rd_t2 {x y : V} (k : ∀ p H', Same H H' → H' p = some (.tup [x, y]) → Q (.ref p) H') : rTup [x, y] H Q := rd_tup (by show 2 ≤ 100000; decide) k
theorem rd_t3 {x y z : V} (k : ∀ p H', Same H H' → H' p = some (.tup [x, y, z]) → Q (.ref p) H') : rTup [x, y, z] H Q := rd_tup (by show 3 ≤ 100000; decide) k
theorem rd_t4 {x y z u : V} (k : ∀ p H', Same H H' → H' p = some (.tup [x, y, z, u]) → Q (.ref p) H') : rTup [x, y, z, u] H Q := rd_tup (by show 4 ≤ 100000; decide) k
theorem rd_l0 (k : ∀ p H', H p = none → Same H H' → H' p = some (.lst []) → Q (.ref p) H') : rLst [] H Q := rd_lst (by decide) k
theorem rd_l1 {x : V} (k : ∀ p H', H p = none → Same H H' → H' p = some (.lst [x]) → Q (.ref p) H') : rLst [x] H Q := rd_lst (by show 1 ≤ 100000; decide) k
theorem ptup {X : Cx} {es : List Expr} {t : TA} {x1 : Nat} {pos : Pos} (h : PA X es t) : PE X (.Tuple es x1 pos) (fun σ H Q => t σ H fun xs H1 => rTup xs H1 Q) := by
  unfold rTup
  exact pe_tup h
theorem plst {X : Cx} {es : List Expr} {t : TA} {pos : Pos} (h : PA X es t) : PE X (.List es pos) (fun σ H Q => t σ H fun xs H1 => rLst xs H1 Q) := by
  unfold rLst
  exact pe_lst h
@[irreducible] def rCat (K : PySem.W.Frag) : R2 := rCatA K
@[irreducible] def rSlt (K : PySem.W.Frag) : V → Option Int → Option Int → Hp → VK → Prop := rSlA K
theorem op_cat' {X : Cx} : OpR X (binaryOp .Add) (rCat X.K) := by
  unfold rCat
  exact op_catA
theorem sl_t' {X : Cx} : SlR X (rSlt X.K) := by
  unfold rSlt
  exact sl_tupA
theorem ixT {X : Cx} (K : PySem.W.Frag) (h : X.K = K := by rfl) : IxR X (rIxT K) := h ▸ ix_tup
theorem catT {X : Cx} (K : PySem.W.Frag) (h : X.K = K := by rfl) : OpR X (binaryOp .Add) (rCat K) := h ▸ op_cat'
theorem slT {X : Cx} (K : PySem.W.Frag) (h : X.K = K := by rfl) : SlR X (rSlt K) := h ▸ sl_t'
theorem eqDK {X : Cx} (K : PySem.W.Frag) (hu : X.A.units + 64 < cLine) (h : X.K = K := by rfl) : OpR X (compareOp .Eq) (rEqD K) := h ▸ op_eqD hu
theorem neDK {X : Cx} (K : PySem.W.Frag) (hu : X.A.units + 64 < cLine) (h : X.K = K := by rfl) : OpR X (compareOp .NotEq) (rNeD K) := h ▸ op_neD hu
theorem ixL {X : Cx} (K : PySem.W.Frag) (h : X.K = K := by rfl) : IxR X (rIxL K) := h ▸ ix_list
/-- for a, b in .. -/
theorem pgT2 {X : Cx} (K : PySem.W.Frag) (i j : Nat) {x y : Str} {p1 p2 p3 : Pos} {kk : Nat} (nd : X.N.Nodup) (hc : X.calm = true := by rfl) (hi : X.N[i]? = some x := by rfl) (hj : X.N[j]? = some y := by rfl) (hx : Loc X.env.scope x := by exact .inl rfl) (hy : Loc X.env.scope y := by exact .inl rfl)
    (fx : X.fn x = true ∨ X.env.scope.names.lookup x = some .local := by exact .inr rfl) (fy : X.fn y = true ∨ X.env.scope.names.lookup y = some .local := by exact .inr rfl)
    (hn : (assignEach [.Name x p1, .Name y p2] X.env).length = 2 := by rfl) (hst : (assignEach [.Name x p1, .Name y p2] X.env).findIdx? (·.1) = none := by rfl) (h : X.K = K := by rfl) :
    PG X (.Tuple [.Name x p1, .Name y p2] kk p3) (gTup K 2 (gCons (gName i) (gCons (gName j) gNil))) := h ▸ pg_tup hc (pgs_cons (pg_name nd hi hx fx) (pgs_cons (pg_name nd hj hy fy) pgs_nil)) hn hst
theorem rd_cat (ha : H a = some (.tup xs)) (hb : H b = some (.tup ys)) (hl : xs.length + ys.length ≤ 100000) (k : ∀ p H', Same H H' → H' p = some (.tup (xs ++ ys)) → Q (.ref p) H') : rCat K (.ref a) (.ref b) H Q := by
  unfold rCat
  refine ⟨a, b, xs, ys, rfl, rfl, SqT.of ha, SqT.of hb, sz hl, fun e => ?_, fun _ e => ?_, fun _ _ p hp => k p _ (same_upd hp) upd_same⟩
  · exact k b H (Same.refl H) (by rw [e]; exact hb)
  · exact k a H (Same.refl H) (by rw [e, List.append_nil]; exact ha)
theorem rd_slt {lo hi : Option Int} (ha : H a = some (.tup xs)) (k : ∀ p H', Same H H' → H' p = some (.tup (cutV xs lo hi)) → Q (.ref p) H') : rSlt K (.ref a) lo hi H Q := by
  unfold rSlt
  refine ⟨a, xs, rfl, SqT.of ha, fun e => ?_, fun _ p hp => k p _ (same_upd hp) upd_same⟩
  refine k a H (Same.refl H) ?_
  unfold cutV
  rw [e.1, e.2, List.drop_zero, Nat.sub_zero, List.take_length]
  exact ha
end
structure Dfn (P : Program) (w : World) (K : PySem.W.Frag) (mg : Str → Option Value) (base : Heap) (x : Str) (k : Nat) (ps : List Str) (sp : Sp) (f : Addr) (fd : FuncData) : Prop where
  ok : FnOk P w K mg base CX0 k f fd ps sp
  mgf : mg x = some (.ref f)
  kp : PySem.W.keepIn K (.ref f) = true
  b : Binds K fd ps []
theorem pcl {X : Cx} {x : Str} {k : Nat} {ps : List Str} {sp : Sp} {f : Addr} {fd : FuncData} {e : Expr} {es : List Expr} {t : TA} {p pos : Pos} (D : Dfn X.prog X.w X.K X.mg X.base x k ps sp f fd) (hr : Room k X.A) (ha : PA X (e :: es) t) (hg : Gl X x := by rfl)
    (hdb : (x == ("__debug__" : Str)) = false := by decide) (he : starEach (e :: es) X.env = (false, eval e X.env) :: starEach es X.env := by rfl) (hpl : (backTo pos (starEach es X.env)).any (·.1) = false := by rfl) :
    PE X (.Call (.Name x p) (e :: es) [] pos) (tCall sp [] E0 t) := pe_call D.ok hr hg D.mgf D.kp D.b .nil pass0 ha hdb he hpl

/-- a def of the module that may raise -/
structure DfX (P : Program) (w : World) (K : PySem.W.Frag) (mg : Str → Option Value) (base : Heap) (x : Str) (k : Nat) (ps : List Str) (sp : Sp) (f : Addr) (fd : FuncData) : Prop where
  ok : FnOk P w K mg base (L2.CX P w) k f fd ps sp
  mgf : mg x = some (.ref f)
  kp : PySem.W.keepIn K (.ref f) = true
  b : Binds K fd ps []
theorem pclX {X : Cx} {x : Str} {k : Nat} {ps : List Str} {sp : Sp} {f : Addr} {fd : FuncData} {e : Expr} {es : List Expr} {t : TA} {p pos : Pos} (D : DfX X.prog X.w X.K X.mg X.base x k ps sp f fd) (hr : Room k X.A) (ha : PA X (e :: es) t) (hg : Gl X x := by rfl)
    (hdb : (x == ("__debug__" : Str)) = false := by decide) (he : starEach (e :: es) X.env = (false, eval e X.env) :: starEach es X.env := by rfl) (hpl : (backTo pos (starEach es X.env)).any (·.1) = false := by rfl) :
    PE X (.Call (.Name x p) (e :: es) [] pos) (tCall sp [] E0 t) := pe_call D.ok hr hg D.mgf D.kp D.b .nil passL ha hdb he hpl
def tTupN (t : TA) : TE := fun σ H Q => t σ H fun xs H1 => rTup xs H1 Q
theorem ptupN {X : Cx} {es : List Expr} {t : TA} {x1 : Nat} {pos : Pos} (h : PA X es t) : PE X (.Tuple es x1 pos) (tTupN t) := ptup h
theorem map_at {α : Type} {g : α → V} {l : List α} {i : Nat} {y : V} (h : (l.map g)[i]? = some y) : ∃ x, l[i]? = some x ∧ y = g x := by
  rw [List.getElem?_map] at h
  cases e : l[i]? with
  | none => rw [e] at h; cases h
  | some x => rw [e] at h; exact ⟨x, rfl, (Option.some.inj h).symm⟩
theorem map_take_succ {α β : Type} {g : α → β} {l : List α} {i : Nat} {x : α} (h : l[i]? = some x) : (l.take (i + 1)).map g = (l.take i).map g ++ [g x] := by
  rw [List.take_add_one, h, List.map_append]; rfl
theorem take_succ_at {α : Type} {l : List α} {i : Nat} {x : α} (h : l[i]? = some x) : l.take (i + 1) = l.take i ++ [x] := by
  rw [List.take_add_one, h]; rfl
theorem at0 {x : V} {zs : List V} : atI (x :: zs) 0 = some x := atI_nat (j := 0) (v := x) rfl
theorem at1 {x y : V} {zs : List V} : atI (x :: y :: zs) 1 = some y := atI_nat (j := 1) (v := y) rfl
theorem at2 {x y z : V} {zs : List V} : atI (x :: y :: z :: zs) 2 = some z := atI_nat (j := 2) (v := z) rfl
theorem atI_mid {α : Type} {xs : List α} {i : Int} {j : Nat} {v : α} (e : i = (j : Int)) (h : xs[j]? = some v) : atI xs i = some v := by rw [e]; exact atI_nat h
theorem dec_int (i j : Int) : decide (V.int i = V.int j) = decide (i = j) := by
  by_cases h : i = j
  · rw [decide_eq_true h, decide_eq_true (congrArg V.int h)]
  · rw [decide_eq_false h, decide_eq_false (fun z => h (V.int.inj z))]
end K8
namespace K8
open PySem PySem.Spec PyProof.Rows L2
/-! ### what a thing is: nothing, a truth, a number, a text, a tuple, a list -/
inductive D where
  | non | bl (b : Bool) | int (i : Int) | str (s : Str) | tup (ds : List D) | lst
mutual
def DAt (H : Hp) (v : V) : D → Prop
  | .non => v = .non
  | .bl b => v = .bl b
  | .int i => v = .int i
  | .str s => v = .str s
  | .tup ds => ∃ a xs, v = .ref a ∧ H a = some (.tup xs) ∧ DsAt H xs ds
  | .lst => ∃ a xs, v = .ref a ∧ H a = some (.lst xs)
def DsAt (H : Hp) (xs : List V) : List D → Prop
  | [] => xs = []
  | d :: ds => ∃ x r, xs = x :: r ∧ DAt H x d ∧ DsAt H r ds
end
/-- tuples stay, lists stay lists -/
def Stay (H H' : Hp) : Prop := Tups H H' ∧ ∀ b xs, H b = some (.lst xs) → ∃ ys, H' b = some (.lst ys)
theorem Stay.refl (H : Hp) : Stay H H := ⟨Tups.refl H, fun _ xs e => ⟨xs, e⟩⟩
theorem _root_.L2.Same.stay {H H' : Hp} (s : Same H H') : Stay H H' := ⟨s.tups, fun b xs e => ⟨xs, s _ _ e⟩⟩
theorem Stay.trans {H H1 H2 : Hp} (a : Stay H H1) (b : Stay H1 H2) : Stay H H2 := ⟨a.1.trans b.1, fun c xs e => by
  obtain ⟨ys, e1⟩ := a.2 c xs e
  exact b.2 c ys e1⟩
theorem stay_upd {H : Hp} {c : Addr} {xs ys : List V} (h : H c = some (.lst xs)) : Stay H (upd H c (.lst ys)) := by
  refine ⟨fun b zs e => ?_, fun b zs e => ?_⟩
  · rw [upd_ne (fun z => by rw [z, h] at e; cases e)]; exact e
  · by_cases z : b = c
    · subst z; exact ⟨ys, upd_same⟩
    · exact ⟨zs, by rw [upd_ne z]; exact e⟩
mutual
theorem DAt.stay {H H' : Hp} (s : Stay H H') {v : V} : ∀ {d : D}, DAt H v d → DAt H' v d
  | .non, h => h
  | .bl _, h => h
  | .int _, h => h
  | .str _, h => h
  | .tup ds, h => by
    unfold DAt at h ⊢
    obtain ⟨a, xs, h1, h2, h3⟩ := h
    exact ⟨a, xs, h1, s.1 _ _ h2, DsAt.stay s h3⟩
  | .lst, h => by
    unfold DAt at h ⊢
    obtain ⟨a, xs, h1, h2⟩ := h
    obtain ⟨ys, h3⟩ := s.2 _ _ h2
    exact ⟨a, ys, h1, h3⟩
theorem DsAt.stay {H H' : Hp} (s : Stay H H') {xs : List V} : ∀ {ds : List D}, DsAt H xs ds → DsAt H' xs ds
  | [], h => h
  | d :: ds, h => by
    unfold DsAt at h ⊢
    obtain ⟨x, r, h1, h2, h3⟩ := h
    exact ⟨x, r, h1, DAt.stay s h2, DsAt.stay s h3⟩
end
theorem DAt.same {H H' : Hp} (s : Same H H') {v : V} {d : D} (h : DAt H v d) : DAt H' v d := h.stay s.stay
theorem DsAt.same {H H' : Hp} (s : Same H H') {xs : List V} {ds : List D} (h : DsAt H xs ds) : DsAt H' xs ds := h.stay s.stay
theorem DAt.tup {H : Hp} {v : V} {ds : List D} (h : DAt H v (.tup ds)) : ∃ a xs, v = .ref a ∧ H a = some (.tup xs) ∧ DsAt H xs ds := by unfold DAt at h; exact h
theorem DAt.lst {H : Hp} {v : V} (h : DAt H v .lst) : ∃ a xs, v = .ref a ∧ H a = some (.lst xs) := by unfold DAt at h; exact h
theorem DAt.str {H : Hp} {v : V} {s : Str} (h : DAt H v (.str s)) : v = .str s := by unfold DAt at h; exact h
theorem DAt.int {H : Hp} {v : V} {i : Int} (h : DAt H v (.int i)) : v = .int i := by unfold DAt at h; exact h
theorem DAt.bl {H : Hp} {v : V} {i : Bool} (h : DAt H v (.bl i)) : v = .bl i := by unfold DAt at h; exact h
theorem DAt.non {H : Hp} {v : V} (h : DAt H v .non) : v = .non := by unfold DAt at h; exact h
theorem DsAt.nil {H : Hp} {xs : List V} (h : DsAt H xs []) : xs = [] := by unfold DsAt at h; exact h
theorem DsAt.cons {H : Hp} {xs : List V} {d : D} {ds : List D} (h : DsAt H xs (d :: ds)) : ∃ x r, xs = x :: r ∧ DAt H x d ∧ DsAt H r ds := by unfold DsAt at h; exact h
theorem DsAt.len {H : Hp} : ∀ {ds : List D} {xs : List V}, DsAt H xs ds → xs.length = ds.length
  | [], xs, h => by rw [h.nil]; rfl
  | d :: ds, xs, h => by
    obtain ⟨x, r, rfl, _, h3⟩ := h.cons
    rw [List.length_cons, List.length_cons, h3.len]
theorem DsAt.at {H : Hp} : ∀ {ds : List D} {xs : List V} {i : Nat} {x : V}, DsAt H xs ds → xs[i]? = some x → ∃ d, ds[i]? = some d ∧ DAt H x d
  | [], xs, i, x, h, e => by rw [h.nil] at e; simp at e
  | d :: ds, xs, i, x, h, e => by
    obtain ⟨y, r, rfl, h2, h3⟩ := h.cons
    cases i with
    | zero => cases e; exact ⟨d, rfl, h2⟩
    | succ i => exact DsAt.at (i := i) h3 e
def tyD : D → String
  | .non => "NoneType"
  | .bl _ => "bool"
  | .int _ => "int"
  | .str _ => "str"
  | .tup _ => "tuple"
  | .lst => "list"
theorem tyX {K : PySem.W.Frag} {H : Hp} {v : V} : ∀ {d : D}, DAt H v d → TyX K H v (.type (tyD d))
  | .non, h => by rw [h.non]; exact .base .non
  | .bl b, h => by rw [h.bl]; exact .base (.bl b)
  | .int i, h => by rw [h.int]; exact .base (.int i)
  | .str s, h => by rw [h.str]; exact .base (.str s)
  | .tup _, h => by obtain ⟨a, xs, rfl, e, _⟩ := h.tup; exact .base (.tup e)
  | .lst, h => by obtain ⟨a, xs, rfl, e⟩ := h.lst; exact .base (.lst e)
/-! isinstance of a thing -/
def isInt : D → Bool
  | .non => false
  | .bl _ => true
  | .int _ => true
  | .str _ => false
  | .tup _ => false
  | .lst => false
theorem kisInt {K : PySem.W.Frag} : ∀ d : D, PySem.W.kitOne K (.type (tyD d)) (.type "int") = some (isInt d)
  | .non => kit_ty (show kitB "NoneType" "int" = some false by decide +kernel)
  | .bl _ => kit_ty (show kitB "bool" "int" = some true by decide +kernel)
  | .int _ => kit_ty (show kitB "int" "int" = some true by decide +kernel)
  | .str _ => kit_ty (show kitB "str" "int" = some false by decide +kernel)
  | .tup _ => kit_ty (show kitB "tuple" "int" = some false by decide +kernel)
  | .lst => kit_ty (show kitB "list" "int" = some false by decide +kernel)
def isBool : D → Bool
  | .non => false
  | .bl _ => true
  | .int _ => false
  | .str _ => false
  | .tup _ => false
  | .lst => false
theorem kisBool {K : PySem.W.Frag} : ∀ d : D, PySem.W.kitOne K (.type (tyD d)) (.type "bool") = some (isBool d)
  | .non => kit_ty (show kitB "NoneType" "bool" = some false by decide +kernel)
  | .bl _ => kit_ty (show kitB "bool" "bool" = some true by decide +kernel)
  | .int _ => kit_ty (show kitB "int" "bool" = some false by decide +kernel)
  | .str _ => kit_ty (show kitB "str" "bool" = some false by decide +kernel)
  | .tup _ => kit_ty (show kitB "tuple" "bool" = some false by decide +kernel)
  | .lst => kit_ty (show kitB "list" "bool" = some false by decide +kernel)
def isStr : D → Bool
  | .non => false
  | .bl _ => false
  | .int _ => false
  | .str _ => true
  | .tup _ => false
  | .lst => false
theorem kisStr {K : PySem.W.Frag} : ∀ d : D, PySem.W.kitOne K (.type (tyD d)) (.type "str") = some (isStr d)
  | .non => kit_ty (show kitB "NoneType" "str" = some false by decide +kernel)
  | .bl _ => kit_ty (show kitB "bool" "str" = some false by decide +kernel)
  | .int _ => kit_ty (show kitB "int" "str" = some false by decide +kernel)
  | .str _ => kit_ty (show kitB "str" "str" = some true by decide +kernel)
  | .tup _ => kit_ty (show kitB "tuple" "str" = some false by decide +kernel)
  | .lst => kit_ty (show kitB "list" "str" = some false by decide +kernel)
def isTup : D → Bool
  | .non => false
  | .bl _ => false
  | .int _ => false
  | .str _ => false
  | .tup _ => true
  | .lst => false
theorem kisTup {K : PySem.W.Frag} : ∀ d : D, PySem.W.kitOne K (.type (tyD d)) (.type "tuple") = some (isTup d)
  | .non => kit_ty (show kitB "NoneType" "tuple" = some false by decide +kernel)
  | .bl _ => kit_ty (show kitB "bool" "tuple" = some false by decide +kernel)
  | .int _ => kit_ty (show kitB "int" "tuple" = some false by decide +kernel)
  | .str _ => kit_ty (show kitB "str" "tuple" = some false by decide +kernel)
  | .tup _ => kit_ty (show kitB "tuple" "tuple" = some true by decide +kernel)
  | .lst => kit_ty (show kitB "list" "tuple" = some false by decide +kernel)
/-- names of the top that no def changes -/
structure Txt (K : PySem.W.Frag) (mg : Str → Option Value) : Prop where
  L : ∃ u, mg "LETTERS" = some u ∧ RelV (.str "abcdefghijklmnopqrstuvwxyz") u
  m8 : ∃ u, mg "LONGEST_WORD" = some u ∧ RelV (.int 8) u
  mP : ∃ u, mg "MOST_PARTS" = some u ∧ RelV (.int 40) u
  mG : ∃ u, mg "GREATEST_NUMBER" = some u ∧ RelV (.int 1000) u
  mT : ∃ u, mg "MOST_TIMES" = some u ∧ RelV (.int 30) u
  mU : ∃ u, mg "MOST_UP" = some u ∧ RelV (.int 6) u
  mW : ∃ u, mg "WIDEST" = some u ∧ RelV (.int 200) u
  J : ∃ a, mg "JOINING" = some (.ref a) ∧ ∀ H, SqT K H a [.str "+", .str "-", .str "&", .str "|", .str "^"]
  C : ∃ a, mg "COMPARING" = some (.ref a) ∧ ∀ H, SqT K H a [.str "equal", .str "less", .str "below"]
  isinst : mg "isinstance" = none
  int : mg "int" = none
  bool : mg "bool" = none
  str : mg "str" = none
  tuple : mg "tuple" = none
  dict : mg "dict" = none
  len : mg "len" = none
  all : mg "all" = none
  any : mg "any" = none
  min : mg "min" = none
  max : mg "max" = none
  sorted : mg "sorted" = none
  enumerate : mg "enumerate" = none
  range : mg "range" = none
section
variable {P : Program} {w : World} {K : PySem.W.Frag} {mg : Str → Option Value} {base : Heap}
/-! ### is_number -/
def isNum : D → Bool
  | .int _ => true
  | _ => false
def spNum : Sp := fun vs H Q _ => ∃ (v : V) (d : D), vs = [v] ∧ DAt H v d ∧ Q (.bl (isNum d)) H
theorem scNum : FnScope ["thing"] ["thing"] (defScope sNum) := ⟨rfl, rfl, rfl, by decide +kernel, rfl, by decide +kernel, by decide +kernel⟩
theorem ok_num {f : Addr} {fd : FuncData} (F : Fun K "is_number" "is_number" sNum f fd) (T : Txt K mg) : FnOk P w K mg base CX0 1 f fd ["thing"] spNum := by
  refine F.ok scNum (fun vs H Q E h => ?_) (fun cdv A outer s H vs Q E hr h => ?_)
  · obtain ⟨v, d, rfl, _⟩ := h
    rfl
  · obtain ⟨v, d, rfl, hd, k⟩ := h
    refine ⟨_, pss_one (ps_ret (pe_and (pe_callB call_isi (by rfl) T.isinst (by decide +kernel) (pa_cons (pv 0) (pa_cons (pe_bltn (v := .ty "int") (by rfl) T.int (by decide +kernel) rfl) pa_nil)))
      (pe_one (pe_not (pe_callB call_isi (by rfl) T.isinst (by decide +kernel) (pa_cons (pv 0) (pa_cons (pe_bltn (v := .ty "bool") (by rfl) T.bool (by decide +kernel) rfl) pa_nil))))))), ?_⟩
    refine ⟨_, rfl, v, .ty "int", _, .type "int", _, rfl, .ty "int", tyX hd, kisInt d, _, rfl, ?_⟩
    cases d with
    | int i => exact iteT ⟨_, rfl, v, .ty "bool", _, .type "bool", _, rfl, .ty "bool", tyX hd, kisBool _, _, rfl, k⟩
    | bl b => exact iteT ⟨_, rfl, v, .ty "bool", _, .type "bool", _, rfl, .ty "bool", tyX hd, kisBool _, _, rfl, k⟩
    | non => exact iteF k
    | str s => exact iteF k
    | tup ds => exact iteF k
    | lst => exact iteF k
end
end K8
namespace K8
open PySem PySem.Spec PyProof.Rows L2
section
variable {P : Program} {w : World} {K : PySem.W.Frag} {mg : Str → Option Value} {base : Heap}
/-! ### is_word -/
abbrev abc : Str := "abcdefghijklmnopqrstuvwxyz"
def isWrd : D → Bool
  | .str x => decide (1 ≤ x.length) && (decide (x.length ≤ 8) && x.cps.toList.all fun c => decide (c ∈ abc.cps.toList))
  | _ => false
/-- texts of a thing are short -/
def shortD : D → Prop
  | .str x => x.length ≤ 100
  | _ => True
def spWrd : Sp := fun vs H Q _ => ∃ (v : V) (d : D), vs = [v] ∧ DAt H v d ∧ shortD d ∧ ∀ H', Same H H' → Q (.bl (isWrd d)) H'
abbrev nWrd : List Str := ["thing", "sign"]
theorem scWrd : FnScope nWrd ["thing"] (defScope sWord) := ⟨rfl, rfl, rfl, by decide +kernel, rfl, by decide +kernel, by decide +kernel⟩
theorem ok_wrd {f : Addr} {fd : FuncData} (F : Fun K "is_word" "is_word" sWord f fd) (T : Txt K mg) : FnOk P w K mg base CX0 1 f fd ["thing"] spWrd := by
  refine F.ok scWrd (fun vs H Q E h => ?_) (fun cdv A outer s H vs Q E hr h => ?_)
  · obtain ⟨x, d, rfl, _⟩ := h
    rfl
  · obtain ⟨v, d, rfl, hd, hsh, k⟩ := h
    have nd := scWrd.nd
    refine ⟨_, pss_one (ps_ret (pe_and (pe_callB call_isi (by rfl) T.isinst (by decide +kernel) (pa_cons (pv 0) (pa_cons (pe_bltn (v := .ty "str") (by rfl) T.str (by decide +kernel) rfl) pa_nil)))
      (pe_and (pe_chain op_le op_le pe_int (pe_callB call_len_str (by rfl) T.len (by decide +kernel) (pa_cons (pv 0) pa_nil)) (pgl T.m8))
      (pe_one (pe_callB (cr_all rfl) (by rfl) T.all (by decide +kernel) (pa_cons
        (pe_lc (own := [("sign", 1)]) (g := gName 1) (by rfl) nd (pi_str (pv 0)) (blkOk_by (N := nWrd) (sc := defScope sWord) (by decide +kernel))
          (fun _ _ _ _ _ => pg_name (i := 1) nd rfl (.inl rfl)) (fun _ _ _ _ _ => pts_nil)
          (fun _ _ _ _ _ => pe_cmpR op_in_sign (pv 1) (pgl T.L) rfl)) pa_nil)))))), ?_⟩
    refine ⟨_, rfl, v, .ty "str", _, .type "str", _, rfl, .ty "str", tyX hd, kisStr d, _, rfl, ?_⟩
    cases d with
    | non => exact iteF (k _ (Same.refl H))
    | bl b => exact iteF (k _ (Same.refl H))
    | int b => exact iteF (k _ (Same.refl H))
    | tup b => exact iteF (k _ (Same.refl H))
    | lst => exact iteF (k _ (Same.refl H))
    | str x =>
    refine iteT ?_
    obtain rfl := hd.str
    have hx : x.length ≤ 100 := hsh
    refine ⟨_, rfl, x, rfl, sz (by omega), _, _, rfl, rfl, _, rfl, ?_⟩
    by_cases h1 : 1 ≤ x.length
    case neg =>
      rw [show isWrd (.str x) = false by show (decide (1 ≤ x.length) && _) = _; rw [decide_eq_false h1]; rfl] at k
      rw [show decide ((1 : Int) ≤ (x.length : Int)) = false by rw [decide_eq_false_iff_not]; omega]
      exact iteF ⟨_, rfl, iteF (k _ (Same.refl H))⟩
    rw [show decide ((1 : Int) ≤ (x.length : Int)) = true by rw [decide_eq_true_eq]; omega]
    refine iteT ⟨_, _, rfl, rfl, _, rfl, ?_⟩
    by_cases h8 : x.length ≤ 8
    case neg =>
      rw [show isWrd (.str x) = false by show (decide (1 ≤ x.length) && (decide (x.length ≤ 8) && _)) = _; rw [decide_eq_false h8, Bool.false_and, Bool.and_false]] at k
      rw [show decide ((x.length : Int) ≤ 8) = false by rw [decide_eq_false_iff_not]; omega]
      exact iteF (k _ (Same.refl H))
    rw [show decide ((x.length : Int) ≤ 8) = true by rw [decide_eq_true_eq]; omega]
    rw [show isWrd (.str x) = x.cps.toList.all (fun c => decide (c ∈ abc.cps.toList)) by show (decide (1 ≤ x.length) && (decide (x.length ≤ 8) && _)) = _; rw [decide_eq_true h1, decide_eq_true h8]; rfl] at k
    refine iteT ?_
    have hsz : x.cps.size ≤ 8 := h8
    refine ⟨_, rfl, x, rfl, fun D nD => lc_it (walk_str (z := x)) (fun j H' => Same H H' ∧ H' D = some (.lst ((x.cps.toList.take j).map fun c => V.bl (decide (c ∈ abc.cps.toList)))))
      ⟨same_upd nD, upd_same⟩ (fun j H' _ hh => True.intro) ?_ ?_⟩
    · rintro j y H' H'' hj ⟨s2, hD⟩ ⟨rfl, c, hc, rfl⟩
      have hc' : x.cps.toList[j]? = some c := by rw [Array.getElem?_toList]; exact hc
      refine ⟨rfl, ?_⟩
      refine ⟨_, rfl, c, abc, rfl, rfl, _, hD, ?_, s2.mut nD, ?_⟩
      · rw [List.length_map, List.length_take]
        exact szl (by omega)
      · rw [upd_same, map_take_succ hc']
    rintro H2 ⟨s2, hD⟩
    refine ⟨D, x.cps.toList.map (fun c => decide (c ∈ abc.cps.toList)), rfl, ?_, ?_⟩
    · rw [List.map_map]
      have : x.cps.toList.take x.cps.size = x.cps.toList := by rw [← Array.length_toList]; exact List.take_length
      rw [this] at hD
      exact SqL.of hD
    rw [List.all_map]
    exact k H2 s2
/-! ### lowest_bits, is_wide, is_between -/
def spLow : Sp := fun vs H Q _ => ∃ (i : Int) (n : Nat), vs = [.int i, .int n] ∧ n ≤ 1000 ∧ Q (.int (i % 2 ^ n)) H
theorem scLow : FnScope ["number", "width"] ["number", "width"] (defScope sLow) := ⟨rfl, rfl, rfl, by decide +kernel, rfl, by decide +kernel, by decide +kernel⟩
theorem ok_low {f : Addr} {fd : FuncData} (F : Fun K "lowest_bits" "lowest_bits" sLow f fd) : FnOk P w K mg base CX0 1 f fd ["number", "width"] spLow := by
  refine F.ok scLow (fun vs H Q E h => ?_) (fun cdv A outer s H vs Q E hr h => ?_)
  · obtain ⟨v, d, rfl, _⟩ := h
    rfl
  · obtain ⟨i, n, rfl, hn, k⟩ := h
    refine ⟨_, pss_one (ps_ret (pe_op op_andM (pv 0) (pe_op op_sub (pe_op op_oneShl pe_int (pv 1)) pe_int))), ?_⟩
    exact ⟨_, rfl, _, rfl, n, rfl, rfl, by omega, _, _, rfl, rfl, i, n, rfl, rfl, k⟩
def isWideD (d : D) (n : Nat) : Bool := match d with
  | .int i => decide (0 ≤ i) && decide (i < 2 ^ n)
  | _ => false
def spWide : Sp := fun vs H Q _ => ∃ (v : V) (d : D) (n : Nat), vs = [v, .int n] ∧ DAt H v d ∧ n ≤ 1000 ∧ Q (.bl (isWideD d n)) H
theorem scWide : FnScope ["thing", "width"] ["thing", "width"] (defScope sWide) := ⟨rfl, rfl, rfl, by decide +kernel, rfl, by decide +kernel, by decide +kernel⟩
theorem ok_wide {f fN : Addr} {fd fdN : FuncData} (F : Fun K "is_wide" "is_wide" sWide f fd) (DN : Dfn P w K mg base "is_number" 1 ["thing"] spNum fN fdN) : FnOk P w K mg base CX0 2 f fd ["thing", "width"] spWide := by
  refine F.ok scWide (fun vs H Q E h => ?_) (fun cdv A outer s H vs Q E hr h => ?_)
  · obtain ⟨v, d, n, rfl, _⟩ := h
    rfl
  · obtain ⟨v, d, n, rfl, hd, hn, k⟩ := h
    refine ⟨_, pss_one (ps_ret (pe_and (pcl DN hr (pa_cons (pv 0) pa_nil)) (pe_one (pe_chain op_le op_lt pe_int (pv 0) (pe_op op_oneShl pe_int (pv 1)))))), ?_⟩
    refine ⟨_, rfl, v, d, rfl, hd, ?_⟩
    cases d with
    | non => exact ⟨_, rfl, iteF k⟩
    | bl b => exact ⟨_, rfl, iteF k⟩
    | str b => exact ⟨_, rfl, iteF k⟩
    | tup b => exact ⟨_, rfl, iteF k⟩
    | lst => exact ⟨_, rfl, iteF k⟩
    | int i =>
    refine ⟨_, rfl, iteT ?_⟩
    obtain rfl := hd.int
    refine ⟨_, rfl, _, _, rfl, rfl, _, rfl, ?_⟩
    by_cases h0 : 0 ≤ i
    case neg =>
      rw [show isWideD (.int i) n = false by show (decide (0 ≤ i) && _) = _; rw [decide_eq_false h0]; rfl] at k
      rw [decide_eq_false h0]
      exact iteF k
    rw [show isWideD (.int i) n = decide (i < 2 ^ n) by show (decide (0 ≤ i) && _) = _; rw [decide_eq_true h0]; rfl] at k
    rw [decide_eq_true h0]
    exact iteT ⟨_, rfl, n, rfl, rfl, by omega, _, _, rfl, rfl, k⟩
def isBet (d : D) (a b : Int) : Bool := match d with
  | .int i => decide (a ≤ i) && decide (i ≤ b)
  | _ => false
def spBet : Sp := fun vs H Q _ => ∃ (v : V) (d : D) (a b : Int), vs = [v, .int a, .int b] ∧ DAt H v d ∧ Q (.bl (isBet d a b)) H
theorem scBet : FnScope ["thing", "least", "most"] ["thing", "least", "most"] (defScope sBetw) := ⟨rfl, rfl, rfl, by decide +kernel, rfl, by decide +kernel, by decide +kernel⟩
theorem ok_bet {f fN : Addr} {fd fdN : FuncData} (F : Fun K "is_between" "is_between" sBetw f fd) (DN : Dfn P w K mg base "is_number" 1 ["thing"] spNum fN fdN) : FnOk P w K mg base CX0 2 f fd ["thing", "least", "most"] spBet := by
  refine F.ok scBet (fun vs H Q E h => ?_) (fun cdv A outer s H vs Q E hr h => ?_)
  · obtain ⟨v, d, a, b, rfl, _⟩ := h
    rfl
  · obtain ⟨v, d, a, b, rfl, hd, k⟩ := h
    refine ⟨_, pss_one (ps_ret (pe_and (pcl DN hr (pa_cons (pv 0) pa_nil)) (pe_one (pe_chain op_le op_le (pv 1) (pv 0) (pv 2))))), ?_⟩
    refine ⟨_, rfl, v, d, rfl, hd, ?_⟩
    cases d with
    | non => exact ⟨_, rfl, iteF k⟩
    | bl b => exact ⟨_, rfl, iteF k⟩
    | str b => exact ⟨_, rfl, iteF k⟩
    | tup b => exact ⟨_, rfl, iteF k⟩
    | lst => exact ⟨_, rfl, iteF k⟩
    | int i =>
    refine ⟨_, rfl, iteT ?_⟩
    obtain rfl := hd.int
    refine ⟨_, rfl, _, rfl, _, _, rfl, rfl, _, rfl, ?_⟩
    by_cases h0 : a ≤ i
    case neg =>
      rw [show isBet (.int i) a b = false by show (decide (a ≤ i) && _) = _; rw [decide_eq_false h0]; rfl] at k
      rw [decide_eq_false h0]
      exact iteF k
    rw [show isBet (.int i) a b = decide (i ≤ b) by show (decide (a ≤ i) && _) = _; rw [decide_eq_true h0]; rfl] at k
    rw [decide_eq_true h0]
    exact iteT ⟨_, rfl, _, _, rfl, rfl, k⟩
end
end K8
namespace K8
open PySem PySem.Spec PyProof.Rows L2 LayT
section
variable {P : Program} {w : World} {K : PySem.W.Frag} {mg : Str → Option Value} {base : Heap}
/-! ### taken_off -/
theorem cut_from {xs : List V} {a : Nat} (h : a ≤ xs.length) : cutV xs (some (a : Int)) none = xs.drop a := by
  unfold cutV
  rw [HT.sIx_nat, HT.sIx_none, Nat.min_eq_left h, List.take_of_length_le (by rw [List.length_drop]; omega)]
theorem slLK {X : Cx} (K : PySem.W.Frag) (h : X.K = K := by rfl) : SlR X (rSlL K) := h ▸ sl_list
def spTaken : Sp := fun vs H Q _ => ∃ (l : Addr) (n : Nat) (xs : List V), vs = [.ref l, .int n] ∧ H l = some (.lst xs) ∧ n ≤ xs.length ∧ xs.length ≤ 100000 ∧
  ∀ t H', H t = none → But l H H' → H' l = some (.lst (xs.take (xs.length - n))) → H' t = some (.lst (xs.drop (xs.length - n))) → Q (.ref t) H'
abbrev nTaken : List Str := ["stack", "many", "first", "taken"]
theorem scTaken : FnScope nTaken ["stack", "many"] (defScope sTaken) := ⟨rfl, rfl, rfl, by decide +kernel, rfl, by decide +kernel, by decide +kernel⟩
theorem ok_taken {f : Addr} {fd : FuncData} (F : Fun K "taken_off" "taken_off" sTaken f fd) (T : Txt K mg) : FnOk P w K mg base CX0 1 f fd ["stack", "many"] spTaken := by
  refine F.ok scTaken (fun vs H Q E h => ?_) (fun cdv A outer s H vs Q E hr h => ?_)
  · obtain ⟨l, n, xs, rfl, _⟩ := h
    rfl
  · obtain ⟨l, n, xs, rfl, hl, hn, hz, k⟩ := h
    have nd := scTaken.nd
    refine ⟨_, pss_cons (ps_asg (pe_op op_sub (pe_callB call_len_seq (by rfl) T.len PySem.boot_len (pa_cons (pv 0) pa_nil)) (pv 1)) (pg_name (i := 2) nd rfl (.inl rfl)))
      (pss_cons (ps_asg (pe_slice (slLK K) (pv 0) (po_some (pv 2)) po_none) (pg_name (i := 3) nd rfl (.inl rfl)))
      (pss_cons (ps_delT (pv 0) (po_some (pv 2)))
      (pss_one (ps_ret (pv 3))))), ?_⟩
    have e0 : ((xs.length : Int) - (n : Int)) = ((xs.length - n : Nat) : Int) := by omega
    refine ⟨_, rfl, _, xs, rfl, .inl (SqL.of hl), _, rfl, _, _, rfl, rfl, ?_⟩
    dsimp only
    rw [e0]
    refine ⟨_, rfl, _, rfl, _, rfl, l, xs, rfl, SqL.of hl, fun t ht => ?_⟩
    rw [cut_from (Nat.sub_le _ _)]
    have hlt : l ≠ t := fun z => by rw [z, ht] at hl; cases hl
    refine ⟨_, rfl, _, rfl, _, rfl, l, xs, _, rfl, rfl, ?_, Nat.sub_le _ _, _, rfl, ?_⟩
    · rw [upd_ne hlt]; exact hl
    refine k t _ ht ((same_upd ht).but l |>.trans but_upd) upd_same ?_
    rw [upd_ne (Ne.symm hlt)]
    exact upd_same
end
end K8
namespace K8
open PySem PySem.Spec PyProof.Rows L2 LayT
/-! ### what stays short -/
mutual
def Short : D → Prop
  | .str x => x.length ≤ 100
  | .tup ds => ds.length ≤ 90 ∧ Shorts ds
  | _ => True
def Shorts : List D → Prop
  | [] => True
  | d :: ds => Short d ∧ Shorts ds
end
theorem Short.s {d : D} (h : Short d) : shortD d := by
  cases d <;> first | (unfold Short at h; exact h) | trivial
theorem Short.tup {ds : List D} (h : Short (.tup ds)) : ds.length ≤ 90 ∧ Shorts ds := by unfold Short at h; exact h
theorem Shorts.cons {d : D} {ds : List D} (h : Shorts (d :: ds)) : Short d ∧ Shorts ds := by unfold Shorts at h; exact h
theorem dec_str (i j : Str) : decide (V.str i = V.str j) = decide (i = j) := by
  by_cases h : i = j
  · rw [decide_eq_true h, decide_eq_true (congrArg V.str h)]
  · rw [decide_eq_false h, decide_eq_false (fun z => h (V.str.inj z))]
abbrev jS : List V := [.str "+", .str "-", .str "&", .str "|", .str "^"]
abbrev cS : List V := [.str "equal", .str "less", .str "below"]
/-- the terms in a term -/
def termsF : D → Option (List D)
  | .tup [.str k, t] => if (decide (k = "name") && isWrd t || decide (k = "number") && isBet t (-1000) 1000) = true then some [] else if decide (k = "~") = true then some [t] else none
  | .tup [.str k, t, u] => if inV (.str k) jS = true then some [t, u] else if (decide (k = "times") && isBet t (-30) 30 || decide (k = "up") && isBet t 0 6) = true then some [u] else none
  | _ => none
def ResT (H H' : Hp) (r : V) : Option (List D) → Prop
  | none => r = .non
  | some ts => ∃ p xs, r = .ref p ∧ H p = none ∧ H' p = some (.lst xs) ∧ DsAt H' xs ts
theorem inSK {X : Cx} (K : PySem.W.Frag) (h : X.K = K := by rfl) : OpR X (compareOp .In) (rIn K false) := h ▸ op_in_seq
theorem none_back {H H' : Hp} {p : Addr} (s : Same H H') (h : H' p = none) : H p = none := by
  cases e : H p with
  | none => rfl
  | some o => rw [s _ _ e] at h; cases h
theorem cut_two {x y : V} {zs : List V} : cutV (x :: y :: zs) none (some 2) = [x, y] := by
  unfold cutV
  rw [show (2 : Int) = ((2 : Nat) : Int) from rfl, HT.sIx_nat, HT.sIx_none, Nat.min_eq_left (by simp only [List.length_cons]; omega)]
  rfl
section
variable {P : Program} {w : World} {K : PySem.W.Frag} {mg : Str → Option Value} {base : Heap}
def spTerms : Sp := fun vs H Q _ => ∃ (v : V) (d : D), vs = [v] ∧ DAt H v d ∧ Short d ∧ ∀ r H', Same H H' → ResT H H' r (termsF d) → Q r H'
abbrev nTerms : List Str := ["thing", "kind", "told"]
theorem scTerms : FnScope nTerms ["thing"] (defScope sTerms) := ⟨rfl, rfl, rfl, by decide +kernel, rfl, by decide +kernel, by decide +kernel⟩
theorem ok_terms {f fW fB : Addr} {fd fdW fdB : FuncData} (F : Fun K "terms_in" "terms_in" sTerms f fd) (T : Txt K mg) (DW : Dfn P w K mg base "is_word" 1 ["thing"] spWrd fW fdW) (DB : Dfn P w K mg base "is_between" 2 ["thing", "least", "most"] spBet fB fdB) :
    FnOk P w K mg base CX0 3 f fd ["thing"] spTerms := by
  refine F.ok scTerms (fun vs H Q E h => ?_) (fun cdv A outer s H vs Q E hr h => ?_)
  · obtain ⟨x, d, rfl, _⟩ := h
    rfl
  · obtain ⟨v, d, rfl, hd, hsh, k⟩ := h
    have nd := scTerms.nd
    obtain ⟨aJ, gJ, sJ⟩ := T.J
    refine ⟨_, pss_cons (ps_if (PW.pt (pw_or (pt_not (pt_val (pe_callB call_isi (by rfl) T.isinst (by decide +kernel) (pa_cons (pv 0) (pa_cons (pe_bltn (v := .ty "tuple") (by rfl) T.tuple (by decide +kernel) rfl) pa_nil)))))
        (pw_or (pt_not (pt_chain op_le op_le pe_int (pe_callB call_len_seq (by rfl) T.len PySem.boot_len (pa_cons (pv 0) pa_nil)) pe_int))
        (pw_or1 (pt_not (pt_val (pe_callB call_isi (by rfl) T.isinst (by decide +kernel) (pa_cons (pe_ix (ixT K) (pv 0) pe_int (fun _ _ => rfl)) (pa_cons (pe_bltn (v := .ty "str") (by rfl) T.str (by decide +kernel) rfl) pa_nil))))))))) (pss_one (ps_ret pe_non)) pss_nil)
      (pss_cons (ps_asg (pe_slice (slT K) (pv 0) po_none (po_some pe_int)) (pgT2 K 1 2 nd))
      (pss_cons (ps_if (pt_cmpR op_eq (pe_callB call_len_seq (by rfl) T.len PySem.boot_len (pa_cons (pv 0) pa_nil)) pe_int (nomark _))
        (pss_cons (ps_if (PW.pt (pw_or (PW.pt (pw_and (pt_cmpR op_eq (pv 1) pe_str (nomark _)) (pw_and1 (pt_val (pcl DW (hr.mono (by decide)) (pa_cons (pv 2) pa_nil))))))
            (pw_or1 (PW.pt (pw_and (pt_cmpR op_eq (pv 1) pe_str (nomark _)) (pw_and1 (pt_val (pcl DB hr (pa_cons (pv 2) (pa_cons (pe_un un_neg (pgl T.mG)) (pa_cons (pgl T.mG) pa_nil)))))))))))
          (pss_one (ps_ret (plst pa_nil))) pss_nil)
        (pss_one (ps_ret (pe_ifExp (pt_cmpR op_eq (pv 1) pe_str (nomark _)) (plst (pa_cons (pv 2) pa_nil)) pe_non)))) pss_nil)
      (pss_cons (ps_if (pt_cmpR (inSK K) (pv 1) (pgl (v := .ref aJ) ⟨_, gJ, rfl⟩) (by rfl)) (pss_one (ps_ret (plst (pa_cons (pv 2) (pa_cons (pe_ix (ixT K) (pv 0) pe_int (fun _ _ => rfl)) pa_nil))))) pss_nil)
      (pss_cons (ps_if (PW.pt (pw_or (PW.pt (pw_and (pt_cmpR op_eq (pv 1) pe_str (nomark _)) (pw_and1 (pt_val (pcl DB hr (pa_cons (pv 2) (pa_cons (pe_un un_neg (pgl T.mT)) (pa_cons (pgl T.mT) pa_nil))))))))
            (pw_or1 (PW.pt (pw_and (pt_cmpR op_eq (pv 1) pe_str (nomark _)) (pw_and1 (pt_val (pcl DB hr (pa_cons (pv 2) (pa_cons pe_int (pa_cons (pgl T.mU) pa_nil)))))))))))
          (pss_one (ps_ret (plst (pa_cons (pe_ix (ixT K) (pv 0) pe_int (fun _ _ => rfl)) pa_nil)))) pss_nil)
      (pss_one (ps_ret pe_non)))))), ?_⟩
    refine ⟨_, rfl, v, .ty "tuple", _, .type "tuple", _, rfl, .ty "tuple", tyX hd, kisTup d, _, rfl, ?_⟩
    cases d with
    | non => exact iteT (k _ _ (Same.refl H) rfl)
    | bl b => exact iteT (k _ _ (Same.refl H) rfl)
    | int b => exact iteT (k _ _ (Same.refl H) rfl)
    | str b => exact iteT (k _ _ (Same.refl H) rfl)
    | lst => exact iteT (k _ _ (Same.refl H) rfl)
    | tup ds =>
    refine iteF ?_
    obtain ⟨a, xs, rfl, ha, hds⟩ := hd.tup
    refine ⟨_, rfl, a, xs, rfl, .inr (SqT.of ha), _, _, rfl, rfl, _, rfl, ?_⟩
    match ds, hds, hsh, k with
    | [], hds, hsh, k =>
      obtain rfl := hds.nil
      exact iteF ⟨_, rfl, iteT (k _ _ (Same.refl H) rfl)⟩
    | [d1], hds, hsh, k =>
      obtain ⟨x, r, rfl, _, hr⟩ := hds.cons
      obtain rfl := hr.nil
      exact iteF ⟨_, rfl, iteT (k _ _ (Same.refl H) (by cases d1 <;> rfl))⟩
    | d1 :: d2 :: d3 :: d4 :: ds, hds, hsh, k =>
      obtain ⟨x, r, rfl, _, hr⟩ := hds.cons
      obtain ⟨x2, r2, rfl, _, hr2⟩ := hr.cons
      obtain ⟨x3, r3, rfl, _, hr3⟩ := hr2.cons
      obtain ⟨x4, r4, rfl, _, hr4⟩ := hr3.cons
      rw [decide_eq_true (show (2 : Int) ≤ ((x :: x2 :: x3 :: x4 :: r4).length : Int) by simp only [List.length_cons]; omega)]
      refine iteT ⟨_, _, rfl, rfl, _, rfl, ?_⟩
      rw [decide_eq_false (show ¬ ((x :: x2 :: x3 :: x4 :: r4).length : Int) ≤ 3 by simp only [List.length_cons]; omega)]
      exact iteT (k _ _ (Same.refl H) (by cases d1 <;> rfl))
    | [d1, d2], hds, hsh, k =>
      obtain ⟨x, r, rfl, h1, hr⟩ := hds.cons
      obtain ⟨y, r2, rfl, h2, hr2⟩ := hr.cons
      obtain rfl := hr2.nil
      have s2 := hsh.tup.2.cons.2.cons.1
      refine iteT ⟨_, _, rfl, rfl, _, rfl, iteF ?_⟩
      refine ⟨_, rfl, a, _, 0, _, rfl, rfl, SqT.of ha, at0, x, .ty "str", _, .type "str", _, rfl, .ty "str", tyX h1, kisStr d1, _, rfl, ?_⟩
      cases d1 with
      | non => exact iteT (k _ _ (Same.refl H) rfl)
      | bl b => exact iteT (k _ _ (Same.refl H) rfl)
      | int b => exact iteT (k _ _ (Same.refl H) rfl)
      | tup b => exact iteT (k _ _ (Same.refl H) rfl)
      | lst => exact iteT (k _ _ (Same.refl H) rfl)
      | str kd =>
      obtain rfl := h1.str
      refine iteF ?_
      refine ⟨_, rfl, _, rfl, rd_slt ha fun p H1 sm hp => ?_⟩
      rw [cut_two] at hp
      have ha1 := sm _ _ ha
      refine ⟨p, _, rfl, SqT.of hp, rfl, _, _, rfl, _, _, rfl, rfl, ?_⟩
      refine ⟨_, rfl, a, _, rfl, .inr (SqT.of ha1), rfl, _, rfl, iteT ?_⟩
      refine ⟨_, rfl, rfl, _, rfl, ?_⟩
      rw [dec_str]
      by_cases e1 : kd = "name"
      · subst e1
        rw [decide_eq_true rfl]
        refine iteT ⟨_, rfl, y, d2, rfl, DAt.same sm h2, s2.s, fun H2 sm2 => ⟨_, rfl, ?_⟩⟩
        have smA := sm.trans sm2
        cases ew : isWrd d2 with
        | true =>
          refine iteT (rd_l0 fun p' H3 hn sm3 hp3 => k _ _ (smA.trans sm3) ?_)
          rw [show termsF (.tup [.str "name", d2]) = some [] by show (if (_ && isWrd d2 || _) = true then _ else _) = _; rw [ew]; rfl]
          exact ⟨p', [], rfl, none_back smA hn, hp3, rfl⟩
        | false =>
          refine ⟨_, rfl, rfl, _, rfl, ?_⟩
          rw [dec_str]
          refine iteF (iteF ⟨_, rfl, rfl, _, rfl, ?_⟩)
          rw [dec_str]
          refine iteF (k _ _ smA ?_)
          rw [show termsF (.tup [.str "name", d2]) = none by show (if (_ && isWrd d2 || _) = true then _ else _) = _; rw [ew]; rfl]
          rfl
      · rw [decide_eq_false e1]
        refine iteF ⟨_, rfl, rfl, _, rfl, ?_⟩
        rw [dec_str]
        by_cases e2 : kd = "number"
        · subst e2
          rw [decide_eq_true rfl]
          refine iteT ⟨_, rfl, _, rfl, y, d2, _, _, rfl, DAt.same sm h2, ⟨_, rfl, ?_⟩⟩
          cases ew : isBet d2 (-1000) 1000 with
          | true =>
            refine iteT (rd_l0 fun p' H3 hn sm3 hp3 => k _ _ (sm.trans sm3) ?_)
            rw [show termsF (.tup [.str "number", d2]) = some [] by show (if (_ || _ && isBet d2 (-1000) 1000) = true then _ else _) = _; rw [ew]; rfl]
            exact ⟨p', [], rfl, none_back sm hn, hp3, rfl⟩
          | false =>
            refine iteF ⟨_, rfl, rfl, _, rfl, ?_⟩
            rw [dec_str]
            refine iteF (k _ _ sm ?_)
            rw [show termsF (.tup [.str "number", d2]) = none by show (if (_ || _ && isBet d2 (-1000) 1000) = true then _ else _) = _; rw [ew]; rfl]
            rfl
        · rw [decide_eq_false e2]
          refine iteF (iteF ⟨_, rfl, rfl, _, rfl, ?_⟩)
          rw [dec_str]
          have et : termsF (.tup [.str kd, d2]) = if decide (kd = "~") = true then some [d2] else none := by
            show (if (decide (kd = "name") && isWrd d2 || decide (kd = "number") && isBet d2 (-1000) 1000) = true then some [] else if decide (kd = "~") = true then some [d2] else none) = _
            rw [decide_eq_false e1, decide_eq_false e2]
            rfl
          cases e3 : decide (kd = "~") with
          | true =>
            rw [e3, if_pos rfl] at et
            refine iteT ⟨_, rfl, rd_l1 fun p' H3 hn sm3 hp3 => k _ _ (sm.trans sm3) ?_⟩
            rw [et]
            exact ⟨p', _, rfl, none_back sm hn, hp3, _, _, rfl, DAt.same (sm.trans sm3) h2, rfl⟩
          | false =>
            rw [e3, if_neg (by decide)] at et
            refine iteF (k _ _ sm ?_)
            rw [et]
            rfl
    | [d1, d2, d3], hds, hsh, k =>
      obtain ⟨x, r, rfl, h1, hr⟩ := hds.cons
      obtain ⟨y, r2, rfl, h2, hr2⟩ := hr.cons
      obtain ⟨z, r3, rfl, h3, hr3⟩ := hr2.cons
      obtain rfl := hr3.nil
      refine iteT ⟨_, _, rfl, rfl, _, rfl, iteF ?_⟩
      refine ⟨_, rfl, a, _, 0, _, rfl, rfl, SqT.of ha, at0, x, .ty "str", _, .type "str", _, rfl, .ty "str", tyX h1, kisStr d1, _, rfl, ?_⟩
      cases d1 with
      | non => exact iteT (k _ _ (Same.refl H) rfl)
      | bl b => exact iteT (k _ _ (Same.refl H) rfl)
      | int b => exact iteT (k _ _ (Same.refl H) rfl)
      | tup b => exact iteT (k _ _ (Same.refl H) rfl)
      | lst => exact iteT (k _ _ (Same.refl H) rfl)
      | str kd =>
      obtain rfl := h1.str
      refine iteF ?_
      refine ⟨_, rfl, _, rfl, rd_slt ha fun p H1 sm hp => ?_⟩
      rw [cut_two] at hp
      have ha1 := sm _ _ ha
      have et : termsF (.tup [.str kd, d2, d3]) = if inV (.str kd) jS = true then some [d2, d3] else if (decide (kd = "times") && isBet d2 (-30) 30 || decide (kd = "up") && isBet d2 0 6) = true then some [d3] else none := rfl
      refine ⟨p, _, rfl, SqT.of hp, rfl, _, _, rfl, _, _, rfl, rfl, ?_⟩
      refine ⟨_, rfl, a, _, rfl, .inr (SqT.of ha1), rfl, _, rfl, iteF ?_⟩
      refine ⟨_, rfl, aJ, _, rfl, .inr (sJ H1), rfl, rfl, _, rfl, ?_⟩
      show if inV (.str kd) jS = true then _ else _
      cases ej : inV (.str kd) jS with
      | true =>
        rw [ej, if_pos rfl] at et
        refine iteT ⟨_, rfl, _, rfl, a, _, 2, _, rfl, rfl, SqT.of ha1, at2, rd_lst (by show 2 ≤ 100000; decide) fun p' H3 hn sm3 hp3 => k _ _ (sm.trans sm3) ?_⟩
        rw [et]
        exact ⟨p', _, rfl, none_back sm hn, hp3, _, _, rfl, DAt.same (sm.trans sm3) h2, _, _, rfl, DAt.same (sm.trans sm3) h3, rfl⟩
      | false =>
        rw [ej, if_neg (by decide)] at et
        refine iteF ⟨_, rfl, rfl, _, rfl, ?_⟩
        rw [dec_str]
        by_cases e1 : kd = "times"
        · subst e1
          rw [decide_eq_true rfl]
          refine iteT ⟨_, rfl, _, rfl, y, d2, _, _, rfl, DAt.same sm h2, ⟨_, rfl, ?_⟩⟩
          cases ew : isBet d2 (-30) 30 with
          | true =>
            refine iteT ⟨_, rfl, a, _, 2, _, rfl, rfl, SqT.of ha1, at2, rd_l1 fun p' H3 hn sm3 hp3 => k _ _ (sm.trans sm3) ?_⟩
            rw [et, ew]
            exact ⟨p', _, rfl, none_back sm hn, hp3, _, _, rfl, DAt.same (sm.trans sm3) h3, rfl⟩
          | false =>
            refine ⟨_, rfl, rfl, _, rfl, ?_⟩
            rw [dec_str]
            refine iteF (iteF (k _ _ sm ?_))
            rw [et, ew]
            rfl
        · rw [decide_eq_false e1]
          rw [decide_eq_false e1, Bool.false_and, Bool.false_or] at et
          refine iteF ⟨_, rfl, rfl, _, rfl, ?_⟩
          rw [dec_str]
          by_cases e2 : kd = "up"
          · subst e2
            rw [decide_eq_true rfl]
            refine iteT ⟨_, rfl, y, d2, _, _, rfl, DAt.same sm h2, ⟨_, rfl, ?_⟩⟩
            cases ew : isBet d2 0 6 with
            | true =>
              refine iteT ⟨_, rfl, a, _, 2, _, rfl, rfl, SqT.of ha1, at2, rd_l1 fun p' H3 hn sm3 hp3 => k _ _ (sm.trans sm3) ?_⟩
              rw [et, ew]
              exact ⟨p', _, rfl, none_back sm hn, hp3, _, _, rfl, DAt.same (sm.trans sm3) h3, rfl⟩
            | false =>
              refine iteF (k _ _ sm ?_)
              rw [et, ew]
              rfl
          · rw [decide_eq_false e2]
            rw [decide_eq_false e2, Bool.false_and, if_neg (by decide)] at et
            refine iteF (iteF (k _ _ sm ?_))
            rw [et]
            rfl
end
end K8
namespace K8
open PySem PySem.Spec PyProof.Rows L2 LayT
/-- a pair of a thing, that stood in H0, and a truth -/
def P2 (H0 H : Hp) (v : V) (p : D × Bool) : Prop := ∃ q x, v = .ref q ∧ H q = some (.tup [x, .bl p.2]) ∧ DAt H0 x p.1
theorem P2.tups {H0 H H' : Hp} {v : V} {p : D × Bool} (h : P2 H0 H v p) (s : Tups H H') : P2 H0 H' v p := by
  obtain ⟨q, x, h1, h2, h3⟩ := h
  exact ⟨q, x, h1, s _ _ h2, h3⟩
theorem P2.base {H0 H0' H : Hp} {v : V} {p : D × Bool} (h : P2 H0 H v p) (s : Same H0 H0') : P2 H0' H v p := by
  obtain ⟨q, x, h1, h2, h3⟩ := h
  exact ⟨q, x, h1, h2, h3.same s⟩
/-- the walk of [(x, b) for x in ..] -/
def PvP (H0 : Hp) (c : Addr) (b : Bool) (ds : List D) (j : Nat) (H' : Hp) : Prop := Same H0 H' ∧ ∃ acc, H' c = some (.lst acc) ∧ Al (P2 H0 H') acc ((ds.take j).map fun d => (d, b))
theorem PvP.zero {H0 : Hp} {c : Addr} {b : Bool} {ds : List D} (n : H0 c = none) : PvP H0 c b ds 0 (upd H0 c (.lst [])) := ⟨same_upd n, [], upd_same, Al.nil⟩
theorem PvP.step {H0 H' H'' : Hp} {c q : Addr} {b : Bool} {ds : List D} {d : D} {j : Nat} {x : V} (h : PvP H0 c b ds j H') (n : H0 c = none) (sm : Same H' H'') (hq : H'' q = some (.tup [x, .bl b])) (hd : ds[j]? = some d)
    (hx : DAt H0 x d) (hl : ds.length ≤ 90) : ∃ acc, H'' c = some (.lst acc) ∧ acc.length < sizeLine ∧ PvP H0 c b ds (j + 1) (upd H'' c (.lst (acc ++ [.ref q]))) := by
  obtain ⟨s0, acc, hc, al⟩ := h
  have hlen := al.1
  rw [List.length_map, List.length_take] at hlen
  have hc2 := sm _ _ hc
  have tq : Tups H'' (upd H'' c (.lst (acc ++ [.ref q]))) := fun r ys e => by rw [upd_ne (fun z => by rw [z, hc2] at e; cases e)]; exact e
  refine ⟨acc, hc2, szl (by omega), (s0.trans sm).mut n, _, upd_same, ?_⟩
  rw [take_succ_at hd, List.map_append]
  exact (al.mono fun _ _ r => r.tups (sm.tups.trans tq)).snoc ⟨q, x, rfl, tq _ _ hq, hx⟩
theorem PvP.fin {H0 H' : Hp} {c : Addr} {b : Bool} {ds : List D} {n : Nat} (h : PvP H0 c b ds n H') (hn : n = ds.length) : Same H0 H' ∧ ∃ acc, H' c = some (.lst acc) ∧ Al (P2 H' H') acc (ds.map fun d => (d, b)) := by
  obtain ⟨s0, acc, hc, al⟩ := h
  subst hn
  rw [List.take_length] at al
  exact ⟨s0, acc, hc, al.mono fun _ _ r => r.base s0⟩
def tupT : D → Option (List (D × Bool))
  | .tup ds => some (ds.map fun d => (d, true))
  | _ => none
/-- the parts in a formula -/
def partsT : D → Option (List (D × Bool))
  | .tup [.str k, t] => if decide (k = "not") = true then some [(t, true)] else if inV (.str k) [.str "and", .str "or"] = true then tupT t else none
  | .tup [.str k, t, u] => if inV (.str k) cS = true then some [(t, false), (u, false)] else none
  | _ => none
/-- the parts in a thing that is asked to be a formula, or a term -/
def partsF (d : D) (asked : Bool) : Option (List (D × Bool)) := if asked = true then partsT d else (termsF d).map fun ts => ts.map fun t => (t, false)
def ResP (H H' : Hp) (r : V) : Option (List (D × Bool)) → Prop
  | none => r = .non
  | some ts => ∃ p xs, r = .ref p ∧ H p = none ∧ H' p = some (.lst xs) ∧ Al (P2 H' H') xs ts
theorem termsF_len {d : D} {ts : List D} (h : termsF d = some ts) : ts.length ≤ 2 := by
  unfold termsF at h
  split at h
  · split at h
    · cases h; decide
    · split at h
      · cases h; exact Nat.le_succ 1
      · cases h
  · split at h
    · cases h; exact Nat.le_refl 2
    · split at h
      · cases h; exact Nat.le_succ 1
      · cases h
  · cases h
theorem cut_tail {x : V} {zs : List V} : cutV (x :: zs) (some 1) none = zs := by
  rw [show (1 : Int) = ((1 : Nat) : Int) from rfl, cut_from (by simp only [List.length_cons]; omega)]
  rfl
section
variable {P : Program} {w : World} {K : PySem.W.Frag} {mg : Str → Option Value} {base : Heap}
def spParts : Sp := fun vs H Q _ => ∃ (v : V) (d : D) (b : Bool), vs = [v, .bl b] ∧ DAt H v d ∧ Short d ∧ ∀ r H', Same H H' → ResP H H' r (partsF d b) → Q r H'
abbrev nParts : List Str := ["thing", "asked", "terms", "kind", "told", "term", "formula"]
theorem scParts : FnScope nParts ["thing", "asked"] (defScope sParts) := ⟨rfl, rfl, rfl, by decide +kernel, rfl, by decide +kernel, by decide +kernel⟩
theorem ok_parts {f fT : Addr} {fd fdT : FuncData} (F : Fun K "parts_in" "parts_in" sParts f fd) (T : Txt K mg) (DT : Dfn P w K mg base "terms_in" 3 ["thing"] spTerms fT fdT) :
    FnOk P w K mg base CX0 4 f fd ["thing", "asked"] spParts := by
  refine F.ok scParts (fun vs H Q E h => ?_) (fun cdv A outer s H vs Q E hr h => ?_)
  · obtain ⟨x, d, b, rfl, _⟩ := h
    rfl
  · obtain ⟨v, d, b, rfl, hd, hsh, k⟩ := h
    have nd := scParts.nd
    obtain ⟨aC, gC, sC⟩ := T.C
    refine ⟨_, pss_cons (ps_if (pt_not (pt_val (pv 1))) (pss_cons (ps_set (i := 2) nd rfl (.inl rfl) (pcl DT hr (pa_cons (pv 0) pa_nil)))
        (pss_one (ps_ret (pe_ifExp (pt_cmpR op_isN (pv 2) pe_non (nomark _)) pe_non
          (pe_lc (own := [("term", 5)]) (g := gName 5) (by rfl) nd (pi_list (pv 2)) (blkOk_by (N := nParts) (sc := defScope sParts) (by decide +kernel))
            (fun _ _ _ _ _ => pg_name (i := 5) nd rfl (.inl rfl)) (fun _ _ _ _ _ => pts_nil)
            (fun _ _ _ _ _ => ptupN (pa_cons (pv 5) (pa_cons pe_bl pa_nil)))))))) pss_nil)
      (pss_cons (ps_if (PW.pt (pw_or (pt_not (pt_val (pe_callB call_isi (by rfl) T.isinst (by decide +kernel) (pa_cons (pv 0) (pa_cons (pe_bltn (v := .ty "tuple") (by rfl) T.tuple (by decide +kernel) rfl) pa_nil)))))
        (pw_or (pt_cmpR op_lt (pe_callB call_len_seq (by rfl) T.len PySem.boot_len (pa_cons (pv 0) pa_nil)) pe_int (nomark _))
        (pw_or1 (pt_not (pt_val (pe_callB call_isi (by rfl) T.isinst (by decide +kernel) (pa_cons (pe_ix (ixT K) (pv 0) pe_int (fun _ _ => rfl)) (pa_cons (pe_bltn (v := .ty "str") (by rfl) T.str (by decide +kernel) rfl) pa_nil))))))))) (pss_one (ps_ret pe_non)) pss_nil)
      (pss_cons (ps_asg (pe_slice (slT K) (pv 0) po_none (po_some pe_int)) (pgT2 K 3 4 nd))
      (pss_cons (ps_if (PW.pt (pw_and (pt_cmpR op_eq (pe_callB call_len_seq (by rfl) T.len PySem.boot_len (pa_cons (pv 0) pa_nil)) pe_int (nomark _)) (pw_and1 (pt_cmpR (inSK K) (pv 3) (pgl (v := .ref aC) ⟨_, gC, rfl⟩) (by rfl)))))
        (pss_one (ps_ret (pe_lc (own := [("term", 5)]) (g := gName 5) (by rfl) nd (pi_tup (pe_slice (slT K) (pv 0) (po_some pe_int) po_none)) (blkOk_by (N := nParts) (sc := defScope sParts) (by decide +kernel))
            (fun _ _ _ _ _ => pg_name (i := 5) nd rfl (.inl rfl)) (fun _ _ _ _ _ => pts_nil)
            (fun _ _ _ _ _ => ptupN (pa_cons (pv 5) (pa_cons pe_bl pa_nil)))))) pss_nil)
      (pss_cons (ps_if (PW.pt (pw_and (pt_cmpR op_eq (pe_callB call_len_seq (by rfl) T.len PySem.boot_len (pa_cons (pv 0) pa_nil)) pe_int (nomark _)) (pw_and1 (pt_cmpR op_eq (pv 3) pe_str (nomark _)))))
        (pss_one (ps_ret (plst (pa_cons (ptupN (pa_cons (pv 4) (pa_cons pe_bl pa_nil))) pa_nil)))) pss_nil)
      (pss_cons (ps_if (PW.pt (pw_and (pt_cmpR op_eq (pe_callB call_len_seq (by rfl) T.len PySem.boot_len (pa_cons (pv 0) pa_nil)) pe_int (nomark _))
          (pw_and (pt_cmpR (inSK K) (pv 3) (ptup (pa_cons pe_str (pa_cons pe_str pa_nil))) (by rfl))
          (pw_and1 (pt_val (pe_callB call_isi (by rfl) T.isinst (by decide +kernel) (pa_cons (pv 4) (pa_cons (pe_bltn (v := .ty "tuple") (by rfl) T.tuple (by decide +kernel) rfl) pa_nil))))))))
        (pss_one (ps_ret (pe_lc (own := [("formula", 6)]) (g := gName 6) (by rfl) nd (pi_tup (pv 4)) (blkOk_by (N := nParts) (sc := defScope sParts) (by decide +kernel))
            (fun _ _ _ _ _ => pg_name (i := 6) nd rfl (.inl rfl)) (fun _ _ _ _ _ => pts_nil)
            (fun _ _ _ _ _ => ptupN (pa_cons (pv 6) (pa_cons pe_bl pa_nil)))))) pss_nil)
      (pss_one (ps_ret pe_non))))))), ?_⟩
    refine ⟨_, rfl, b, rfl, ?_⟩
    cases b with
    | false =>
      refine iteT ?_
      have ep : partsF d false = (termsF d).map fun ts => ts.map fun t => (t, false) := by unfold partsF; rw [if_neg (by decide)]
      refine ⟨_, rfl, v, d, rfl, hd, hsh, fun r H1 sm hr1 => ?_⟩
      cases et : termsF d with
      | none =>
        rw [et] at hr1
        obtain rfl := (show r = .non from hr1)
        refine ⟨_, rfl, rfl, _, rfl, ?_⟩
        refine iteT (k _ _ sm ?_)
        rw [ep, et]
        rfl
      | some ts =>
        rw [et] at hr1
        obtain ⟨p, xs, rfl, hn, hp, hds⟩ := (show ∃ p xs, r = .ref p ∧ H p = none ∧ H1 p = some (.lst xs) ∧ DsAt H1 xs ts from hr1)
        have hl2 := termsF_len et
        refine ⟨_, rfl, rfl, _, rfl, ?_⟩
        refine iteF ⟨_, rfl, p, rfl, ⟨xs, SqL.of hp⟩, fun c nc => lc_it (walk_list (K := K) (a := p) (xs := xs)) (PvP H1 c false ts) (PvP.zero nc) (fun j H' _ hh => SqL.of (hh.1 _ _ hp)) ?_ ?_⟩
        · rintro j y H' H'' hj hh ⟨rfl, e⟩
          obtain ⟨dj, hdj, hy⟩ := hds.at e
          refine ⟨rfl, _, rfl, rd_t2 fun q H2 sm2 hq => ?_⟩
          exact hh.step nc sm2 hq hdj hy (by omega)
        · intro H2 hh
          obtain ⟨s2, acc, hc, al⟩ := hh.fin hds.len
          refine k _ _ (sm.trans s2) ?_
          rw [ep, et]
          exact ⟨c, acc, rfl, none_back sm nc, hc, al⟩
    | true =>
    refine iteF ?_
    have ep : partsF d true = partsT d := by unfold partsF; rw [if_pos rfl]
    rw [ep] at k
    clear ep
    refine ⟨_, rfl, v, .ty "tuple", _, .type "tuple", _, rfl, .ty "tuple", tyX hd, kisTup d, _, rfl, ?_⟩
    cases d with
    | non => exact iteT (k _ _ (Same.refl H) rfl)
    | bl b => exact iteT (k _ _ (Same.refl H) rfl)
    | int b => exact iteT (k _ _ (Same.refl H) rfl)
    | str b => exact iteT (k _ _ (Same.refl H) rfl)
    | lst => exact iteT (k _ _ (Same.refl H) rfl)
    | tup ds =>
    refine iteF ?_
    obtain ⟨a, xs, rfl, ha, hds⟩ := hd.tup
    refine ⟨_, rfl, a, xs, rfl, .inr (SqT.of ha), _, _, rfl, rfl, _, rfl, ?_⟩
    match ds, hds, hsh, k with
    | [], hds, hsh, k =>
      obtain rfl := hds.nil
      exact iteT (k _ _ (Same.refl H) rfl)
    | [d1], hds, hsh, k =>
      obtain ⟨x, r, rfl, _, hr⟩ := hds.cons
      obtain rfl := hr.nil
      exact iteT (k _ _ (Same.refl H) (by cases d1 <;> rfl))
    | d1 :: d2 :: d3 :: d4 :: ds, hds, hsh, k =>
      obtain ⟨x, r, rfl, h1, hr⟩ := hds.cons
      obtain ⟨x2, r2, rfl, _, hr2⟩ := hr.cons
      obtain ⟨x3, r3, rfl, _, hr3⟩ := hr2.cons
      obtain ⟨x4, r4, rfl, _, hr4⟩ := hr3.cons
      have et : partsT (.tup (d1 :: d2 :: d3 :: d4 :: ds)) = none := by cases d1 <;> rfl
      have hl : (x :: x2 :: x3 :: x4 :: r4).length = r4.length + 4 := rfl
      rw [hl, decide_eq_false (show ¬ ((r4.length + 4 : Nat) : Int) < 2 by omega)]
      refine iteF ?_
      refine ⟨_, rfl, a, _, 0, _, rfl, rfl, SqT.of ha, at0, x, .ty "str", _, .type "str", _, rfl, .ty "str", tyX h1, kisStr d1, _, rfl, ?_⟩
      cases d1 with
      | non => exact iteT (k _ _ (Same.refl H) rfl)
      | bl b => exact iteT (k _ _ (Same.refl H) rfl)
      | int b => exact iteT (k _ _ (Same.refl H) rfl)
      | tup b => exact iteT (k _ _ (Same.refl H) rfl)
      | lst => exact iteT (k _ _ (Same.refl H) rfl)
      | str kd =>
      obtain rfl := h1.str
      refine iteF ?_
      refine ⟨_, rfl, _, rfl, rd_slt ha fun p H1 sm hp => ?_⟩
      rw [cut_two] at hp
      have ha1 := sm _ _ ha
      have n3 : decide (V.int ((r4.length + 4 : Nat) : Int) = V.int 3) = false := by rw [dec_int, decide_eq_false_iff_not]; omega
      have n2 : decide (V.int ((r4.length + 4 : Nat) : Int) = V.int 2) = false := by rw [dec_int, decide_eq_false_iff_not]; omega
      refine ⟨p, _, rfl, SqT.of hp, rfl, _, _, rfl, _, _, rfl, rfl, ?_⟩
      refine ⟨_, rfl, a, _, rfl, .inr (SqT.of ha1), rfl, _, rfl, ?_⟩
      rw [hl, n3]
      refine iteF (iteF ?_)
      refine ⟨_, rfl, a, _, rfl, .inr (SqT.of ha1), rfl, _, rfl, ?_⟩
      rw [hl, n2]
      refine iteF (iteF ?_)
      refine ⟨_, rfl, a, _, rfl, .inr (SqT.of ha1), rfl, _, rfl, ?_⟩
      rw [hl, n2]
      refine iteF (iteF (k _ _ sm ?_))
      rw [et]
      rfl
    | [d1, d2], hds, hsh, k =>
      obtain ⟨x, r, rfl, h1, hr⟩ := hds.cons
      obtain ⟨y, r2, rfl, h2, hr2⟩ := hr.cons
      obtain rfl := hr2.nil
      refine iteF ?_
      refine ⟨_, rfl, a, _, 0, _, rfl, rfl, SqT.of ha, at0, x, .ty "str", _, .type "str", _, rfl, .ty "str", tyX h1, kisStr d1, _, rfl, ?_⟩
      cases d1 with
      | non => exact iteT (k _ _ (Same.refl H) rfl)
      | bl b => exact iteT (k _ _ (Same.refl H) rfl)
      | int b => exact iteT (k _ _ (Same.refl H) rfl)
      | tup b => exact iteT (k _ _ (Same.refl H) rfl)
      | lst => exact iteT (k _ _ (Same.refl H) rfl)
      | str kd =>
      obtain rfl := h1.str
      have et : partsT (.tup [.str kd, d2]) = if decide (kd = "not") = true then some [(d2, true)] else if inV (.str kd) [.str "and", .str "or"] = true then tupT d2 else none := rfl
      refine iteF ?_
      refine ⟨_, rfl, _, rfl, rd_slt ha fun p H1 sm hp => ?_⟩
      rw [cut_two] at hp
      have ha1 := sm _ _ ha
      refine ⟨p, _, rfl, SqT.of hp, rfl, _, _, rfl, _, _, rfl, rfl, ?_⟩
      refine ⟨_, rfl, a, _, rfl, .inr (SqT.of ha1), rfl, _, rfl, iteF (iteF ?_)⟩
      refine ⟨_, rfl, a, _, rfl, .inr (SqT.of ha1), rfl, _, rfl, iteT ?_⟩
      refine ⟨_, rfl, rfl, _, rfl, ?_⟩
      rw [dec_str]
      cases e1 : decide (kd = "not") with
      | true =>
        rw [e1, if_pos rfl] at et
        refine iteT ⟨_, rfl, rd_t2 fun q H2 sm2 hq => rd_l1 fun c H3 nc sm3 hc => k _ _ ((sm.trans sm2).trans sm3) ?_⟩
        rw [et]
        exact ⟨c, _, rfl, none_back (sm.trans sm2) nc, hc, Al.one ⟨q, y, rfl, sm3 _ _ hq, h2.same ((sm.trans sm2).trans sm3)⟩⟩
      | false =>
        rw [e1, if_neg (by decide)] at et
        refine iteF ?_
        refine ⟨_, rfl, a, _, rfl, .inr (SqT.of ha1), rfl, _, rfl, iteT ?_⟩
        refine ⟨_, rfl, rd_t2 fun q H2 sm2 hq => ⟨q, _, rfl, .inr (SqT.of hq), rfl, rfl, _, rfl, ?_⟩⟩
        show if inV (.str kd) [.str "and", .str "or"] = true then _ else _
        have smA := sm.trans sm2
        cases e2 : inV (.str kd) [.str "and", .str "or"] with
        | false =>
          rw [e2, if_neg (by decide)] at et
          refine iteF (iteF (k _ _ smA ?_))
          rw [et]
          rfl
        | true =>
          rw [e2, if_pos rfl] at et
          refine iteT ⟨_, rfl, y, .ty "tuple", _, .type "tuple", _, rfl, .ty "tuple", tyX (h2.same smA), kisTup d2, _, rfl, ?_⟩
          cases d2 with
          | non => exact iteF (k _ _ smA (by rw [et]; rfl))
          | bl b => exact iteF (k _ _ smA (by rw [et]; rfl))
          | int b => exact iteF (k _ _ smA (by rw [et]; rfl))
          | str b => exact iteF (k _ _ smA (by rw [et]; rfl))
          | lst => exact iteF (k _ _ smA (by rw [et]; rfl))
          | tup ds2 =>
          obtain ⟨b, ys, rfl, hb, hys⟩ := (h2.same smA).tup
          have hlen := hsh.tup.2.cons.2.cons.1.tup.1
          refine iteT ⟨_, rfl, b, rfl, ⟨ys, SqT.of hb⟩, fun c nc => lc_it (walk_tup (K := K) (a := b) (xs := ys)) (PvP H2 c true ds2) (PvP.zero nc) (fun j H' _ hh => SqT.of (hh.1 _ _ hb)) ?_ ?_⟩
          · rintro j z H' H'' hj hh ⟨rfl, e⟩
            obtain ⟨dj, hdj, hy⟩ := hys.at e
            refine ⟨rfl, _, rfl, rd_t2 fun q H3 sm3 hq => ?_⟩
            exact hh.step nc sm3 hq hdj hy hlen
          · intro H3 hh
            obtain ⟨s3, acc, hc, al⟩ := hh.fin hys.len
            refine k _ _ (smA.trans s3) ?_
            rw [et]
            exact ⟨c, acc, rfl, none_back smA nc, hc, al⟩
    | [d1, d2, d3], hds, hsh, k =>
      obtain ⟨x, r, rfl, h1, hr⟩ := hds.cons
      obtain ⟨y, r2, rfl, h2, hr2⟩ := hr.cons
      obtain ⟨z, r3, rfl, h3, hr3⟩ := hr2.cons
      obtain rfl := hr3.nil
      refine iteF ?_
      refine ⟨_, rfl, a, _, 0, _, rfl, rfl, SqT.of ha, at0, x, .ty "str", _, .type "str", _, rfl, .ty "str", tyX h1, kisStr d1, _, rfl, ?_⟩
      cases d1 with
      | non => exact iteT (k _ _ (Same.refl H) rfl)
      | bl b => exact iteT (k _ _ (Same.refl H) rfl)
      | int b => exact iteT (k _ _ (Same.refl H) rfl)
      | tup b => exact iteT (k _ _ (Same.refl H) rfl)
      | lst => exact iteT (k _ _ (Same.refl H) rfl)
      | str kd =>
      obtain rfl := h1.str
      have et : partsT (.tup [.str kd, d2, d3]) = if inV (.str kd) cS = true then some [(d2, false), (d3, false)] else none := rfl
      refine iteF ?_
      refine ⟨_, rfl, _, rfl, rd_slt ha fun p H1 sm hp => ?_⟩
      rw [cut_two] at hp
      have ha1 := sm _ _ ha
      refine ⟨p, _, rfl, SqT.of hp, rfl, _, _, rfl, _, _, rfl, rfl, ?_⟩
      refine ⟨_, rfl, a, _, rfl, .inr (SqT.of ha1), rfl, _, rfl, iteT ?_⟩
      refine ⟨_, rfl, aC, _, rfl, .inr (sC H1), rfl, rfl, _, rfl, ?_⟩
      show if inV (.str kd) cS = true then _ else _
      cases ej : inV (.str kd) cS with
      | true =>
        rw [ej, if_pos rfl] at et
        refine iteT ⟨_, rfl, _, rfl, rd_slt ha1 fun p3 H3 sm3 hp3 => ?_⟩
        rw [cut_tail] at hp3
        have hr3' := hr.same (sm.trans sm3)
        refine ⟨p3, rfl, ⟨_, SqT.of hp3⟩, fun c nc => lc_it (walk_tup (K := K) (a := p3) (xs := [y, z])) (PvP H3 c false [d2, d3]) (PvP.zero nc) (fun j H' _ hh => SqT.of (hh.1 _ _ hp3)) ?_ ?_⟩
        · rintro j u H' H'' hj hh ⟨rfl, e⟩
          obtain ⟨dj, hdj, hy⟩ := hr3'.at e
          refine ⟨rfl, _, rfl, rd_t2 fun q H4 sm4 hq => ?_⟩
          exact hh.step nc sm4 hq hdj hy (by show 2 ≤ 90; decide)
        · intro H4 hh
          obtain ⟨s4, acc, hc, al⟩ := hh.fin rfl
          refine k _ _ ((sm.trans sm3).trans s4) ?_
          rw [et]
          exact ⟨c, acc, rfl, none_back (sm.trans sm3) nc, hc, al⟩
      | false =>
        rw [ej, if_neg (by decide)] at et
        refine iteF ?_
        refine ⟨_, rfl, a, _, rfl, .inr (SqT.of ha1), rfl, _, rfl, iteF (iteF ?_)⟩
        refine ⟨_, rfl, a, _, rfl, .inr (SqT.of ha1), rfl, _, rfl, iteF (iteF (k _ _ sm ?_))⟩
        rw [et]
        rfl
end
end K8
namespace K8
open PySem PySem.Spec PyProof.Rows L2 LayT
theorem P2.stay {G G' : Hp} {v : V} {p : D × Bool} (h : P2 G G v p) (s : Stay G G') : P2 G' G' v p := by
  obtain ⟨q, x, h1, h2, h3⟩ := h
  exact ⟨q, x, h1, s.1 _ _ h2, h3.stay s⟩
def F2 (G : Hp) (v : V) (p : D × Nat) : Prop := ∃ q x, v = .ref q ∧ G q = some (.tup [x, .int p.2]) ∧ DAt G x p.1
theorem F2.stay {G G' : Hp} {v : V} {p : D × Nat} (h : F2 G v p) (s : Stay G G') : F2 G' v p := by
  obtain ⟨q, x, h1, h2, h3⟩ := h
  exact ⟨q, x, h1, s.1 _ _ h2, h3.stay s⟩
theorem Short.two {d1 d2 : D} (h : Short (.tup [d1, d2])) : Short d1 ∧ Short d2 := ⟨h.tup.2.cons.1, h.tup.2.cons.2.cons.1⟩
theorem Short.three {d1 d2 d3 : D} (h : Short (.tup [d1, d2, d3])) : Short d1 ∧ Short d2 ∧ Short d3 := ⟨h.tup.2.cons.1, h.tup.2.cons.2.cons.1, h.tup.2.cons.2.cons.2.cons.1⟩
theorem Shorts.all : ∀ {ds : List D}, Shorts ds → ∀ d ∈ ds, Short d
  | [], _, d, h => by cases h
  | e :: es, hs, d, h => by
    rcases List.mem_cons.mp h with rfl | h
    · exact hs.cons.1
    · exact Shorts.all hs.cons.2 d h
theorem termsF_short {d : D} {ts : List D} (hs : Short d) (h : termsF d = some ts) : ∀ t ∈ ts, Short t := by
  unfold termsF at h
  split at h
  · have h2 := hs.two
    split at h
    · cases h; intro t ht; cases ht
    · split at h
      · cases h; intro t ht; rw [List.mem_singleton.mp ht]; exact h2.2
      · cases h
  · have h3 := hs.three
    split at h
    · cases h
      intro t ht
      rcases List.mem_cons.mp ht with rfl | ht
      · exact h3.2.1
      · rw [List.mem_singleton.mp ht]; exact h3.2.2
    · split at h
      · cases h; intro t ht; rw [List.mem_singleton.mp ht]; exact h3.2.2
      · cases h
  · cases h
theorem partsT_short {d : D} {ps : List (D × Bool)} (hs : Short d) (h : partsT d = some ps) : ps.length ≤ 90 ∧ ∀ p ∈ ps, Short p.1 := by
  unfold partsT at h
  split at h
  · have h2 := hs.two
    split at h
    · cases h
      exact ⟨by show 1 ≤ 90; decide, fun p hp => by rw [List.mem_singleton.mp hp]; exact h2.2⟩
    · split at h
      · rename_i t _ _
        cases t with
        | tup ds =>
          cases h
          refine ⟨by rw [List.length_map]; exact h2.2.tup.1, fun p hp => ?_⟩
          obtain ⟨d, hd, rfl⟩ := List.mem_map.mp hp
          exact h2.2.tup.2.all d hd
        | non => cases h
        | bl b => cases h
        | int b => cases h
        | str b => cases h
        | lst => cases h
      · cases h
  · have h3 := hs.three
    split at h
    · cases h
      refine ⟨by show 2 ≤ 90; decide, fun p hp => ?_⟩
      rcases List.mem_cons.mp hp with rfl | hp
      · exact h3.2.1
      · rw [List.mem_singleton.mp hp]; exact h3.2.2
    · cases h
  · cases h
theorem partsF_short {d : D} {b : Bool} {ps : List (D × Bool)} (hs : Short d) (h : partsF d b = some ps) : ps.length ≤ 90 ∧ ∀ p ∈ ps, Short p.1 := by
  unfold partsF at h
  split at h
  · exact partsT_short hs h
  · cases e : termsF d with
    | none => rw [e] at h; cases h
    | some ts =>
      rw [e] at h
      cases h
      have := termsF_len e
      refine ⟨by rw [List.length_map]; omega, fun p hp => ?_⟩
      obtain ⟨t, ht, rfl⟩ := List.mem_map.mp hp
      exact termsF_short hs e t ht
/-- all parts, in order (told from the last one) -/
def ordL (b : Bool) : Nat → List (D × Nat) → List (D × Bool) → Option (Option (List (D × Nat)))
  | 0, found, waiting => if waiting.isEmpty = true then some (some found) else none
  | m + 1, found, waiting => match waiting.getLast? with
    | none => some (some found)
    | some p => match partsF p.1 p.2 with
      | none => some none
      | some ps => if (b && decide (40 < found.length + 1)) = true then some none else ordL b m (found ++ [(p.1, ps.length)]) (waiting.dropLast ++ ps)
theorem ordL_nil {b : Bool} {m : Nat} {found : List (D × Nat)} {res : Option (List (D × Nat))} (h : ordL b m found [] = some res) : res = some found := by
  cases m with
  | zero => exact (Option.some.inj h).symm
  | succ m => exact (Option.some.inj h).symm
theorem ordL_snoc {b : Bool} {m : Nat} {found : List (D × Nat)} {waiting : List (D × Bool)} {p : D × Bool} {res : Option (List (D × Nat))} (h : ordL b m found (waiting ++ [p]) = some res) :
    ∃ k, m = k + 1 ∧ ((partsF p.1 p.2 = none ∧ res = none) ∨ ∃ ps, partsF p.1 p.2 = some ps ∧
      (((b && decide (40 < found.length + 1)) = true ∧ res = none) ∨ ((b && decide (40 < found.length + 1)) = false ∧ ordL b k (found ++ [(p.1, ps.length)]) (waiting ++ ps) = some res))) := by
  cases m with
  | zero =>
    unfold ordL at h
    rw [if_neg (by cases waiting <;> simp)] at h
    cases h
  | succ k =>
    refine ⟨k, rfl, ?_⟩
    unfold ordL at h
    rw [List.getLast?_concat] at h
    dsimp only at h
    cases e : partsF p.1 p.2 with
    | none =>
      rw [e] at h
      exact .inl ⟨rfl, (Option.some.inj h).symm⟩
    | some ps =>
      rw [e] at h
      dsimp only at h
      refine .inr ⟨ps, rfl, ?_⟩
      cases e2 : (b && decide (40 < found.length + 1)) with
      | true =>
        rw [e2, if_pos rfl] at h
        exact .inl ⟨rfl, (Option.some.inj h).symm⟩
      | false =>
        rw [e2, if_neg (by decide), List.dropLast_concat] at h
        exact .inr ⟨rfl, h⟩
theorem Al.reverse {α : Type} {R : V → α → Prop} {xs : List V} {ds : List α} (h : Al R xs ds) : Al R xs.reverse ds.reverse := by
  refine ⟨by rw [List.length_reverse, List.length_reverse, h.1], fun i x d a b => ?_⟩
  have hi := (List.getElem?_eq_some_iff.mp a).1
  rw [List.length_reverse] at hi
  rw [List.getElem?_reverse hi] at a
  rw [List.getElem?_reverse (by rw [← h.1]; exact hi), ← h.1] at b
  exact h.2 _ x d a b
def ResO (H H' : Hp) (r : V) : Option (List (D × Nat)) → Prop
  | none => r = .non
  | some ps => ∃ p xs, r = .ref p ∧ H p = none ∧ H' p = some (.lst xs) ∧ Al (F2 H') xs ps.reverse
section
variable {P : Program} {w : World} {K : PySem.W.Frag} {mg : Str → Option Value} {base : Heap}
def spOrd : Sp := fun vs H Q _ => ∃ (v : V) (d : D) (b : Bool) (m : Nat) (res : Option (List (D × Nat))), vs = [v, .bl b] ∧ DAt H v d ∧ Short d ∧ m ≤ 900 ∧ ordL b m [] [(d, b)] = some res ∧
  ∀ r H', Same H H' → ResO H H' r res → Q r H'
abbrev nOrd : List Str := ["thing", "asked", "found", "waiting", "one", "formula", "parts"]
theorem scOrd : FnScope nOrd ["thing", "asked"] (defScope sOrd) := ⟨rfl, rfl, rfl, by decide +kernel, rfl, by decide +kernel, by decide +kernel⟩
theorem ok_ord {f fT : Addr} {fd fdT : FuncData} (F : Fun K "ordered_parts" "ordered_parts" sOrd f fd) (T : Txt K mg) (DP : Dfn P w K mg base "parts_in" 4 ["thing", "asked"] spParts fT fdT) :
    FnOk P w K mg base CX0 5 f fd ["thing", "asked"] spOrd := by
  refine F.ok scOrd (fun vs H Q E h => ?_) (fun cdv A outer s H vs Q E hr h => ?_)
  · obtain ⟨x, d, b, m, res, rfl, _⟩ := h
    rfl
  · obtain ⟨v, d, b, m, res, rfl, hd, hsh, hm, ho, k⟩ := h
    have nd := scOrd.nd
    refine ⟨_, pss_cons (ps_set (i := 2) nd rfl (.inl rfl) (plst pa_nil))
      (pss_cons (ps_set (i := 3) nd rfl (.inl rfl) (plst (pa_cons (ptupN (pa_cons (pv 0) (pa_cons (pv 1) pa_nil))) pa_nil)))
      (pss_cons (ps_while PassesOwn.never (pt_truth (pv 3) (by intro _; rfl))
        (pss_cons (ps_asg (pe_bm0 PySem.F.plainAttrs_list PySem.F.slot_list_pop PySem.F.type_list_pop mt_pop (pv 3)) (pgT2 K 4 5 nd))
        (pss_cons (ps_set (i := 6) nd rfl (.inl rfl) (pcl DP hr (pa_cons (pv 4) (pa_cons (pv 5) pa_nil))))
        (pss_cons (ps_expr (pe_bm PySem.F.plainAttrs_list PySem.F.slot_list_append PySem.F.type_list_append mt_append (pv 2) (pa_cons (ptupN (pa_cons (pv 4) (pa_cons (pe_ifExp (pt_cmpR op_isN (pv 6) pe_non (nomark _)) pe_int (pe_callB call_len_seq (by rfl) T.len PySem.boot_len (pa_cons (pv 6) pa_nil))) pa_nil))) pa_nil)))
        (pss_cons (ps_if (PW.pt (pw_or (pt_cmpR op_isN (pv 6) pe_non (nomark _)) (pw_or1 (PW.pt (pw_and (pt_val (pv 1)) (pw_and1 (pt_cmpR op_gt (pe_callB call_len_seq (by rfl) T.len PySem.boot_len (pa_cons (pv 2) pa_nil)) (pgl T.mP) (nomark _))))))))
          (pss_one (ps_ret pe_non)) pss_nil)
        (pss_one (ps_expr (pe_bm PySem.F.plainAttrs_list PySem.F.slot_list_extend PySem.F.type_list_extend mt_extend (pv 3) (pa_cons (pv 6) pa_nil)))))))))
      (pss_one (ps_ret (pe_revL (pv 2)))))), ?_⟩
    refine rd_l0 fun cF H1 nF s1 hF => ?_
    refine ⟨_, rfl, _, rfl, rd_t2 fun q H2 s2 hq => rd_l1 fun cW H3 nW s3 hW => ?_⟩
    refine ⟨fun j σ G => ∃ fs ws found waiting o1 o2 o3, σ = [some v, some (.bl b), some (.ref cF), some (.ref cW), o1, o2, o3] ∧ Same H G ∧ G cF = some (.lst fs) ∧ G cW = some (.lst ws) ∧ Al (F2 G) fs found ∧ Al (P2 G G) ws waiting ∧
      (∀ p ∈ waiting, Short p.1) ∧ found.length + j ≤ 1000 ∧ waiting.length + 90 * j ≤ 90001 ∧ ordL b j found waiting = some res, ⟨m, ?_⟩, ?_⟩
    · have hnF : cF ≠ cW := fun z => by
        have e1 := s2 _ _ hF
        rw [z, nW] at e1
        cases e1
      have sA := (s1.trans s2).trans s3
      exact ⟨[], _, [], _, _, _, _, rfl, sA, s3 _ _ (s2 _ _ hF), hW, Al.nil, Al.one ⟨q, v, rfl, s3 _ _ hq, hd.same sA⟩, (fun p hp => by rw [List.mem_singleton.mp hp]; exact hsh), by show 0 + m ≤ 1000; omega, by show 1 + 90 * m ≤ 90001; omega, ho⟩
    have hnF : cF ≠ cW := fun z => by
      have e1 := s2 _ _ hF
      rw [z, nW] at e1
      cases e1
    have nFH : H cF = none := nF
    have nWH : H cW = none := none_back (s1.trans s2) nW
    rintro j σ G ⟨fs, ws, found, waiting, o1, o2, o3, rfl, sG, gF, gW, aF, aW, hS, hl1, hl2, ho⟩
    rcases List.eq_nil_or_concat waiting with rfl | ⟨wi, p, rfl⟩
    · obtain rfl := List.length_eq_zero_iff.mp aW.1
      refine ⟨_, rfl, false, .inl ⟨[], SqL.of gW, rfl⟩, ?_⟩
      obtain rfl := ordL_nil ho
      refine iteF ?_
      refine ⟨_, rfl, cF, fs, rfl, SqL.of gF, fun r nr => ?_⟩
      refine k _ _ (sG.trans (same_upd nr)) ?_
      exact ⟨r, _, rfl, none_back sG nr, upd_same, (aF.mono fun _ _ z => z.stay (same_upd nr).stay).reverse⟩
    rw [List.concat_eq_append] at *
    obtain ⟨wsi, y, rfl, aWi, q1, x, rfl, gq, hx⟩ := aW.split rfl
    refine ⟨_, rfl, true, .inl ⟨_, SqL.of gW, by simp⟩, ?_⟩
    obtain ⟨jj, rfl, hord⟩ := ordL_snoc ho
    refine iteT ⟨fun σ' G' => ∃ fs ws found waiting o1 o2 o3, σ' = [some v, some (.bl b), some (.ref cF), some (.ref cW), o1, o2, o3] ∧ Same H G' ∧ G' cF = some (.lst fs) ∧ G' cW = some (.lst ws) ∧ Al (F2 G') fs found ∧ Al (P2 G' G') ws waiting ∧
      (∀ p ∈ waiting, Short p.1) ∧ found.length + jj ≤ 1000 ∧ waiting.length + 90 * jj ≤ 90001 ∧ ordL b jj found waiting = some res, fun σ' G' hN => ⟨jj, Nat.lt_succ_self jj, hN⟩, ?_⟩
    have hSp : Short p.1 := hS p (by simp)
    refine ⟨_, rfl, .inl ⟨rfl, _, SqL.of gW⟩, cW, _, .ref q1, rfl, rfl, gW, (by simp), ?_⟩
    rw [List.dropLast_concat]
    have st1 : Stay G (upd G cW (.lst wsi)) := stay_upd gW
    have sm1 : Same H (upd G cW (.lst wsi)) := sG.mut nWH
    have gF1 : upd G cW (.lst wsi) cF = some (.lst fs) := by rw [upd_ne hnF]; exact gF
    have gW1 : upd G cW (.lst wsi) cW = some (.lst wsi) := upd_same
    have gq1 := st1.1 _ _ gq
    have hx1 := hx.stay st1
    generalize upd G cW (.lst wsi) = G1 at st1 sm1 gF1 gW1 gq1 hx1 ⊢
    refine ⟨q1, _, rfl, SqT.of gq1, rfl, _, _, rfl, _, _, rfl, rfl, ?_⟩
    refine ⟨_, rfl, _, rfl, x, p.1, p.2, rfl, hx1, hSp, fun r G2 s12 hres => ?_⟩
    have gF2 := s12 _ _ gF1
    have gW2 := s12 _ _ gW1
    have hlF := aF.1
    have hlW := aWi.1
    rw [List.length_append, List.length_singleton] at hl2
    rcases hord with ⟨hp, rfl⟩ | ⟨ps, hp, hord⟩
    · rw [hp] at hres
      obtain rfl := (show r = .non from hres)
      refine ⟨_, rfl, .inl ⟨rfl, _, SqL.of gF2⟩, _, rfl, _, rfl, rfl, _, rfl, iteT (rd_t2 fun q2 G3 s23 hq2 => ⟨cF, fs, .ref q2, rfl, rfl, s23 _ _ gF2, szl (by omega), ?_⟩)⟩
      refine ⟨_, rfl, rfl, _, rfl, iteT (k _ _ (((sm1.trans s12).trans s23).mut nFH) rfl)⟩
    rw [hp] at hres
    obtain ⟨pp, xs', rfl, npp, gpp, aps⟩ := (show ∃ p xs, r = .ref p ∧ G1 p = none ∧ G2 p = some (.lst xs) ∧ Al (P2 G2 G2) xs ps from hres)
    obtain ⟨hps1, hps2⟩ := partsF_short hSp hp
    refine ⟨_, rfl, .inl ⟨rfl, _, SqL.of gF2⟩, _, rfl, _, rfl, rfl, _, rfl, iteF ⟨_, rfl, pp, xs', rfl, .inl (SqL.of gpp), rd_t2 fun q2 G3 s23 hq2 => ⟨cF, fs, .ref q2, rfl, rfl, s23 _ _ gF2, szl (by omega), ?_⟩⟩⟩
    rw [aps.1] at hq2
    have gF3 := s23 _ _ gF2
    have st4 : Stay G3 (upd G3 cF (.lst (fs ++ [.ref q2]))) := stay_upd gF3
    have sm4 : Same H (upd G3 cF (.lst (fs ++ [.ref q2]))) := ((sm1.trans s12).trans s23).mut nFH
    have gF4 : upd G3 cF (.lst (fs ++ [.ref q2])) cF = some (.lst (fs ++ [.ref q2])) := upd_same
    have gW4 : upd G3 cF (.lst (fs ++ [.ref q2])) cW = some (.lst wsi) := by rw [upd_ne (Ne.symm hnF)]; exact s23 _ _ gW2
    have hpF : pp ≠ cF := fun z => by rw [z, gF1] at npp; cases npp
    have hpW : pp ≠ cW := fun z => by rw [z, gW1] at npp; cases npp
    have gp4 : upd G3 cF (.lst (fs ++ [.ref q2])) pp = some (.lst xs') := by rw [upd_ne hpF]; exact s23 _ _ gpp
    have gq4 := st4.1 _ _ hq2
    have st24 := s23.stay.trans st4
    have st14 := s12.stay.trans st24
    have hx4 := hx1.stay st14
    generalize upd G3 cF (.lst (fs ++ [.ref q2])) = G4 at st4 sm4 gF4 gW4 gp4 gq4 st24 st14 hx4 ⊢
    have aF4 : Al (F2 G4) (fs ++ [.ref q2]) (found ++ [(p.1, ps.length)]) := (aF.mono fun _ _ z => z.stay (st1.trans st14)).snoc ⟨q2, x, rfl, gq4, hx4⟩
    have aW4 : Al (P2 G4 G4) (wsi ++ xs') (wi ++ ps) := (aWi.mono fun _ _ z => z.stay (st1.trans st14)).append (aps.mono fun _ _ z => z.stay st24)
    have hlp := aps.1
    have fin : ordL b jj (found ++ [(p.1, ps.length)]) (wi ++ ps) = some res → ∃ fs' ws' found' waiting' o1' o2' o3', ([some v, some (.bl b), some (.ref cF), some (.ref cW), some x, some (.bl p.2), some (.ref pp)] : L2.St) = [some v, some (.bl b), some (.ref cF), some (.ref cW), o1', o2', o3'] ∧
        Same H (upd G4 cW (.lst (wsi ++ xs'))) ∧ upd G4 cW (.lst (wsi ++ xs')) cF = some (.lst fs') ∧ upd G4 cW (.lst (wsi ++ xs')) cW = some (.lst ws') ∧ Al (F2 (upd G4 cW (.lst (wsi ++ xs')))) fs' found' ∧ Al (P2 (upd G4 cW (.lst (wsi ++ xs'))) (upd G4 cW (.lst (wsi ++ xs')))) ws' waiting' ∧
        (∀ p ∈ waiting', Short p.1) ∧ found'.length + jj ≤ 1000 ∧ waiting'.length + 90 * jj ≤ 90001 ∧ ordL b jj found' waiting' = some res := fun ho2 => by
      have st5 : Stay G4 (upd G4 cW (.lst (wsi ++ xs'))) := stay_upd gW4
      refine ⟨_, _, _, _, _, _, _, rfl, sm4.mut nWH, by rw [upd_ne hnF]; exact gF4, upd_same, aF4.mono fun _ _ z => z.stay st5, aW4.mono fun _ _ z => z.stay st5, fun p' hp' => ?_, ?_, ?_, ho2⟩
      · rcases List.mem_append.mp hp' with h | h
        · exact hS p' (List.mem_append.mpr (.inl h))
        · exact hps2 p' h
      · rw [List.length_append, List.length_singleton]; omega
      · rw [List.length_append]; omega
    refine ⟨_, rfl, rfl, _, rfl, iteF ⟨_, rfl, b, rfl, ?_⟩⟩
    have hlt : (fs ++ [V.ref q2]).length = found.length + 1 := by rw [List.length_append, hlF]; rfl
    cases b with
    | false =>
      rcases hord with ⟨h1, _⟩ | ⟨_, ho2⟩
      · cases h1
      refine iteF (iteF ⟨_, rfl, .inl ⟨rfl, _, SqL.of gW4⟩, _, rfl, cW, pp, wsi, xs', rfl, rfl, gW4, gp4, sz (by omega), fin ho2⟩)
    | true =>
      refine iteT ⟨_, rfl, cF, _, rfl, .inl (SqL.of gF4), _, _, rfl, rfl, _, rfl, ?_⟩
      rw [hlt]
      rcases hord with ⟨h1, rfl⟩ | ⟨h1, ho2⟩
      · rw [Bool.true_and, decide_eq_true_eq] at h1
        rw [decide_eq_true (show ((found.length + 1 : Nat) : Int) > 40 by omega)]
        exact iteT (k _ _ sm4 rfl)
      · rw [Bool.true_and, decide_eq_false_iff_not] at h1
        rw [decide_eq_false (show ¬ ((found.length + 1 : Nat) : Int) > 40 by omega)]
        exact iteF ⟨_, rfl, .inl ⟨rfl, _, SqL.of gW4⟩, _, rfl, cW, pp, wsi, xs', rfl, rfl, gW4, gp4, sz (by omega), fin ho2⟩
end
end K8
namespace K8
open PySem PySem.Spec PyProof.Rows L2 LayT
def nm (x : Str) : D := .tup [.str "name", .str x]
/-- a part whose name, if it is one, is x or y -/
def NmOk (d : D) : Prop := ∃ (k : Str) (rest : List D), d = .tup (.str k :: rest) ∧ (k = "name" → rest = [.str "x"] ∨ rest = [.str "y"])
def NamesAt (ps : List (D × Nat)) (S : Key → Bool) (n : Nat) : Prop := (∀ k, S k = true ↔ ∃ x, k = Sum.inr x ∧ nm x ∈ ps.map (·.1)) ∧ n = (S (Sum.inr "x")).toNat + (S (Sum.inr "y")).toNat
theorem NamesAt.nil : NamesAt [] (fun _ => false) 0 := ⟨fun k => ⟨fun h => (nomatch h), fun ⟨x, _, h⟩ => (nomatch h)⟩, rfl⟩
theorem NamesAt.skip {ps : List (D × Nat)} {S : Key → Bool} {n c : Nat} {d : D} (h : NamesAt ps S n) (hd : ∀ x, d ≠ nm x) : NamesAt (ps ++ [(d, c)]) S n := by
  refine ⟨fun k => ?_, h.2⟩
  rw [h.1 k]
  constructor
  · rintro ⟨x, e, m⟩
    exact ⟨x, e, by rw [List.map_append]; exact List.mem_append.mpr (.inl m)⟩
  · rintro ⟨x, e, m⟩
    rw [List.map_append] at m
    rcases List.mem_append.mp m with m | m
    · exact ⟨x, e, m⟩
    · exact absurd (List.mem_singleton.mp m).symm (hd x)
theorem nm_inj {x y : Str} (h : nm x = nm y) : x = y := by
  unfold nm at h
  injection h with h
  injection h with _ h
  injection h with h _
  injection h
theorem NamesAt.add {ps : List (D × Nat)} {S : Key → Bool} {n c : Nat} {x : Str} (h : NamesAt ps S n) (hx : x = "x" ∨ x = "y") :
    NamesAt (ps ++ [(nm x, c)]) (fun j => S j || decide (j = (Sum.inr x : Key))) (if S (Sum.inr x) = true then n else n + 1) := by
  refine ⟨fun k => ?_, ?_⟩
  · rw [Bool.or_eq_true, h.1 k, decide_eq_true_eq, List.map_append]
    constructor
    · rintro (⟨y, e, m⟩ | e)
      · exact ⟨y, e, List.mem_append.mpr (.inl m)⟩
      · exact ⟨x, e, List.mem_append.mpr (.inr (List.mem_singleton.mpr rfl))⟩
    · rintro ⟨y, e, m⟩
      rcases List.mem_append.mp m with m | m
      · exact .inl ⟨y, e, m⟩
      · right
        rw [e, nm_inj (List.mem_singleton.mp m)]
  · have hxy : ((Sum.inr ("x" : Str) : Key) = Sum.inr ("y" : Str)) = False := eq_false fun z => by
      have := Sum.inr.inj z
      exact absurd this (by decide +kernel)
    have hyx : ((Sum.inr ("y" : Str) : Key) = Sum.inr ("x" : Str)) = False := eq_false fun z => by
      have := Sum.inr.inj z
      exact absurd this (by decide +kernel)
    rw [h.2]
    rcases hx with rfl | rfl
    · simp only [hyx, decide_true, decide_false, Bool.or_true, Bool.or_false]
      cases S (Sum.inr "x") <;> cases S (Sum.inr "y") <;> rfl
    · simp only [hxy, decide_true, decide_false, Bool.or_true, Bool.or_false]
      cases S (Sum.inr "x") <;> cases S (Sum.inr "y") <;> rfl
theorem NamesAt.le {ps : List (D × Nat)} {S : Key → Bool} {n : Nat} (h : NamesAt ps S n) : n ≤ 2 := by
  rw [h.2]
  cases S (Sum.inr "x") <;> cases S (Sum.inr "y") <;> decide
section
variable {P : Program} {w : World} {K : PySem.W.Frag} {mg : Str → Option Value} {base : Heap}
def spNames : Sp := fun vs H Q _ => ∃ (l : Addr) (xs : List V) (ps : List (D × Nat)), vs = [.ref l] ∧ H l = some (.lst xs) ∧ Al (F2 H) xs ps ∧ ps.length ≤ 1000 ∧ (∀ p ∈ ps, NmOk p.1) ∧
  ∀ r H' (ys : List Str), Same H H' → H r = none → H' r = some (.lst (ys.map V.str)) → ys.length ≤ 2 → (∀ x, x ∈ ys ↔ nm x ∈ ps.map (·.1)) → Q (.ref r) H'
abbrev nNames : List Str := ["parts", "part", "_"]
theorem scNames : FnScope nNames ["parts"] (defScope sNames) := ⟨rfl, rfl, rfl, by decide +kernel, rfl, by decide +kernel, by decide +kernel⟩
theorem ok_names {f : Addr} {fd : FuncData} (F : Fun K "names_in" "names_in" sNames f fd) (T : Txt K mg) : FnOk P w K mg base CX0 1 f fd ["parts"] spNames := by
  refine F.ok scNames (fun vs H Q E h => ?_) (fun cdv A outer s H vs Q E hr h => ?_)
  · obtain ⟨l, xs, ps, rfl, _⟩ := h
    rfl
  · obtain ⟨l, xs, ps, rfl, hl, al, hz, hok, k⟩ := h
    have nd := scNames.nd
    refine ⟨_, pss_one (ps_ret (pe_callB (cr_sortW (by rfl)) (by rfl) T.sorted (by decide +kernel) (pa_cons
      (pe_scK (own := [("part", 1), ("_", 2)]) (by rfl) nd (pi_list (pv 0)) (blkOk_by (N := nNames) (sc := defScope sNames) (by decide +kernel))
        (fun _ _ _ _ _ => pgT2 K 1 2 nd) (fun _ _ _ _ _ => pts_one (pt_cmpR op_eq (pe_ix (ixT K) (pv 1) pe_int (fun _ _ => rfl)) pe_str (nomark _)))
        (fun _ _ _ _ _ => pe_ix (ixT K) (pv 1) pe_int (fun _ _ => rfl))) pa_nil))), ?_⟩
    refine ⟨_, rfl, l, rfl, ⟨xs, SqL.of hl⟩, fun c nc => scK_it (P := P) (w := w) (walk_list (K := K) (a := l) (xs := xs)) (fun j G => Same H G ∧ ∃ S n, G c = some (SetW P w c S n) ∧ NamesAt (ps.take j) S n)
      ⟨same_upd nc, _, _, upd_same, NamesAt.nil⟩ (fun j G _ hh => SqL.of (hh.1 _ _ hl)) ?_ ?_⟩
    · rintro j y G G' hj ⟨sG, S, n, hS, hN⟩ ⟨rfl, e⟩
      obtain ⟨⟨d, c1⟩, hpj, q, x, rfl, gq, hx⟩ := al.at e
      obtain ⟨kd, rest, rfl, hrest⟩ := hok _ (List.mem_of_getElem? hpj)
      obtain ⟨a, zs, rfl, ga, hzs⟩ := hx.tup
      obtain ⟨z0, zr, rfl, hz0, hzr⟩ := hzs.cons
      obtain rfl := hz0.str
      have gq1 := sG _ _ gq
      have ga1 := sG _ _ ga
      refine ⟨q, _, rfl, SqT.of gq1, rfl, _, _, rfl, _, _, rfl, rfl, rfl, ?_⟩
      refine ⟨_, rfl, a, _, 0, _, rfl, rfl, SqT.of ga1, at0, rfl, _, rfl, ?_⟩
      rw [dec_str]
      have et := take_succ_at hpj
      by_cases ek : kd = "name"
      · subst ek
        rw [decide_eq_true rfl]
        have hcase : ∃ x : Str, (x = "x" ∨ x = "y") ∧ rest = [.str x] := by
          rcases hrest rfl with h | h
          · exact ⟨_, .inl rfl, h⟩
          · exact ⟨_, .inr rfl, h⟩
        obtain ⟨x, hx1, rfl⟩ := hcase
        obtain ⟨z1, zr', rfl, hz1, hzr'⟩ := hzr.cons
        obtain rfl := hz1.str
        refine iteT ⟨_, rfl, a, _, 1, _, rfl, rfl, SqT.of ga1, at1, Sum.inr x, S, n, rfl, hS, ?_, sG.mut nc, _, _, upd_same, ?_⟩
        · have h1 := hN.le
          exact Nat.lt_of_le_of_lt (show n + 1 ≤ 3 by omega) (by decide)
        · rw [et]
          exact hN.add hx1
      · rw [decide_eq_false ek]
        refine iteF ⟨sG, S, n, hS, ?_⟩
        rw [et]
        refine hN.skip fun x z => ek ?_
        unfold nm at z
        injection z with z
        injection z with z _
        injection z
    · rintro G ⟨sG, S, n, hS, hN⟩
      have e1 : ps.take xs.length = ps := by rw [al.1]; exact List.take_length
      rw [e1] at hN
      refine ⟨c, S, n, rfl, hS, by have := hN.le; omega, fun kk hk => ?_, fun ys r _ _ hmem hlen hr1 => ?_⟩
      · obtain ⟨x, e, _⟩ := (hN.1 kk).mp hk
        exact ⟨x, e⟩
      · refine k r _ ys (sG.trans (same_upd hr1)) (none_back sG hr1) upd_same (by have := hN.le; omega) fun x => ?_
        rw [hmem x, hN.1]
        constructor
        · rintro ⟨y, e, m⟩
          rw [Sum.inr.inj e]; exact m
        · intro m
          exact ⟨x, rfl, m⟩
end
end K8
namespace K8
open PySem PySem.Spec PyProof.Rows L2 LayT
/-- a dict that tells g -/
def VOk (H : Hp) (kvs : List (Key × V)) (g : Str → Option D) : Prop := ∀ x, match valV kvs (Sum.inr x : Key) with
  | none => g x = none
  | some v => ∃ d, g x = some d ∧ DAt H v d
theorem VOk.same {H H' : Hp} {kvs : List (Key × V)} {g : Str → Option D} (h : VOk H kvs g) (s : Same H H') : VOk H' kvs g := fun x => by
  have q := h x
  cases e : valV kvs (Sum.inr x : Key) with
  | none => rw [e] at q; exact q
  | some v =>
    rw [e] at q
    obtain ⟨d, h1, h2⟩ := q
    exact ⟨d, h1, h2.same s⟩
def oneF (g : Str → Option D) (n : Nat) (x : Str) : Bool := match g x with
  | none => false
  | some d => isWideD d n
def areF (g : Str → Option D) (ys : List Str) (n : Nat) : Bool := ys.all (oneF g n)
section
variable {P : Program} {w : World} {K : PySem.W.Frag} {mg : Str → Option Value} {base : Heap}
/-! ### are_values -/
def spAreV : Sp := fun vs H Q _ => ∃ (l a : Addr) (ys : List Str) (n : Nat) (kvs : List (Key × V)) (g : Str → Option D), vs = [.ref l, .int n, .ref a] ∧ H l = some (.lst (ys.map V.str)) ∧ ys.length ≤ 100 ∧ n ≤ 1000 ∧ H a = some (.dK kvs) ∧ VOk H kvs g ∧
  ∀ H', Same H H' → Q (.bl (areF g ys n)) H'
abbrev nAreV : List Str := ["names", "width", "values", "name"]
theorem scAreV : FnScope nAreV ["names", "width", "values"] (defScope sAreV) := ⟨rfl, rfl, rfl, by decide +kernel, rfl, by decide +kernel, by decide +kernel⟩
theorem ok_areV {f fI : Addr} {fd fdI : FuncData} (F : Fun K "are_values" "are_values" sAreV f fd) (T : Txt K mg) (DI : Dfn P w K mg base "is_wide" 2 ["thing", "width"] spWide fI fdI) : FnOk P w K mg base CX0 3 f fd ["names", "width", "values"] spAreV := by
  refine F.ok scAreV (fun vs H Q E h => ?_) (fun cdv A outer s H vs Q E hr h => ?_)
  · obtain ⟨l, a, ys, n, kvs, g, rfl, _⟩ := h
    rfl
  · obtain ⟨l, a, ys, n, kvs, g, rfl, hl, hy, hn, ha, hv, k⟩ := h
    have nd := scAreV.nd
    have hu := hu_of hr
    refine ⟨_, pss_one (ps_ret (pe_and (pe_callB call_isi (by rfl) T.isinst (by decide +kernel) (pa_cons (pv 2) (pa_cons (pe_bltn (v := .ty "dict") (by rfl) T.dict (by decide +kernel) rfl) pa_nil)))
      (pe_one (pe_callB (cr_all rfl) (by rfl) T.all (by decide +kernel) (pa_cons
        (pe_lc (own := [("name", 3)]) (g := gName 3) (by rfl) nd (pi_list (pv 0)) (blkOk_by (N := nAreV) (sc := defScope sAreV) (by decide +kernel))
          (fun _ _ _ _ _ => pg_name (i := 3) nd rfl (.inl rfl)) (fun _ _ _ _ _ => pts_nil)
          (fun _ _ _ _ _ => pe_and (pe_cmp (pc_din hu (pv 3) (pv 2)) rfl) (pe_one (pcl DI hr (pa_cons (pe_dget hu (pv 2) (pv 3) (fun _ _ => rfl)) (pa_cons (pv 1) pa_nil)))))) pa_nil))))), ?_⟩
    refine ⟨_, rfl, .ref a, .ty "dict", .type "dict", .type "dict", true, rfl, .ty "dict", .base (.dK ha), kit_ty (by decide +kernel), true, rfl, ?_⟩
    refine iteT ?_
    refine ⟨_, rfl, l, rfl, ⟨_, SqL.of hl⟩, fun c nc => lc_it (walk_list (K := K) (a := l) (xs := ys.map V.str)) (fun j G => Same H G ∧ G c = some (.lst ((ys.take j).map fun x => V.bl (oneF g n x))))
      ⟨same_upd nc, upd_same⟩ (fun j G _ hh => SqL.of (hh.1 _ _ hl)) ?_ ?_⟩
    · rintro j y G G' hj ⟨sG, gc⟩ ⟨rfl, e⟩
      obtain ⟨x, hx, rfl⟩ := map_at e
      have hl' : ((ys.take j).map fun x => V.bl (oneF g n x)).length < sizeLine := by
        rw [List.length_map, List.length_take]
        exact szl (by omega)
      refine ⟨rfl, ?_⟩
      refine ⟨_, rfl, _, rfl, a, _, rfl, DGet.k (k := Sum.inr x) (sG _ _ ha), _, rfl, ?_⟩
      have q := hv x
      cases ev : valV kvs (Sum.inr x : Key) with
      | none =>
        rw [ev] at q
        have e1 : oneF g n x = false := by unfold oneF; rw [q]
        refine iteF ⟨_, gc, hl', sG.mut nc, ?_⟩
        rw [upd_same, map_take_succ hx, e1]
      | some v =>
        rw [ev] at q
        obtain ⟨d, h1, h2⟩ := q
        have e1 : oneF g n x = isWideD d n := by unfold oneF; rw [h1]
        refine iteT ?_
        have hg := DGet.k (k := (Sum.inr x : Key)) (sG _ _ ha)
        rw [ev] at hg
        refine ⟨_, rfl, _, rfl, a, v, rfl, hg, _, rfl, v, d, n, rfl, h2.same sG, hn, _, gc, hl', sG.mut nc, ?_⟩
        rw [upd_same, map_take_succ hx, e1]
    · rintro G ⟨sG, gc⟩
      rw [List.length_map, List.take_length] at gc
      refine ⟨c, ys.map (oneF g n), rfl, ?_, ?_⟩
      · rw [List.map_map]; exact SqL.of gc
      rw [List.all_map]
      exact k G sG
/-! ### the errors -/
structure ErrC (K : PySem.W.Frag) (mg : Str → Option Value) (x : Str) (C : Addr) : Prop where
  q : PySem.W.excIn K C [.type "ValueError", .type "Exception", .type "BaseException", .type "object"] "ValueError.__new__" = true
  g : mg x = some (.ref C)
  k : PySem.W.keepIn K (.ref C) = true
  b : PySem.W.subIn K (.ref C) (.type "BaseException") = some true
  t : PySem.W.typeIn K (.ref C) = some (.type "type")
/-! ### need_width -/
def okWidth (d : D) : Bool := match d with
  | .int i => decide (1 ≤ i) && decide (i ≤ 200)
  | _ => false
def spNeedW (C : Addr) : Sp := fun vs H Q E => ∃ (v : V) (d : D), vs = [v] ∧ DAt H v d ∧ (okWidth d = true → Q .non H) ∧ (okWidth d = false → E (.ref C) none H)
theorem scNeedW : FnScope ["width"] ["width"] (defScope sNeedW) := ⟨rfl, rfl, rfl, by decide +kernel, rfl, by decide +kernel, by decide +kernel⟩
theorem ok_needW {f fN C : Addr} {fd fdN : FuncData} (F : Fun K "need_width" "need_width" sNeedW f fd) (T : Txt K mg) (DN : Dfn P w K mg base "is_number" 1 ["thing"] spNum fN fdN) (TB : ErrC K mg "BadWidth" C) :
    FnOk P w K mg base (L2.CX P w) 2 f fd ["width"] (spNeedW C) := by
  refine F.okX scNeedW (fun vs H Q E h => ?_) (fun cdv A outer s H vs Q E hr h => ?_)
  · obtain ⟨v, d, rfl, _⟩ := h
    rfl
  · obtain ⟨v, d, rfl, hd, kQ, kE⟩ := h
    refine ⟨_, pss_one (ps_if (PW.pt (pw_or (pt_not (pt_val (pcl DN hr (pa_cons (pv 0) pa_nil)))) (pw_or1 (pt_not (pt_chain op_le op_le pe_int (pv 0) (pgl T.mW))))))
      (pss_one (ps_raise rfl (takes_of rfl rfl rfl rfl) (pmk_own PySem.F.excBase_ValueError TB.q TB.g TB.k (raises_own TB.b TB.t) (by exact rfl)))) pss_nil), ?_⟩
    refine ⟨_, rfl, v, d, rfl, hd, _, rfl, ?_⟩
    cases d with
    | non => exact iteT (kE rfl)
    | bl b => exact iteT (kE rfl)
    | str b => exact iteT (kE rfl)
    | tup b => exact iteT (kE rfl)
    | lst => exact iteT (kE rfl)
    | int i =>
    obtain rfl := hd.int
    refine iteF ⟨_, rfl, _, _, rfl, rfl, _, rfl, ?_⟩
    cases e1 : decide (1 ≤ i) with
    | false => exact iteF ⟨_, rfl, iteT (kE (by show (decide (1 ≤ i) && _) = _; rw [e1]; rfl))⟩
    | true =>
    refine iteT ⟨_, _, rfl, rfl, _, rfl, ?_⟩
    cases e2 : decide (i ≤ 200) with
    | false => exact iteT (kE (by show (decide (1 ≤ i) && decide (i ≤ 200)) = _; rw [e1, e2]; rfl))
    | true => exact iteF (kQ (by show (decide (1 ≤ i) && decide (i ≤ 200)) = _; rw [e1, e2]; rfl))
/-! ### need_values -/
def spNeedV (C : Addr) : Sp := fun vs H Q E => ∃ (l a : Addr) (ys : List Str) (n : Nat) (kvs : List (Key × V)) (g : Str → Option D), vs = [.ref l, .int n, .ref a] ∧ H l = some (.lst (ys.map V.str)) ∧ ys.length ≤ 100 ∧ n ≤ 1000 ∧ H a = some (.dK kvs) ∧ VOk H kvs g ∧
  ∀ H', Same H H' → (areF g ys n = true → Q .non H') ∧ (areF g ys n = false → E (.ref C) none H')
theorem scNeedV : FnScope ["names", "width", "values"] ["names", "width", "values"] (defScope sNeedV) := ⟨rfl, rfl, rfl, by decide +kernel, rfl, by decide +kernel, by decide +kernel⟩
theorem ok_needV {f fA C : Addr} {fd fdA : FuncData} (F : Fun K "need_values" "need_values" sNeedV f fd) (DA : Dfn P w K mg base "are_values" 3 ["names", "width", "values"] spAreV fA fdA) (TB : ErrC K mg "BadTerm" C) :
    FnOk P w K mg base (L2.CX P w) 4 f fd ["names", "width", "values"] (spNeedV C) := by
  refine F.okX scNeedV (fun vs H Q E h => ?_) (fun cdv A outer s H vs Q E hr h => ?_)
  · obtain ⟨l, a, ys, n, kvs, g, rfl, _⟩ := h
    rfl
  · obtain ⟨l, a, ys, n, kvs, g, rfl, hl, hy, hn, ha, hv, k⟩ := h
    refine ⟨_, pss_one (ps_if (pt_not (pt_val (pcl DA hr (pa_cons (pv 0) (pa_cons (pv 1) (pa_cons (pv 2) pa_nil))))))
      (pss_one (ps_raise rfl (takes_of rfl rfl rfl rfl) (pmk_own PySem.F.excBase_ValueError TB.q TB.g TB.k (raises_own TB.b TB.t) (by exact rfl)))) pss_nil), ?_⟩
    refine ⟨_, rfl, _, rfl, _, rfl, l, a, ys, n, kvs, g, rfl, hl, hy, hn, ha, hv, fun H' sm => ⟨_, rfl, ?_⟩⟩
    cases e : areF g ys n with
    | true => exact iteF ((k H' sm).1 e)
    | false => exact iteT ((k H' sm).2 e)
/-! ### need_parts -/
def spNeedP (C : Addr) : Sp := fun vs H Q E => ∃ (v : V) (d : D) (b : Bool) (m : Nat) (res : Option (List (D × Nat))), vs = [v, .bl b] ∧ DAt H v d ∧ Short d ∧ m ≤ 900 ∧ ordL b m [] [(d, b)] = some res ∧
  (res = none → ∀ H', Same H H' → E (.ref C) none H') ∧ ∀ ps, res = some ps → ∀ p H' xs, Same H H' → H p = none → H' p = some (.lst xs) → Al (F2 H') xs ps.reverse → Q (.ref p) H'
abbrev nNeedP : List Str := ["thing", "asked", "parts"]
theorem scNeedP : FnScope nNeedP ["thing", "asked"] (defScope sNeedP) := ⟨rfl, rfl, rfl, by decide +kernel, rfl, by decide +kernel, by decide +kernel⟩
theorem ok_needP {f fO C : Addr} {fd fdO : FuncData} (F : Fun K "need_parts" "need_parts" sNeedP f fd) (DO : Dfn P w K mg base "ordered_parts" 5 ["thing", "asked"] spOrd fO fdO) (TB : ErrC K mg "BadTerm" C) :
    FnOk P w K mg base (L2.CX P w) 6 f fd ["thing", "asked"] (spNeedP C) := by
  refine F.okX scNeedP (fun vs H Q E h => ?_) (fun cdv A outer s H vs Q E hr h => ?_)
  · obtain ⟨v, d, b, m, res, rfl, _⟩ := h
    rfl
  · obtain ⟨v, d, b, m, res, rfl, hd, hsh, hm, ho, kE, kQ⟩ := h
    have nd := scNeedP.nd
    refine ⟨_, pss_cons (ps_set (i := 2) nd rfl (.inl rfl) (pcl DO hr (pa_cons (pv 0) (pa_cons (pv 1) pa_nil))))
      (pss_cons (ps_if (pt_cmpR op_isN (pv 2) pe_non (nomark _)) (pss_one (ps_raise rfl (takes_of rfl rfl rfl rfl) (SkE.pmk_own1 PySem.F.excBase_ValueError TB.q TB.g TB.k (raises_own TB.b TB.t) (by exact rfl) (pe_ifExp (pt_val (pv 1)) pe_str pe_str)))) pss_nil)
      (pss_one (ps_ret (pv 2)))), ?_⟩
    refine ⟨_, rfl, _, rfl, v, d, b, m, res, rfl, hd, hsh, hm, ho, fun r H' sm hres => ?_⟩
    cases res with
    | none =>
      obtain rfl := (show r = .non from hres)
      refine ⟨_, rfl, rfl, _, rfl, iteT ?_⟩
      refine ⟨_, rfl, b, rfl, ?_⟩
      cases b
      · exact iteF (kE rfl H' sm)
      · exact iteT (kE rfl H' sm)
    | some ps =>
      obtain ⟨p, xs, rfl, hn, hp, al⟩ := (show ∃ p xs, r = .ref p ∧ H p = none ∧ H' p = some (.lst xs) ∧ Al (F2 H') xs ps.reverse from hres)
      exact ⟨_, rfl, rfl, _, rfl, iteF ⟨_, rfl, kQ ps rfl p H' xs sm hn hp al⟩⟩
end
end K8
namespace K8
open PySem PySem.Spec PyProof.Rows L2 LayT
/-- what a worker does with the items of a part, the numbers or truths taken, and a width -/
def spWk (g : List D → List V → Nat → Option V) : Sp := fun vs H Q _ => ∃ (q l : Addr) (pz zs : List V) (ds : List D) (n : Nat) (v : V), vs = [.ref q, .ref l, .int n] ∧ H q = some (.tup pz) ∧ DsAt H pz ds ∧ H l = some (.lst zs) ∧ g ds zs n = some v ∧ Q v H
abbrev nWk : List Str := ["part", "taken", "width"]
def gTold : List D → List V → Nat → Option V := fun ds _ _ => match ds with
  | [_, .int i] => some (.int i)
  | _ => none
def gDen : List D → List V → Nat → Option V := fun _ zs _ => match zs with
  | [.int a] => some (.int (Builtin.bitNot a))
  | _ => none
def gTimes : List D → List V → Nat → Option V := fun ds zs _ => match ds, zs with
  | [_, .int i, _], [.int a] => if i.natAbs < 1000 then some (.int (i * a)) else none
  | _, _ => none
def gUp : List D → List V → Nat → Option V := fun ds zs _ => match ds, zs with
  | [_, .int i, _], [.int a] => if 0 ≤ i ∧ i ≤ 1000 ∧ a.natAbs < 2 ^ 64 then some (.int (a * 2 ^ i.toNat)) else none
  | _, _ => none
def gAdd : List D → List V → Nat → Option V := fun _ zs _ => match zs with
  | [.int a, .int b] => some (.int (a + b))
  | _ => none
def gSub : List D → List V → Nat → Option V := fun _ zs _ => match zs with
  | [.int a, .int b] => some (.int (a - b))
  | _ => none
def gBoth : List D → List V → Nat → Option V := fun _ zs _ => match zs with
  | [.int a, .int b] => some (.int (Builtin.bitAnd a b))
  | _ => none
def gEith : List D → List V → Nat → Option V := fun _ zs _ => match zs with
  | [.int a, .int b] => some (.int (Builtin.bitOr a b))
  | _ => none
def gUnl : List D → List V → Nat → Option V := fun _ zs _ => match zs with
  | [.int a, .int b] => some (.int (Builtin.bitXor a b))
  | _ => none
def gEq : List D → List V → Nat → Option V := fun _ zs _ => match zs with
  | [.int a, .int b] => some (.bl (decide (a = b)))
  | _ => none
def gLess : List D → List V → Nat → Option V := fun _ zs _ => match zs with
  | [.int a, .int b] => some (.bl (decide (a < b)))
  | _ => none
def gBel : List D → List V → Nat → Option V := fun _ zs n => match zs with
  | [.int a, .int b] => if 1 ≤ n ∧ n ≤ 1000 then some (.bl (decide (Builtin.bitXor a (2 ^ (n - 1)) < Builtin.bitXor b (2 ^ (n - 1))))) else none
  | _ => none
def gTurn : List D → List V → Nat → Option V := fun _ zs _ => match zs with
  | [.bl b] => some (.bl (!b))
  | _ => none
/-- truths -/
def blsOf : List V → Option (List Bool)
  | [] => some []
  | .bl b :: r => (blsOf r).map (b :: ·)
  | _ => none
theorem blsOf_eq : ∀ {zs : List V} {bs : List Bool}, blsOf zs = some bs → zs = bs.map V.bl
  | [], bs, h => by cases h; rfl
  | z :: zs, bs, h => by
    cases z with
    | bl b =>
      obtain ⟨r, hr, rfl⟩ := Option.map_eq_some_iff.mp h
      rw [blsOf_eq hr]
      rfl
    | _ => simp [blsOf] at h
def gEvery : List D → List V → Nat → Option V := fun _ zs _ => (blsOf zs).map fun bs => .bl (bs.all id)
def gSome : List D → List V → Nat → Option V := fun _ zs _ => (blsOf zs).map fun bs => .bl (bs.any id)
section
variable {P : Program} {w : World} {K : PySem.W.Frag} {mg : Str → Option Value} {base : Heap}
theorem scTold : FnScope nWk ["part", "taken", "width"] (defScope sWTold) := ⟨rfl, rfl, rfl, by decide +kernel, rfl, by decide +kernel, by decide +kernel⟩
theorem ok_wTold {f : Addr} {fd : FuncData} (F : Fun K "told_number" "told_number" sWTold f fd) : FnOk P w K mg base CX0 1 f fd ["part", "taken", "width"] (spWk gTold) := by
  refine F.ok scTold (fun vs H Q E h => ?_) (fun cdv A outer s H vs Q E hr h => ?_)
  · obtain ⟨q, l, pz, zs, ds, n, v, rfl, _⟩ := h
    rfl
  · obtain ⟨q, l, pz, zs, ds, n, v, rfl, hq, hds, hl, hg, k⟩ := h
    unfold gTold at hg
    split at hg
    · cases hg
      obtain ⟨x, r, rfl, _, h1⟩ := hds.cons
      obtain ⟨y, r2, rfl, h2, h3⟩ := h1.cons
      obtain rfl := h2.int
      exact ⟨_, pss_one (ps_ret (pe_ix (ixT K) (pv 0) pe_int (fun _ _ => rfl))), _, rfl, q, _, 1, _, rfl, rfl, SqT.of hq, at1, k⟩
    · cases hg
theorem scDen : FnScope nWk ["part", "taken", "width"] (defScope sWDen) := ⟨rfl, rfl, rfl, by decide +kernel, rfl, by decide +kernel, by decide +kernel⟩
theorem ok_wDen {f : Addr} {fd : FuncData} (F : Fun K "denied" "denied" sWDen f fd) : FnOk P w K mg base CX0 1 f fd ["part", "taken", "width"] (spWk gDen) := by
  refine F.ok scDen (fun vs H Q E h => ?_) (fun cdv A outer s H vs Q E hr h => ?_)
  · obtain ⟨q, l, pz, zs, ds, n, v, rfl, _⟩ := h
    rfl
  · obtain ⟨q, l, pz, zs, ds, n, v, rfl, hq, hds, hl, hg, k⟩ := h
    unfold gDen at hg
    split at hg
    · cases hg
      exact ⟨_, pss_one (ps_ret (pe_un un_inv (pe_ix (ixL K) (pv 1) pe_int (fun _ _ => rfl)))), _, rfl, l, _, 0, _, rfl, rfl, SqL.of hl, at0, _, rfl, k⟩
    · cases hg
theorem scTimes : FnScope nWk ["part", "taken", "width"] (defScope sWTimes) := ⟨rfl, rfl, rfl, by decide +kernel, rfl, by decide +kernel, by decide +kernel⟩
theorem ok_wTimes {f : Addr} {fd : FuncData} (F : Fun K "times" "times" sWTimes f fd) : FnOk P w K mg base CX0 1 f fd ["part", "taken", "width"] (spWk gTimes) := by
  refine F.ok scTimes (fun vs H Q E h => ?_) (fun cdv A outer s H vs Q E hr h => ?_)
  · obtain ⟨q, l, pz, zs, ds, n, v, rfl, _⟩ := h
    rfl
  · obtain ⟨q, l, pz, zs, ds, n, v, rfl, hq, hds, hl, hg, k⟩ := h
    unfold gTimes at hg
    split at hg
    · split at hg
      · rename_i hi
        cases hg
        obtain ⟨x, r, rfl, _, h1⟩ := hds.cons
        obtain ⟨y, r2, rfl, h2, h3⟩ := h1.cons
        obtain rfl := h2.int
        exact ⟨_, pss_one (ps_ret (pe_op op_mul (pe_ix (ixT K) (pv 0) pe_int (fun _ _ => rfl)) (pe_ix (ixL K) (pv 1) pe_int (fun _ _ => rfl)))), _, rfl, q, _, 1, _, rfl, rfl, SqT.of hq, at1, _, rfl, l, _, 0, _, rfl, rfl, SqL.of hl, at0, _, _, rfl, rfl, .inl ⟨by omega, by omega⟩, k⟩
      · cases hg
    · cases hg
theorem scUp : FnScope nWk ["part", "taken", "width"] (defScope sWUp) := ⟨rfl, rfl, rfl, by decide +kernel, rfl, by decide +kernel, by decide +kernel⟩
theorem ok_wUp {f : Addr} {fd : FuncData} (F : Fun K "moved_up" "moved_up" sWUp f fd) : FnOk P w K mg base CX0 1 f fd ["part", "taken", "width"] (spWk gUp) := by
  refine F.ok scUp (fun vs H Q E h => ?_) (fun cdv A outer s H vs Q E hr h => ?_)
  · obtain ⟨q, l, pz, zs, ds, n, v, rfl, _⟩ := h
    rfl
  · obtain ⟨q, l, pz, zs, ds, n, v, rfl, hq, hds, hl, hg, k⟩ := h
    unfold gUp at hg
    split at hg
    · split at hg
      · rename_i hi
        cases hg
        obtain ⟨x, r, rfl, _, h1⟩ := hds.cons
        obtain ⟨y, r2, rfl, h2, h3⟩ := h1.cons
        obtain rfl := h2.int
        exact ⟨_, pss_one (ps_ret (pe_op op_shl (pe_ix (ixL K) (pv 1) pe_int (fun _ _ => rfl)) (pe_ix (ixT K) (pv 0) pe_int (fun _ _ => rfl)))), _, rfl, l, _, 0, _, rfl, rfl, SqL.of hl, at0, _, rfl, q, _, 1, _, rfl, rfl, SqT.of hq, at1, _, _, rfl, rfl, ⟨hi.1, by omega, hi.2.2⟩, k⟩
      · cases hg
    · cases hg
theorem scAdd : FnScope nWk ["part", "taken", "width"] (defScope sWAdd) := ⟨rfl, rfl, rfl, by decide +kernel, rfl, by decide +kernel, by decide +kernel⟩
theorem ok_wAdd {f : Addr} {fd : FuncData} (F : Fun K "added" "added" sWAdd f fd) : FnOk P w K mg base CX0 1 f fd ["part", "taken", "width"] (spWk gAdd) := by
  refine F.ok scAdd (fun vs H Q E h => ?_) (fun cdv A outer s H vs Q E hr h => ?_)
  · obtain ⟨q, l, pz, zs, ds, n, v, rfl, _⟩ := h
    rfl
  · obtain ⟨q, l, pz, zs, ds, n, v, rfl, hq, hds, hl, hg, k⟩ := h
    unfold gAdd at hg
    split at hg
    · cases hg
      exact ⟨_, pss_one (ps_ret (pe_op op_add (pe_ix (ixL K) (pv 1) pe_int (fun _ _ => rfl)) (pe_ix (ixL K) (pv 1) pe_int (fun _ _ => rfl)))), _, rfl, l, _, 0, _, rfl, rfl, SqL.of hl, at0, _, rfl, l, _, 1, _, rfl, rfl, SqL.of hl, at1, _, _, rfl, rfl, k⟩
    · cases hg
theorem scSub : FnScope nWk ["part", "taken", "width"] (defScope sWSub) := ⟨rfl, rfl, rfl, by decide +kernel, rfl, by decide +kernel, by decide +kernel⟩
theorem ok_wSub {f : Addr} {fd : FuncData} (F : Fun K "lessened" "lessened" sWSub f fd) : FnOk P w K mg base CX0 1 f fd ["part", "taken", "width"] (spWk gSub) := by
  refine F.ok scSub (fun vs H Q E h => ?_) (fun cdv A outer s H vs Q E hr h => ?_)
  · obtain ⟨q, l, pz, zs, ds, n, v, rfl, _⟩ := h
    rfl
  · obtain ⟨q, l, pz, zs, ds, n, v, rfl, hq, hds, hl, hg, k⟩ := h
    unfold gSub at hg
    split at hg
    · cases hg
      exact ⟨_, pss_one (ps_ret (pe_op op_sub (pe_ix (ixL K) (pv 1) pe_int (fun _ _ => rfl)) (pe_ix (ixL K) (pv 1) pe_int (fun _ _ => rfl)))), _, rfl, l, _, 0, _, rfl, rfl, SqL.of hl, at0, _, rfl, l, _, 1, _, rfl, rfl, SqL.of hl, at1, _, _, rfl, rfl, k⟩
    · cases hg
theorem scBoth : FnScope nWk ["part", "taken", "width"] (defScope sWBoth) := ⟨rfl, rfl, rfl, by decide +kernel, rfl, by decide +kernel, by decide +kernel⟩
theorem ok_wBoth {f : Addr} {fd : FuncData} (F : Fun K "both" "both" sWBoth f fd) : FnOk P w K mg base CX0 1 f fd ["part", "taken", "width"] (spWk gBoth) := by
  refine F.ok scBoth (fun vs H Q E h => ?_) (fun cdv A outer s H vs Q E hr h => ?_)
  · obtain ⟨q, l, pz, zs, ds, n, v, rfl, _⟩ := h
    rfl
  · obtain ⟨q, l, pz, zs, ds, n, v, rfl, hq, hds, hl, hg, k⟩ := h
    unfold gBoth at hg
    split at hg
    · cases hg
      exact ⟨_, pss_one (ps_ret (pe_op op_and (pe_ix (ixL K) (pv 1) pe_int (fun _ _ => rfl)) (pe_ix (ixL K) (pv 1) pe_int (fun _ _ => rfl)))), _, rfl, l, _, 0, _, rfl, rfl, SqL.of hl, at0, _, rfl, l, _, 1, _, rfl, rfl, SqL.of hl, at1, _, _, rfl, rfl, k⟩
    · cases hg
theorem scEith : FnScope nWk ["part", "taken", "width"] (defScope sWEith) := ⟨rfl, rfl, rfl, by decide +kernel, rfl, by decide +kernel, by decide +kernel⟩
theorem ok_wEith {f : Addr} {fd : FuncData} (F : Fun K "either" "either" sWEith f fd) : FnOk P w K mg base CX0 1 f fd ["part", "taken", "width"] (spWk gEith) := by
  refine F.ok scEith (fun vs H Q E h => ?_) (fun cdv A outer s H vs Q E hr h => ?_)
  · obtain ⟨q, l, pz, zs, ds, n, v, rfl, _⟩ := h
    rfl
  · obtain ⟨q, l, pz, zs, ds, n, v, rfl, hq, hds, hl, hg, k⟩ := h
    unfold gEith at hg
    split at hg
    · cases hg
      exact ⟨_, pss_one (ps_ret (pe_op op_or (pe_ix (ixL K) (pv 1) pe_int (fun _ _ => rfl)) (pe_ix (ixL K) (pv 1) pe_int (fun _ _ => rfl)))), _, rfl, l, _, 0, _, rfl, rfl, SqL.of hl, at0, _, rfl, l, _, 1, _, rfl, rfl, SqL.of hl, at1, _, _, rfl, rfl, k⟩
    · cases hg
theorem scUnl : FnScope nWk ["part", "taken", "width"] (defScope sWUnl) := ⟨rfl, rfl, rfl, by decide +kernel, rfl, by decide +kernel, by decide +kernel⟩
theorem ok_wUnl {f : Addr} {fd : FuncData} (F : Fun K "unlike" "unlike" sWUnl f fd) : FnOk P w K mg base CX0 1 f fd ["part", "taken", "width"] (spWk gUnl) := by
  refine F.ok scUnl (fun vs H Q E h => ?_) (fun cdv A outer s H vs Q E hr h => ?_)
  · obtain ⟨q, l, pz, zs, ds, n, v, rfl, _⟩ := h
    rfl
  · obtain ⟨q, l, pz, zs, ds, n, v, rfl, hq, hds, hl, hg, k⟩ := h
    unfold gUnl at hg
    split at hg
    · cases hg
      exact ⟨_, pss_one (ps_ret (pe_op op_xor (pe_ix (ixL K) (pv 1) pe_int (fun _ _ => rfl)) (pe_ix (ixL K) (pv 1) pe_int (fun _ _ => rfl)))), _, rfl, l, _, 0, _, rfl, rfl, SqL.of hl, at0, _, rfl, l, _, 1, _, rfl, rfl, SqL.of hl, at1, _, _, rfl, rfl, k⟩
    · cases hg
theorem scEq : FnScope nWk ["part", "taken", "width"] (defScope sWEq) := ⟨rfl, rfl, rfl, by decide +kernel, rfl, by decide +kernel, by decide +kernel⟩
theorem ok_wEq {f : Addr} {fd : FuncData} (F : Fun K "equal" "equal" sWEq f fd) : FnOk P w K mg base CX0 1 f fd ["part", "taken", "width"] (spWk gEq) := by
  refine F.ok scEq (fun vs H Q E h => ?_) (fun cdv A outer s H vs Q E hr h => ?_)
  · obtain ⟨q, l, pz, zs, ds, n, v, rfl, _⟩ := h
    rfl
  · obtain ⟨q, l, pz, zs, ds, n, v, rfl, hq, hds, hl, hg, k⟩ := h
    unfold gEq at hg
    split at hg
    · cases hg
      refine ⟨_, pss_one (ps_ret (pe_cmpR op_eq (pe_ix (ixL K) (pv 1) pe_int (fun _ _ => rfl)) (pe_ix (ixL K) (pv 1) pe_int (fun _ _ => rfl)) (nomark _))), _, rfl, l, _, 0, _, rfl, rfl, SqL.of hl, at0, _, rfl, l, _, 1, _, rfl, rfl, SqL.of hl, at1, rfl, ?_⟩
      rw [dec_int]
      exact k
    · cases hg
theorem scLess : FnScope nWk ["part", "taken", "width"] (defScope sWLess) := ⟨rfl, rfl, rfl, by decide +kernel, rfl, by decide +kernel, by decide +kernel⟩
theorem ok_wLess {f : Addr} {fd : FuncData} (F : Fun K "less" "less" sWLess f fd) : FnOk P w K mg base CX0 1 f fd ["part", "taken", "width"] (spWk gLess) := by
  refine F.ok scLess (fun vs H Q E h => ?_) (fun cdv A outer s H vs Q E hr h => ?_)
  · obtain ⟨q, l, pz, zs, ds, n, v, rfl, _⟩ := h
    rfl
  · obtain ⟨q, l, pz, zs, ds, n, v, rfl, hq, hds, hl, hg, k⟩ := h
    unfold gLess at hg
    split at hg
    · cases hg
      exact ⟨_, pss_one (ps_ret (pe_cmpR op_lt (pe_ix (ixL K) (pv 1) pe_int (fun _ _ => rfl)) (pe_ix (ixL K) (pv 1) pe_int (fun _ _ => rfl)) (nomark _))), _, rfl, l, _, 0, _, rfl, rfl, SqL.of hl, at0, _, rfl, l, _, 1, _, rfl, rfl, SqL.of hl, at1, _, _, rfl, rfl, k⟩
    · cases hg
abbrev nBel : List Str := ["part", "taken", "width", "half"]
theorem scBel : FnScope nBel ["part", "taken", "width"] (defScope sWBel) := ⟨rfl, rfl, rfl, by decide +kernel, rfl, by decide +kernel, by decide +kernel⟩
theorem ok_wBel {f : Addr} {fd : FuncData} (F : Fun K "below" "below" sWBel f fd) : FnOk P w K mg base CX0 1 f fd ["part", "taken", "width"] (spWk gBel) := by
  refine F.ok scBel (fun vs H Q E h => ?_) (fun cdv A outer s H vs Q E hr h => ?_)
  · obtain ⟨q, l, pz, zs, ds, n, v, rfl, _⟩ := h
    rfl
  · obtain ⟨q, l, pz, zs, ds, n, v, rfl, hq, hds, hl, hg, k⟩ := h
    have nd := scBel.nd
    unfold gBel at hg
    split at hg
    · split at hg
      · rename_i hn
        cases hg
        refine ⟨_, pss_cons (ps_set (i := 3) nd rfl (.inl rfl) (pe_op op_oneShl pe_int (pe_op op_sub (pv 2) pe_int)))
          (pss_one (ps_ret (pe_cmpR op_lt (pe_op op_xor (pe_ix (ixL K) (pv 1) pe_int (fun _ _ => rfl)) (pv 3)) (pe_op op_xor (pe_ix (ixL K) (pv 1) pe_int (fun _ _ => rfl)) (pv 3)) (nomark _)))), ?_⟩
        have e0 : ((n : Int) - 1) = ((n - 1 : Nat) : Int) := by omega
        refine ⟨_, rfl, _, _, rfl, rfl, ?_⟩
        dsimp only
        rw [e0]
        refine ⟨n - 1, rfl, rfl, by omega, ?_⟩
        exact ⟨_, rfl, l, _, 0, _, rfl, rfl, SqL.of hl, at0, _, rfl, _, _, rfl, rfl, _, rfl, l, _, 1, _, rfl, rfl, SqL.of hl, at1, _, rfl, _, _, rfl, rfl, _, _, rfl, rfl, k⟩
      · cases hg
    · cases hg
theorem scTurn : FnScope nWk ["part", "taken", "width"] (defScope sWTurn) := ⟨rfl, rfl, rfl, by decide +kernel, rfl, by decide +kernel, by decide +kernel⟩
theorem ok_wTurn {f : Addr} {fd : FuncData} (F : Fun K "turned" "turned" sWTurn f fd) : FnOk P w K mg base CX0 1 f fd ["part", "taken", "width"] (spWk gTurn) := by
  refine F.ok scTurn (fun vs H Q E h => ?_) (fun cdv A outer s H vs Q E hr h => ?_)
  · obtain ⟨q, l, pz, zs, ds, n, v, rfl, _⟩ := h
    rfl
  · obtain ⟨q, l, pz, zs, ds, n, v, rfl, hq, hds, hl, hg, k⟩ := h
    unfold gTurn at hg
    split at hg
    · cases hg
      exact ⟨_, pss_one (ps_ret (pe_not (pe_ix (ixL K) (pv 1) pe_int (fun _ _ => rfl)))), _, rfl, l, _, 0, _, rfl, rfl, SqL.of hl, at0, _, rfl, k⟩
    · cases hg
theorem scEvery : FnScope nWk ["part", "taken", "width"] (defScope sWEvery) := ⟨rfl, rfl, rfl, by decide +kernel, rfl, by decide +kernel, by decide +kernel⟩
theorem ok_wEvery {f : Addr} {fd : FuncData} (F : Fun K "every" "every" sWEvery f fd) (T : Txt K mg) : FnOk P w K mg base CX0 1 f fd ["part", "taken", "width"] (spWk gEvery) := by
  refine F.ok scEvery (fun vs H Q E h => ?_) (fun cdv A outer s H vs Q E hr h => ?_)
  · obtain ⟨q, l, pz, zs, ds, n, v, rfl, _⟩ := h
    rfl
  · obtain ⟨q, l, pz, zs, ds, n, v, rfl, hq, hds, hl, hg, k⟩ := h
    obtain ⟨bs, hb, rfl⟩ := Option.map_eq_some_iff.mp hg
    obtain rfl := blsOf_eq hb
    exact ⟨_, pss_one (ps_ret (pe_callB (cr_all rfl) (by rfl) T.all (by decide +kernel) (pa_cons (pv 1) pa_nil))), _, rfl, l, bs, rfl, SqL.of hl, k⟩
theorem scSome : FnScope nWk ["part", "taken", "width"] (defScope sWSome) := ⟨rfl, rfl, rfl, by decide +kernel, rfl, by decide +kernel, by decide +kernel⟩
theorem ok_wSome {f : Addr} {fd : FuncData} (F : Fun K "some" "some" sWSome f fd) (T : Txt K mg) : FnOk P w K mg base CX0 1 f fd ["part", "taken", "width"] (spWk gSome) := by
  refine F.ok scSome (fun vs H Q E h => ?_) (fun cdv A outer s H vs Q E hr h => ?_)
  · obtain ⟨q, l, pz, zs, ds, n, v, rfl, _⟩ := h
    rfl
  · obtain ⟨q, l, pz, zs, ds, n, v, rfl, hq, hds, hl, hg, k⟩ := h
    obtain ⟨bs, hb, rfl⟩ := Option.map_eq_some_iff.mp hg
    obtain rfl := blsOf_eq hb
    exact ⟨_, pss_one (ps_ret (pe_callB (cr_any rfl) (by rfl) T.any (by decide +kernel) (pa_cons (pv 1) pa_nil))), _, rfl, l, bs, rfl, SqL.of hl, k⟩
end
end K8
namespace K8
open PySem PySem.Spec PyProof.Rows L2 LayT
theorem ix_kd {X : Cx} {d : Addr} {es : Array DictEntry} {n : Nat} (D : KDict X.K X.w d es n) : IxR X (fun x y H Q => ∃ (z : Str) (u0 : Value) (v0 : V), x = .ref d ∧ y = .str z ∧ PySem.W.nsIn X.K d z = some (some u0) ∧ RelV v0 u0 ∧ Q v0 H) := by
  intro value slice pins s σ H x y v u Q I rx ry h hs
  have hT := kd_type D I
  have go := op_item_kd D pins s σ H x y v u Q I rx ry h
  obtain ⟨z, u0, v0, rfl, rfl, e, r, q⟩ := h
  cases rx
  exact tail_any hT slot_dict_getitem.lookup go hs
abbrev G3 : Type := List D → List V → Nat → Option V
def gT (k : Str) : Option G3 := if k = "number" then some gTold else if k = "~" then some gDen else if k = "times" then some gTimes else if k = "up" then some gUp else if k = "+" then some gAdd else if k = "-" then some gSub
  else if k = "&" then some gBoth else if k = "|" then some gEith else if k = "^" then some gUnl else none
def gF (k : Str) : Option G3 := if k = "equal" then some gEq else if k = "less" then some gLess else if k = "below" then some gBel else if k = "not" then some gTurn else if k = "and" then some gEvery else if k = "or" then some gSome else none
/-- the module's dicts of workers -/
structure Wks (w : World) (K : PySem.W.Frag) (mg : Str → Option Value) (S : Addr → Option Sp) : Prop where
  T : ∃ d es n, mg "TERM_WORKERS" = some (.ref d) ∧ KDict K w d es n ∧ (∀ k g, gT k = some g → ∃ f, PySem.W.nsIn K d k = some (some (.ref f)) ∧ S f = some (spWk g)) ∧ ∀ k g, gF k = some g → PySem.W.nsIn K d k = some none
  F : ∃ d es n, mg "FORMULA_WORKERS" = some (.ref d) ∧ KDict K w d es n ∧ ∀ k g, gF k = some g → ∃ f, PySem.W.nsIn K d k = some (some (.ref f)) ∧ S f = some (spWk g)
/-- one part worked out, with what was taken -/
def workF (g : Str → Option D) (n : Nat) (d : D) (zs : List V) : Option V := match d with
  | .tup (.str k :: r) => if k = "name" then (match r with
      | [.str x] => (match g x with
        | some (.int i) => some (.int i)
        | _ => none)
      | _ => none)
    else match gT k with
      | some G => (match G (.str k :: r) zs n with
        | some (.int i) => some (.int (i % 2 ^ n))
        | _ => none)
      | none => (match gF k with
        | some G => G (.str k :: r) zs n
        | none => none)
  | _ => none
theorem workF_at {g : Str → Option D} {n : Nat} {d : D} {zs : List V} {v : V} (h : workF g n d zs = some v) : ∃ k r, d = .tup (.str k :: r) ∧ ((k = "name" ∧ ∃ x i, r = [.str x] ∧ g x = some (.int i) ∧ v = .int i) ∨
    (k ≠ "name" ∧ ((∃ G i, gT k = some G ∧ G (.str k :: r) zs n = some (.int i) ∧ v = .int (i % 2 ^ n)) ∨ ∃ G, gF k = some G ∧ G (.str k :: r) zs n = some v ∧ gT k = none))) := by
  unfold workF at h
  split at h
  · rename_i k r
    refine ⟨k, r, rfl, ?_⟩
    split at h
    · rename_i hk
      refine .inl ⟨hk, ?_⟩
      split at h
      · rename_i x
        split at h
        · rename_i i e
          exact ⟨x, i, rfl, e, (Option.some.inj h).symm⟩
        · cases h
      · cases h
    · rename_i hk
      refine .inr ⟨hk, ?_⟩
      split at h
      · rename_i G eG
        split at h
        · rename_i i e
          exact .inl ⟨G, i, eG, e, (Option.some.inj h).symm⟩
        · cases h
      · rename_i eN
        split at h
        · rename_i G eG
          exact .inr ⟨G, eG, h, eN⟩
        · cases h
  · cases h
def toldF (g : Str → Option D) (n : Nat) : List (D × Nat) → List V → Option V
  | [], st => st[0]?
  | (d, c) :: ps, st => if c ≤ st.length then (match workF g n d (st.drop (st.length - c)) with
    | some v => toldF g n ps (st.take (st.length - c) ++ [v])
    | none => none) else none
section
variable {P : Program} {w : World} {K : PySem.W.Frag} {mg : Str → Option Value} {base : Heap}
def spTold : Sp := fun vs H Q _ => ∃ (l a : Addr) (xs : List V) (ps : List (D × Nat)) (n : Nat) (kvs : List (Key × V)) (g : Str → Option D) (v : V), vs = [.ref l, .int n, .ref a] ∧ H l = some (.lst xs) ∧ Al (F2 H) xs ps ∧ ps.length ≤ 1000 ∧ n ≤ 1000 ∧
  H a = some (.dK kvs) ∧ VOk H kvs g ∧ toldF g n ps [] = some v ∧ ∀ H', Same H H' → Q v H'
abbrev nToldAt : List Str := ["parts", "width", "values", "stack", "part", "many", "taken", "worker"]
theorem scToldAt : FnScope nToldAt ["parts", "width", "values"] (defScope sToldAt) := ⟨rfl, rfl, rfl, by decide +kernel, rfl, by decide +kernel, by decide +kernel⟩
theorem ok_told {S : Addr → Option Sp} {f fT fL : Addr} {fd fdT fdL : FuncData} (F : Fun K "told_at" "told_at" sToldAt f fd) (T : Txt K mg) (W : Wks w K mg S) (A0 : ∀ f sp, S f = some sp → Held P w K mg base 1 f sp)
    (DT : Dfn P w K mg base "taken_off" 1 ["stack", "many"] spTaken fT fdT) (DL : Dfn P w K mg base "lowest_bits" 1 ["number", "width"] spLow fL fdL) : FnOk P w K mg base CX0 2 f fd ["parts", "width", "values"] spTold := by
  refine F.ok scToldAt (fun vs H Q E h => ?_) (fun cdv A outer s H vs Q E hr h => ?_)
  · obtain ⟨l, a, xs, ps, n, kvs, g, v, rfl, _⟩ := h
    rfl
  · obtain ⟨l, a, xs, ps, n, kvs, g, v, rfl, hl, al, hz, hn, ha, hv, ht, k⟩ := h
    have nd := scToldAt.nd
    have hu := hu_of hr
    obtain ⟨dT, eT, mT, gTm, KT, hT1, hT2⟩ := W.T
    obtain ⟨dF, eF, mF, gFm, KF, hF1⟩ := W.F
    refine ⟨_, pss_cons (ps_set (i := 3) nd rfl (.inl rfl) (plst pa_nil))
      (pss_cons (ps_for PassesOwn.never rfl (pi_list (pv 0)) (pgT2 K 4 5 nd)
        (pss_cons (ps_set (i := 6) nd rfl (.inl rfl) (pcl DT hr (pa_cons (pv 3) (pa_cons (pv 5) pa_nil))))
        (pss_one (ps_if (pt_cmpR op_eq (pe_ix (ixT K) (pv 4) pe_int (fun _ _ => rfl)) pe_str (nomark _))
          (pss_one (ps_expr (pe_bm PySem.F.plainAttrs_list PySem.F.slot_list_append PySem.F.type_list_append mt_append (pv 3) (pa_cons (pe_dget hu (pv 2) (pe_ix (ixT K) (pv 4) pe_int (fun _ _ => rfl)) (fun _ _ => rfl)) pa_nil))))
          (pss_one (ps_if (pt_cmpR (op_in_kd KT) (pe_ix (ixT K) (pv 4) pe_int (fun _ _ => rfl)) (pgl (v := .ref dT) ⟨_, gTm, rfl⟩) (by rfl))
            (pss_cons (ps_set (i := 7) nd rfl (.inl rfl) (pe_ix (ix_kd KT) (pgl (v := .ref dT) ⟨_, gTm, rfl⟩) (pe_ix (ixT K) (pv 4) pe_int (fun _ _ => rfl)) (fun _ _ => rfl)))
              (pss_one (ps_expr (pe_bm PySem.F.plainAttrs_list PySem.F.slot_list_append PySem.F.type_list_append mt_append (pv 3) (pa_cons (pcl DL hr (pa_cons (pe_callA (i := 7) A0 hr rfl (.inl rfl) (pa_cons (pv 4) (pa_cons (pv 6) (pa_cons (pv 1) pa_nil)))) (pa_cons (pv 1) pa_nil))) pa_nil)))))
            (pss_cons (ps_set (i := 7) nd rfl (.inl rfl) (pe_ix (ix_kd KF) (pgl (v := .ref dF) ⟨_, gFm, rfl⟩) (pe_ix (ixT K) (pv 4) pe_int (fun _ _ => rfl)) (fun _ _ => rfl)))
              (pss_one (ps_expr (pe_bm PySem.F.plainAttrs_list PySem.F.slot_list_append PySem.F.type_list_append mt_append (pv 3) (pa_cons (pe_callA (i := 7) A0 hr rfl (.inl rfl) (pa_cons (pv 4) (pa_cons (pv 6) (pa_cons (pv 1) pa_nil)))) pa_nil)))))))))))
      (pss_one (ps_ret (pe_ix (ixL K) (pv 3) pe_int (fun _ _ => rfl))))), ?_⟩
    refine rd_l0 fun cS H1 nS s1 hS => ?_
    have nSH : H cS = none := nS
    refine ⟨_, rfl, l, rfl, ⟨_, SqL.of (s1 _ _ hl)⟩, for_it (walk_list (K := K) (a := l) (xs := xs)) (fun j σ' G => ∃ o4 o5 o6 o7 st, σ' = [some (.ref l), some (.int n), some (.ref a), some (.ref cS), o4, o5, o6, o7] ∧ Same H G ∧ G cS = some (.lst st) ∧ st.length ≤ j ∧ toldF g n (ps.drop j) st = some v)
      ⟨_, _, _, _, _, rfl, s1, hS, Nat.le_refl 0, ht⟩ (fun j σ' G _ hh => by obtain ⟨_, _, _, _, _, _, h, _⟩ := hh; exact SqL.of (h _ _ hl)) ?_ ?_⟩
    · rintro j y σ' G G' hj ⟨o4, o5, o6, o7, st, rfl, sG, gS, hst, hto⟩ ⟨eH, hy⟩
      obtain rfl : G = G' := eH.symm
      obtain ⟨⟨d, c⟩, hpj, q, x, rfl, gq, hx⟩ := al.at hy
      have hjl : j < ps.length := (List.getElem?_eq_some_iff.mp hpj).1
      have edrop : ps.drop j = (d, c) :: ps.drop (j + 1) := by
        rw [List.drop_eq_getElem_cons hjl]
        congr 1
        rw [List.getElem?_eq_getElem hjl] at hpj
        exact Option.some.inj hpj
      rw [edrop] at hto
      unfold toldF at hto
      have hc : c ≤ st.length := by
        by_cases z : c ≤ st.length
        · exact z
        · rw [if_neg z] at hto; cases hto
      rw [if_pos hc] at hto
      cases ew : workF g n d (st.drop (st.length - c)) with
      | none => rw [ew] at hto; cases hto
      | some v1 =>
      rw [ew] at hto
      have hto2 : toldF g n (ps.drop (j + 1)) (st.take (st.length - c) ++ [v1]) = some v := hto
      clear hto
      obtain ⟨kd, r, rfl, hw⟩ := workF_at ew
      obtain ⟨a4, pz, rfl, ga, hds⟩ := hx.tup
      obtain ⟨x0, pr, rfl, hx0, hpr⟩ := hds.cons
      obtain rfl := hx0.str
      have gq1 := sG _ _ gq
      refine ⟨q, _, rfl, SqT.of gq1, rfl, _, _, rfl, _, _, rfl, rfl, ?_⟩
      refine ⟨_, rfl, _, rfl, cS, c, st, rfl, gS, hc, by omega, fun t G2 nT bG hS2 ht2 => ?_⟩
      have sm2 : Same H G2 := ((sG.but cS).trans bG).same nSH
      have ga2 := sm2 _ _ ga
      have hds2 := hds.same sm2
      have hlen : (st.take (st.length - c)).length < sizeLine := by rw [List.length_take]; exact szl (by omega)
      have fin : ∀ (u6 u7 : Option V) (G3 : Hp), Same H G3 → G3 cS = some (.lst (st.take (st.length - c))) → ∃ o4 o5 o6 o7 st', ([some (.ref l), some (.int n), some (.ref a), some (.ref cS), some (.ref a4), some (.int c), u6, u7] : L2.St) = [some (.ref l), some (.int n), some (.ref a), some (.ref cS), o4, o5, o6, o7] ∧
          Same H (upd G3 cS (.lst (st.take (st.length - c) ++ [v1]))) ∧ upd G3 cS (.lst (st.take (st.length - c) ++ [v1])) cS = some (.lst st') ∧ st'.length ≤ j + 1 ∧ toldF g n (ps.drop (j + 1)) st' = some v := fun u6 u7 G3 s3 _ =>
        ⟨_, _, _, _, _, rfl, s3.mut nSH, upd_same, by rw [List.length_append, List.length_take]; show _ + 1 ≤ _; omega, hto2⟩
      refine ⟨_, rfl, a4, _, 0, _, rfl, rfl, SqT.of ga2, at0, rfl, _, rfl, ?_⟩
      rw [dec_str]
      rcases hw with ⟨rfl, x, i, rfl, hgx, rfl⟩ | ⟨hk, hw⟩
      · rw [decide_eq_true rfl]
        obtain ⟨x1, pr1, rfl, hx1, _⟩ := hpr.cons
        obtain rfl := hx1.str
        have q1 := hv x
        cases ev : valV kvs (Sum.inr x : Key) with
        | none => rw [ev] at q1; rw [q1] at hgx; cases hgx
        | some vv =>
        rw [ev] at q1
        obtain ⟨dd, h1, h2⟩ := q1
        rw [hgx] at h1
        cases h1
        obtain rfl := h2.int
        have hg := DGet.k (k := (Sum.inr x : Key)) (sm2 _ _ ha)
        rw [ev] at hg
        exact iteT ⟨_, rfl, .inl ⟨rfl, _, SqL.of hS2⟩, _, rfl, _, rfl, a4, _, 1, _, rfl, rfl, SqT.of ga2, at1, a, _, rfl, hg, cS, _, _, rfl, rfl, hS2, hlen, fin _ _ G2 sm2 hS2⟩
      · rw [decide_eq_false hk]
        refine iteF ?_
        rcases hw with ⟨Gg, i, hg, hG, rfl⟩ | ⟨Gg, hg, hG, hgN⟩
        · obtain ⟨fw, hf1, hf2⟩ := hT1 kd Gg hg
          refine ⟨_, rfl, a4, _, 0, _, rfl, rfl, SqT.of ga2, at0, kd, _, rfl, rfl, hf1, _, rfl, iteT ?_⟩
          refine ⟨_, rfl, a4, _, 0, _, rfl, rfl, SqT.of ga2, at0, kd, _, .ref fw, rfl, rfl, hf1, rfl, ?_⟩
          exact ⟨_, rfl, .inl ⟨rfl, _, SqL.of hS2⟩, fw, _, rfl, hf2, _, rfl, _, rfl, _, rfl, a4, t, _, _, _, n, _, rfl, ga2, hds2, ht2, hG, _, rfl, i, n, rfl, hn, cS, _, _, rfl, rfl, hS2, hlen, fin _ _ G2 sm2 hS2⟩
        · obtain ⟨fw, hf1, hf2⟩ := hF1 kd Gg hg
          refine ⟨_, rfl, a4, _, 0, _, rfl, rfl, SqT.of ga2, at0, kd, _, rfl, rfl, hT2 kd Gg hg, _, rfl, iteF ?_⟩
          refine ⟨_, rfl, a4, _, 0, _, rfl, rfl, SqT.of ga2, at0, kd, _, .ref fw, rfl, rfl, hf1, rfl, ?_⟩
          exact ⟨_, rfl, .inl ⟨rfl, _, SqL.of hS2⟩, fw, _, rfl, hf2, _, rfl, _, rfl, _, rfl, a4, t, _, _, _, n, _, rfl, ga2, hds2, ht2, hG, cS, _, _, rfl, rfl, hS2, hlen, fin _ _ G2 sm2 hS2⟩
    · rintro σ' G ⟨o4, o5, o6, o7, st, rfl, sG, gS, hst, hto⟩
      rw [al.1, List.drop_length] at hto
      have h0 : st[0]? = some v := hto
      exact ⟨_, rfl, cS, st, 0, v, rfl, rfl, SqL.of gS, atI_nat (j := 0) h0, k G sG⟩
end
end K8
namespace K8
open PySem PySem.Spec PyProof.Rows L2 LayT
section
variable {P : Program} {w : World} {K : PySem.W.Frag} {mg : Str → Option Value} {base : Heap}
/-- word_of (b false), holds_at (b true): CT BadTerm, CW BadWidth -/
def spWO (b : Bool) (CT CW : Addr) : Sp := fun vs H Q E => ∃ (tv wv : V) (a : Addr) (d wd : D) (m : Nat) (res : Option (List (D × Nat))) (kvs : List (Key × V)) (g : Str → Option D), vs = [tv, wv, .ref a] ∧ DAt H tv d ∧ Short d ∧ DAt H wv wd ∧ m ≤ 900 ∧
  ordL b m [] [(d, b)] = some res ∧ H a = some (.dK kvs) ∧ VOk H kvs g ∧ (res = none → ∀ H', Same H H' → E (.ref CT) none H') ∧ ∀ ps, res = some ps → (okWidth wd = false → ∀ H', Same H H' → E (.ref CW) none H') ∧
    (okWidth wd = true → ∃ n : Nat, wd = .int n ∧ ps.length ≤ 1000 ∧ (∀ p ∈ ps.reverse, NmOk p.1) ∧
      (((∃ x, nm x ∈ ps.reverse.map (·.1) ∧ oneF g n x = false) ∧ ∀ H', Same H H' → E (.ref CT) none H') ∨ ((∀ x, nm x ∈ ps.reverse.map (·.1) → oneF g n x = true) ∧ ∃ v, toldF g n ps.reverse [] = some v ∧ ∀ H', Same H H' → Q v H')))
/-- a def that may raise, called where its errors go out -/
theorem pclE {X : Cx} {W : WX} (tk : Takes X W) {x : Str} {k : Nat} {ps : List Str} {sp : Sp} {f : Addr} {fd : FuncData} {e : Expr} {es : List Expr} {t : TA} {p pos : Pos} (D : DfX X.prog X.w X.K X.mg X.base x k ps sp f fd) (hr : Room k X.A) (ha : PA X (e :: es) t) (hg : Gl X x := by rfl)
    (hdb : (x == ("__debug__" : Str)) = false := by decide) (he : starEach (e :: es) X.env = (false, eval e X.env) :: starEach es X.env := by rfl) (hpl : (backTo pos (starEach es X.env)).any (·.1) = false := by rfl) :
    PE X (.Call (.Name x p) (e :: es) [] pos) (tCallS sp (WE W) t) := pe_callS D.ok hr hg D.mgf D.kp D.b (fun σ => passAt tk σ) ha hdb he hpl
theorem okWidth_nat {d : D} (h : okWidth d = true) : ∃ n : Nat, d = .int n ∧ 1 ≤ n ∧ n ≤ 200 := by
  cases d with
  | int i =>
    have h' : (decide (1 ≤ i) && decide (i ≤ 200)) = true := h
    rw [Bool.and_eq_true, decide_eq_true_eq, decide_eq_true_eq] at h'
    exact ⟨i.toNat, by congr 1; omega, by omega, by omega⟩
  | _ => cases h
theorem scWordOf : FnScope ["term", "width", "values", "parts"] ["term", "width", "values"] (defScope sWordOf) := ⟨rfl, rfl, rfl, by decide +kernel, rfl, by decide +kernel, by decide +kernel⟩
theorem scHoldsAt : FnScope ["formula", "width", "values", "parts"] ["formula", "width", "values"] (defScope sHolds) := ⟨rfl, rfl, rfl, by decide +kernel, rfl, by decide +kernel, by decide +kernel⟩
theorem ok_wordOf {f fP fW fV fN fT CT CW : Addr} {fd fdP fdW fdV fdN fdT : FuncData} (F : Fun K "word_of" "word_of" sWordOf f fd) (DP : DfX P w K mg base "need_parts" 6 ["thing", "asked"] (spNeedP CT) fP fdP) (DW : DfX P w K mg base "need_width" 2 ["width"] (spNeedW CW) fW fdW)
    (DV : DfX P w K mg base "need_values" 4 ["names", "width", "values"] (spNeedV CT) fV fdV) (DN : Dfn P w K mg base "names_in" 1 ["parts"] spNames fN fdN) (DT : Dfn P w K mg base "told_at" 2 ["parts", "width", "values"] spTold fT fdT) :
    FnOk P w K mg base (L2.CX P w) 7 f fd ["term", "width", "values"] (spWO false CT CW) := by
  refine F.okX scWordOf (fun vs H Q E h => ?_) (fun cdv A outer s H vs Q E hr h => ?_)
  · obtain ⟨tv, wv, a, d, wd, m, res, kvs, g, rfl, _⟩ := h
    rfl
  · obtain ⟨tv, wv, a, d, wd, m, res, kvs, g, rfl, hd, hsh, hw, hm, ho, ha, hv, kN, kS⟩ := h
    have nd := scWordOf.nd
    refine ⟨_, pss_cons (ps_set (i := 3) nd rfl (.inl rfl) (pclE (takes_of rfl rfl rfl rfl) DP hr (pa_cons (pv 0) (pa_cons pe_bl pa_nil))))
      (pss_cons (ps_expr (pclE (takes_of rfl rfl rfl rfl) DW (hr.mono (by decide)) (pa_cons (pv 1) pa_nil)))
      (pss_cons (ps_expr (pclE (takes_of rfl rfl rfl rfl) DV (hr.mono (by decide)) (pa_cons (pcl DN (hr.mono (by decide)) (pa_cons (pv 3) pa_nil)) (pa_cons (pv 1) (pa_cons (pv 2) pa_nil)))))
      (pss_one (ps_ret (pcl DT (hr.mono (by decide)) (pa_cons (pv 3) (pa_cons (pv 1) (pa_cons (pv 2) pa_nil)))))))), ?_⟩
    refine ⟨_, rfl, tv, d, false, m, res, rfl, hd, hsh, hm, ho, fun e H' sm => kN e H' sm, fun ps eps p H1 xs s1 hp0 hp1 al => ?_⟩
    obtain ⟨kW, kG⟩ := kS ps eps
    refine ⟨_, rfl, wv, wd, rfl, hw.same s1, fun hok => ?_, fun hno => kW hno H1 s1⟩
    obtain ⟨n, rfl, hlen, hnm, hcase⟩ := kG hok
    obtain ⟨n', en, h1, h2⟩ := okWidth_nat hok
    have e2 : n = n' := by injection en with en; omega
    subst e2
    obtain rfl := hw.int
    refine ⟨_, rfl, p, xs, ps.reverse, rfl, hp1, al, by rw [List.length_reverse]; exact hlen, hnm, fun r H2 ys s2 hr0 hr2 hy2 hmem => ?_⟩
    have s12 := s1.trans s2
    refine ⟨_, rfl, _, rfl, r, a, ys, n, kvs, g, rfl, hr2, by omega, by omega, s12 _ _ ha, hv.same s12, fun H3 s3 => ⟨fun hall => ?_, fun hbad => ?_⟩⟩
    · have s13 := s12.trans s3
      rcases hcase with ⟨⟨x, hx, hf⟩, _⟩ | ⟨_, v, htold, kv⟩
      · have := List.all_eq_true.mp hall x ((hmem x).mpr hx)
        rw [hf] at this
        cases this
      · exact ⟨_, rfl, _, rfl, _, rfl, p, a, xs, ps.reverse, n, kvs, g, v, rfl, s3 _ _ (s2 _ _ hp1), al.mono (fun _ _ z => z.stay (s2.trans s3).stay), by rw [List.length_reverse]; exact hlen, by omega, s13 _ _ ha, hv.same s13, htold, fun H4 s4 => kv H4 (s13.trans s4)⟩
    · have s13 := s12.trans s3
      rcases hcase with ⟨_, kb⟩ | ⟨hgood, _⟩
      · exact kb H3 s13
      · have : areF g ys n = true := List.all_eq_true.mpr fun x hx => hgood x ((hmem x).mp hx)
        rw [this] at hbad
        cases hbad
theorem ok_holds {f fP fW fV fN fT CT CW : Addr} {fd fdP fdW fdV fdN fdT : FuncData} (F : Fun K "holds_at" "holds_at" sHolds f fd) (DP : DfX P w K mg base "need_parts" 6 ["thing", "asked"] (spNeedP CT) fP fdP) (DW : DfX P w K mg base "need_width" 2 ["width"] (spNeedW CW) fW fdW)
    (DV : DfX P w K mg base "need_values" 4 ["names", "width", "values"] (spNeedV CT) fV fdV) (DN : Dfn P w K mg base "names_in" 1 ["parts"] spNames fN fdN) (DT : Dfn P w K mg base "told_at" 2 ["parts", "width", "values"] spTold fT fdT) :
    FnOk P w K mg base (L2.CX P w) 7 f fd ["formula", "width", "values"] (spWO true CT CW) := by
  refine F.okX scHoldsAt (fun vs H Q E h => ?_) (fun cdv A outer s H vs Q E hr h => ?_)
  · obtain ⟨tv, wv, a, d, wd, m, res, kvs, g, rfl, _⟩ := h
    rfl
  · obtain ⟨tv, wv, a, d, wd, m, res, kvs, g, rfl, hd, hsh, hw, hm, ho, ha, hv, kN, kS⟩ := h
    have nd := scHoldsAt.nd
    refine ⟨_, pss_cons (ps_set (i := 3) nd rfl (.inl rfl) (pclE (takes_of rfl rfl rfl rfl) DP hr (pa_cons (pv 0) (pa_cons pe_bl pa_nil))))
      (pss_cons (ps_expr (pclE (takes_of rfl rfl rfl rfl) DW (hr.mono (by decide)) (pa_cons (pv 1) pa_nil)))
      (pss_cons (ps_expr (pclE (takes_of rfl rfl rfl rfl) DV (hr.mono (by decide)) (pa_cons (pcl DN (hr.mono (by decide)) (pa_cons (pv 3) pa_nil)) (pa_cons (pv 1) (pa_cons (pv 2) pa_nil)))))
      (pss_one (ps_ret (pcl DT (hr.mono (by decide)) (pa_cons (pv 3) (pa_cons (pv 1) (pa_cons (pv 2) pa_nil)))))))), ?_⟩
    refine ⟨_, rfl, tv, d, true, m, res, rfl, hd, hsh, hm, ho, fun e H' sm => kN e H' sm, fun ps eps p H1 xs s1 hp0 hp1 al => ?_⟩
    obtain ⟨kW, kG⟩ := kS ps eps
    refine ⟨_, rfl, wv, wd, rfl, hw.same s1, fun hok => ?_, fun hno => kW hno H1 s1⟩
    obtain ⟨n, rfl, hlen, hnm, hcase⟩ := kG hok
    obtain ⟨n', en, h1, h2⟩ := okWidth_nat hok
    have e2 : n = n' := by injection en with en; omega
    subst e2
    obtain rfl := hw.int
    refine ⟨_, rfl, p, xs, ps.reverse, rfl, hp1, al, by rw [List.length_reverse]; exact hlen, hnm, fun r H2 ys s2 hr0 hr2 hy2 hmem => ?_⟩
    have s12 := s1.trans s2
    refine ⟨_, rfl, _, rfl, r, a, ys, n, kvs, g, rfl, hr2, by omega, by omega, s12 _ _ ha, hv.same s12, fun H3 s3 => ⟨fun hall => ?_, fun hbad => ?_⟩⟩
    · have s13 := s12.trans s3
      rcases hcase with ⟨⟨x, hx, hf⟩, _⟩ | ⟨_, v, htold, kv⟩
      · have := List.all_eq_true.mp hall x ((hmem x).mpr hx)
        rw [hf] at this
        cases this
      · exact ⟨_, rfl, _, rfl, _, rfl, p, a, xs, ps.reverse, n, kvs, g, v, rfl, s3 _ _ (s2 _ _ hp1), al.mono (fun _ _ z => z.stay (s2.trans s3).stay), by rw [List.length_reverse]; exact hlen, by omega, s13 _ _ ha, hv.same s13, htold, fun H4 s4 => kv H4 (s13.trans s4)⟩
    · have s13 := s12.trans s3
      rcases hcase with ⟨_, kb⟩ | ⟨hgood, _⟩
      · exact kb H3 s13
      · have : areF g ys n = true := List.all_eq_true.mpr fun x hx => hgood x ((hmem x).mp hx)
        rw [this] at hbad
        cases hbad
end
end K8
namespace K8
open PySem PySem.Spec PyProof.Rows L2
theorem cut_take (xs : List V) (g : Nat) : cutV xs none (some (g : Int)) = xs.take g := by
  unfold cutV
  rw [HT.sIx_none, HT.sIx_nat, List.drop_zero, Nat.sub_zero]
  by_cases h : g ≤ xs.length
  · rw [Nat.min_eq_left h]
  · rw [Nat.min_eq_right (by omega), List.take_length, List.take_of_length_le (by omega)]
theorem fmod_rng {a b : Int} (h : 0 < b) : 0 ≤ a.fmod b ∧ a.fmod b < b := by
  rw [Int.fmod_eq_emod_of_nonneg _ (Int.le_of_lt h)]
  exact ⟨Int.emod_nonneg _ (Int.ne_of_gt h), Int.emod_lt_of_pos _ h⟩
theorem dp_ints {K : PySem.W.Frag} {H : Hp} : ∀ ns : List Int, DpAll K H (ns.map V.int) (ns.map PyData.int)
  | [] => .nil
  | n :: ns => .cons (.int n) (dp_ints ns)
theorem shaped_ints (ns : List Int) : SeqAt.shaped (.list (ns.map PyData.int)) = true := by
  have h1 : PyData.canLayAll0 (ns.map PyData.int) = true := by
    induction ns with
    | nil => rfl
    | cons n ns ih => rw [List.map_cons]; unfold PyData.canLayAll0; rw [ih]; rfl
  have h2 : PyData.depthAll (ns.map PyData.int) ≤ 1 := by
    clear h1
    induction ns with
    | nil => exact Nat.zero_le _
    | cons n ns ih =>
      rw [List.map_cons]; unfold PyData.depthAll
      have : (PyData.int n).depth = 0 := rfl
      rw [this]; omega
  unfold SeqAt.shaped PyData.canLay0 PyData.depth
  rw [h1, Bool.true_and]
  exact decide_eq_true (by omega)
theorem eqv_empty (ds : List PyData) : PyData.eqv (.list ds) (.list []) = ds.isEmpty := by
  cases ds <;> rfl
section
variable {P : Program} {w : World} {K : PySem.W.Frag} {mg : Str → Option Value} {base : Heap} 
/-! ### _law_draw -/
def spDraw (K : PySem.W.Frag) : Sp := fun vs H Q _ => ∃ (a : Addr) (ns : List Int) (n m : Int), vs = [.ref a, .int n, .int m] ∧ SqL K H a (ns.map V.int) ∧ ns.length ≤ 63 ∧ 0 ≤ n ∧ n ≤ 100000 ∧ 1 ≤ m ∧ m ≤ 1099511627776 ∧ ∀ H' r, Same H H' → 0 ≤ r → r < m → Q (.int r) H'
theorem scDraw : FnScope ["script", "at", "many", "row", "cell", "turn", "step", "mixed"] ["script", "at", "many"] (defScope sDraw) := ⟨rfl, rfl, rfl, by decide +kernel, rfl, by decide +kernel, by decide +kernel⟩
theorem ok_draw {f : Addr} {fd : FuncData} (F : Fun K "_law_draw" "_law_draw" sDraw f fd) (T : Txt K mg) : FnOk P w K mg base CX0 1 f fd ["script", "at", "many"] (spDraw K) := by
  refine F.ok scDraw (fun vs H Q E h => ?_) (fun cdv A outer s H vs Q E hr h => ?_)
  · obtain ⟨a, ns, n, m, rfl, _⟩ := h
    rfl
  · obtain ⟨a, ns, n, m, rfl, hS, hlen, n0, n1, m0, m1, k⟩ := h
    have nd := scDraw.nd
    refine ⟨_, Evl.pss_cut (ps_set (i := 3) nd rfl (.inl rfl) (pe_ifExp (pt_cmpR (neDK K hr.units) (pv 0) (plst pa_nil) (nomark _)) (pe_slice sl_list (pv 0) po_none (po_some pe_int)) (plst (pa_cons pe_int pa_nil))))
      (pss_cons (ps_par (i := 4) (j := 5) (by rfl) nd rfl rfl (by decide) rfl rfl (pa_cons (pe_ix (ixL K) (pv 3) (pe_op op_modN (pv 1) (pe_callB call_len_seq (by rfl) T.len (by decide +kernel) (pa_cons (pv 3) pa_nil))) (fun _ _ => rfl))
          (pa_cons (pe_op op_fdivN (pv 1) (pe_callB call_len_seq (by rfl) T.len (by decide +kernel) (pa_cons (pv 3) pa_nil))) pa_nil)) (by rfl))
      (pss_cons (ps_if (pt_cmpR op_ge (pv 4) (pe_op op_pow pe_int pe_int) (nomark _))
        (pss_cons (ps_set (i := 4) nd rfl (.inl rfl) (pe_op op_modN (pe_callTy call_int1 (by rfl) T.int (by decide +kernel) (pa_cons (pv 4) pa_nil)) (pe_op op_pow pe_int pe_int)))
        (pss_cons (ps_for PassesOwn.never rfl (pi_range1 rfl T.range (pa_cons (pe_op op_modN (pv 5) pe_int) pa_nil)) (pg_name (i := 6) nd rfl (.inl rfl)) (pss_one (ps_set (i := 4) nd rfl (.inl rfl) (pe_op op_fdivN (pv 4) pe_int))))
        (pss_one (ps_ret (pe_op op_modN (pe_op op_modN (pe_callTy call_int1 (by rfl) T.int (by decide +kernel) (pa_cons (pv 4) pa_nil)) pe_int) (pv 2)))))) pss_nil)
      (pss_cons (ps_set (i := 7) nd rfl (.inl rfl) (pe_op op_add (pe_op op_mul (pe_op op_add (pe_op op_add (pe_op op_modN (pe_callTy call_int1 (by rfl) T.int (by decide +kernel) (pa_cons (pe_op op_add (pv 4) (pe_op op_mul pe_int (pv 5))) pa_nil)) pe_int) (pe_op op_mul pe_int (pv 1))) pe_int) pe_int)
          (pe_op op_modN (pe_callTy call_int1 (by rfl) T.int (by decide +kernel) (pa_cons (pe_op op_fdivN (pv 4) pe_int) pa_nil)) pe_int)))
      (pss_one (ps_ret (pe_op op_modN (pe_callTy call_int1 (by rfl) T.int (by decide +kernel) (pa_cons (pe_op op_modN (pe_op op_mul (pe_op op_modN (pv 7) pe_int) pe_int) pe_int) pa_nil)) (pv 2))))))), ?_⟩
    have fin : ∀ (x : Int) H', Same H H' → Q (.int (x.fmod m)) H' := fun x H' s => k H' _ s (fmod_rng (by omega)).1 (fmod_rng (by omega)).2
    refine ⟨fun σ' H' => ∃ (p : Addr) (rs : List Int), σ' = [some (.ref a), some (.int n), some (.int m), some (.ref p), none, none, none, none] ∧ Same H H' ∧ H' p = some (.lst (rs.map V.int)) ∧ rs ≠ [] ∧ rs.length ≤ 63, ?_, ?_⟩
    · refine ⟨_, rfl, ?_⟩
      refine rd_l0 fun p1 H1 np1 s1 h1 => ?_
      refine ⟨.list (ns.map PyData.int), .list [], .lst (s1.seq hS) (dp_ints ns), .lst (SqL.of h1) .nil, shaped_ints ns, shaped_ints [], _, rfl, ?_⟩
      rw [eqv_empty]
      cases hns : ns with
      | nil =>
        refine iteF ?_
        refine rd_l1 fun p2 H2 np2 s2 h2 => ?_
        exact ⟨p2, [7], rfl, s1.trans s2, h2, by simp, by decide⟩
      | cons n0' ns' =>
        refine iteT ?_
        refine ⟨_, rfl, _, rfl, a, ns.map V.int, rfl, s1.seq hS, fun p2 np2 => ?_⟩
        have s2 := same_upd (o := HO.lst (cutV (ns.map V.int) none (some 60))) np2
        refine ⟨p2, ns.take 60, rfl, s1.trans s2, ?_, ?_, ?_⟩
        · rw [upd_same]
          have := cut_take (ns.map V.int) 60
          rw [show ((60 : Nat) : Int) = 60 from rfl] at this
          rw [this, ← List.map_take]
        · rw [hns]; simp
        · rw [List.length_take]; omega
    · rintro σ' H1 ⟨p, rs, rfl, s1, hp, hne, hrl⟩
      have hpos : 0 < rs.length := List.length_pos_iff.mpr hne
      have hL : (rs.map V.int).length = rs.length := List.length_map _
      obtain ⟨f0, f1⟩ := fmod_rng (a := n) (b := (rs.length : Int)) (by omega)
      obtain ⟨j, hj⟩ := Int.eq_ofNat_of_zero_le f0
      have hjl : j < rs.length := by omega
      obtain ⟨cell, hat⟩ : ∃ cell : Int, atI (rs.map V.int) (n.fmod (rs.length : Int)) = some (.int cell) := ⟨rs[j], by
        rw [hj]
        refine atI_nat ?_
        rw [List.getElem?_map, List.getElem?_eq_getElem hjl]; rfl⟩
      refine ⟨_, rfl, _, rfl, _, rfl, p, _, rfl, .inl (SqL.of hp), ?_⟩
      rw [hL]
      refine ⟨_, _, rfl, rfl, by omega, p, _, _, _, rfl, rfl, SqL.of hp, hat, ?_⟩
      refine ⟨_, rfl, _, rfl, p, _, rfl, .inl (SqL.of hp), ?_⟩
      rw [hL]
      refine ⟨_, _, rfl, rfl, ⟨by omega, by omega⟩, _, _, rfl, ?_⟩
      refine ⟨_, rfl, _, _, rfl, rfl, ⟨by decide, by decide, by decide⟩, _, _, rfl, rfl, _, rfl, ?_⟩
      by_cases hc : (10 : Int) ^ (18 : Int).toNat ≤ cell
      · rw [decide_eq_true hc]
        refine iteT ?_
        refine ⟨_, rfl, .inl ⟨_, rfl, _, _, rfl, rfl, ⟨by decide, by decide, by decide⟩, _, _, rfl, rfl, (show ((97 : Int) ^ (40 : Int).toNat) ≠ 0 by decide +kernel), ?_⟩⟩
        obtain ⟨g0, g1⟩ := fmod_rng (a := n.fdiv (rs.length : Int)) (b := 40) (by decide)
        refine ⟨_, rfl, _, _, rfl, rfl, (show (40 : Int) ≠ 0 by decide), _, rfl, by omega, by omega, ?_⟩
        refine for_range (n := ((n.fdiv (rs.length : Int)).fmod 40).toNat) (fun _ σ' H' => H' = H1 ∧ ∃ (c : Int) (v6 : Option V), σ' = [some (.ref a), some (.int n), some (.int m), some (.ref p), some (.int c), some (.int (n.fdiv (rs.length : Int))), v6, none])
          ⟨rfl, _, none, rfl⟩ ?_ ?_
        · rintro i σ' H' hi ⟨rfl, c, v6, rfl⟩
          refine ⟨_, rfl, _, _, rfl, rfl, ⟨by decide, by decide⟩, ?_⟩
          exact ⟨rfl, _, _, rfl⟩
        · rintro σ' H' ⟨rfl, c, v6, rfl⟩
          refine ⟨_, rfl, .inl ⟨_, rfl, _, _, rfl, rfl, (show (97 : Int) ≠ 0 by decide), _, rfl, _, _, rfl, rfl, (show m ≠ 0 by omega), ?_⟩⟩
          exact fin _ _ s1
      · rw [decide_eq_false hc]
        refine iteF ?_
        refine ⟨_, rfl, _, rfl, _, _, rfl, rfl, .inl ⟨by decide, by decide⟩, _, _, rfl, rfl, .inl ⟨_, rfl, _, _, rfl, rfl, (show (1000003 : Int) ≠ 0 by decide), _, rfl, _, _, rfl, rfl, .inl ⟨by decide, by decide⟩, _, _, rfl, rfl, _, _, rfl, rfl, _, _, rfl, rfl, .inr ⟨by decide, by decide⟩, ?_⟩⟩
        refine ⟨_, rfl, _, _, rfl, rfl, ⟨by decide, by decide⟩, .inl ⟨_, rfl, _, _, rfl, rfl, (show (999983 : Int) ≠ 0 by decide), _, _, rfl, rfl, ?_⟩⟩
        refine ⟨_, rfl, _, _, rfl, rfl, (show (2147483647 : Int) ≠ 0 by decide), _, _, rfl, rfl, .inr ⟨by decide, by decide⟩, _, _, rfl, rfl, (show (4294967291 : Int) ≠ 0 by decide), .inl ⟨_, rfl, _, rfl, _, _, rfl, rfl, (show m ≠ 0 by omega), ?_⟩⟩
        exact fin _ _ s1
end
end K8
namespace K8
open PySem PySem.Spec PyProof.Rows L2 LayT
/-- the law's terms -/
def isT0 (d : D) : Prop := d = nm "x" ∨ d = nm "y" ∨ ∃ i : Int, -4 ≤ i ∧ i ≤ 4 ∧ d = .tup [.str "number", .int i]
def isT : Nat → D → Prop
  | 0, d => isT0 d
  | e + 1, d => isT0 d ∨ (∃ t, isT e t ∧ d = .tup [.str "~", t]) ∨ (∃ t, ∃ i : Int, -3 ≤ i ∧ i ≤ 3 ∧ isT e t ∧ d = .tup [.str "times", .int i, t]) ∨ (∃ t, ∃ i : Int, 0 ≤ i ∧ i ≤ 2 ∧ isT e t ∧ d = .tup [.str "up", .int i, t]) ∨
    ∃ (o : Str) (t u : D), (o = "+" ∨ o = "-" ∨ o = "&" ∨ o = "|" ∨ o = "^") ∧ isT e t ∧ isT e u ∧ d = .tup [.str o, t, u]
theorem isT_zero {e : Nat} {d : D} (h : isT0 d) : isT e d := by
  cases e with
  | zero => exact h
  | succ e => exact .inl h
theorem DAt.tup2 {H : Hp} {p : Addr} {x y : V} {d1 d2 : D} (h : H p = some (.tup [x, y])) (h1 : DAt H x d1) (h2 : DAt H y d2) : DAt H (.ref p) (.tup [d1, d2]) := ⟨p, _, rfl, h, _, _, rfl, h1, _, _, rfl, h2, rfl⟩
theorem DAt.tup3 {H : Hp} {p : Addr} {x y z : V} {d1 d2 d3 : D} (h : H p = some (.tup [x, y, z])) (h1 : DAt H x d1) (h2 : DAt H y d2) (h3 : DAt H z d3) : DAt H (.ref p) (.tup [d1, d2, d3]) := ⟨p, _, rfl, h, _, _, rfl, h1, _, _, rfl, h2, _, _, rfl, h3, rfl⟩
theorem DAt.s {H : Hp} (x : Str) : DAt H (.str x) (.str x) := rfl
theorem DAt.i {H : Hp} (x : Int) : DAt H (.int x) (.int x) := rfl
theorem argE {a : Addr} {x : Int} {e : Nat} (ed : ((e + 1 : Nat) : Int) - 1 = (e : Int)) : [V.ref a, V.int x, V.int (((e + 1 : Nat) : Int) - 1)] = [V.ref a, V.int x, V.int (e : Int)] := by rw [ed]
section
variable {P : Program} {w : World} {K : PySem.W.Frag} {mg : Str → Option Value} {base : Heap}
def spLT (K : PySem.W.Frag) (e : Nat) : Sp := fun vs H Q _ => ∃ (a : Addr) (ns : List Int) (n : Int), vs = [.ref a, .int n, .int e] ∧ SqL K H a (ns.map V.int) ∧ ns.length ≤ 63 ∧ 0 ≤ n ∧ (n + 5) * 2 ^ e ≤ 90000 ∧ ∀ H' r d, Same H H' → DAt H' r d → isT e d → Q r H'
theorem scLT : FnScope ["script", "at", "depth", "kind"] ["script", "at", "depth"] (defScope sLTerm) := ⟨rfl, rfl, rfl, by decide +kernel, rfl, by decide +kernel, by decide +kernel⟩
theorem ok_lt {f fD : Addr} {fd fdD : FuncData} (F : Fun K "_law_term" "_law_term" sLTerm f fd) (mgf : mg "_law_term" = some (.ref f)) (kp : PySem.W.keepIn K (.ref f) = true) (bF : Binds K fd ["script", "at", "depth"] [])
    (DD : Dfn P w K mg base "_law_draw" 1 ["script", "at", "many"] (spDraw K) fD fdD) : ∀ e, FnOk P w K mg base CX0 (e + 2) f fd ["script", "at", "depth"] (spLT K e) := by
  intro e
  induction e with
  | zero =>
    refine F.ok scLT (fun vs H Q E h => ?_) (fun cdv A outer s H vs Q E hr h => ?_)
    · obtain ⟨a, ns, n, rfl, _⟩ := h
      rfl
    obtain ⟨a, ns, n, rfl, hS, hlen, n0, n1, k⟩ := h
    have nd := scLT.nd
    refine ⟨_, pss_cons (ps_set (i := 3) nd rfl (.inl rfl) (pe_ifExp (pt_cmpR op_gt (pv 2) pe_int (nomark _)) (pcl DD hr (pa_cons (pv 0) (pa_cons (pv 1) (pa_cons pe_int pa_nil)))) (pcl DD hr (pa_cons (pv 0) (pa_cons (pv 1) (pa_cons pe_int pa_nil))))))
      (pss_cons (ps_if (pt_cmpR op_eq (pv 3) pe_int (nomark _)) (pss_one (ps_ret (ptup (pa_cons pe_str (pa_cons (pe_ix ix_str pe_str (pcl DD hr (pa_cons (pv 0) (pa_cons (pe_op op_add (pv 1) pe_int) (pa_cons pe_int pa_nil)))) (fun _ _ => rfl)) pa_nil))))) pss_nil)
      (pss_cons (ps_if (pt_cmpR op_eq (pv 3) pe_int (nomark _)) (pss_one (ps_ret (ptup (pa_cons pe_str (pa_cons (pe_op op_sub (pcl DD hr (pa_cons (pv 0) (pa_cons (pe_op op_add (pv 1) pe_int) (pa_cons pe_int pa_nil)))) pe_int) pa_nil))))) pss_nil)
      (pss_cons ps_never (pss_cons ps_never (pss_cons ps_never (pss_one ps_never)))))), ?_⟩
    have hn : n ≤ 90000 := by
      rw [Int.pow_zero] at n1
      omega
    refine ⟨_, rfl, _, _, rfl, rfl, _, rfl, ?_⟩
    refine iteF ⟨_, rfl, _, rfl, a, ns, n, _, rfl, hS, hlen, n0, by omega, by decide, by decide, fun H1 r s1 r0 r1 => ?_⟩
    have hS1 := s1.seq hS
    refine ⟨_, rfl, rfl, _, rfl, ?_⟩
    rw [dec_int]
    rcases (show r = 0 ∨ r = 1 by omega) with rfl | rfl
    · refine iteT ⟨_, rfl, _, rfl, _, _, rfl, rfl, a, ns, _, _, rfl, hS1, hlen, by omega, by omega, by decide, by decide, fun H2 r2 s2 a0 a1 => ?_⟩
      have s12 := s1.trans s2
      rcases (show r2 = 0 ∨ r2 = 1 by omega) with rfl | rfl
      · exact ⟨_, _, 120, rfl, rfl, by decide, rfl, rd_t2 fun p H3 s3 hp3 => k H3 _ _ (s12.trans s3) (DAt.tup2 hp3 (.s _) (.s "x")) (isT_zero (.inl rfl))⟩
      · exact ⟨_, _, 121, rfl, rfl, by decide, rfl, rd_t2 fun p H3 s3 hp3 => k H3 _ _ (s12.trans s3) (DAt.tup2 hp3 (.s _) (.s "y")) (isT_zero (.inr (.inl rfl)))⟩
    · refine iteF ⟨_, rfl, rfl, _, rfl, ?_⟩
      rw [dec_int]
      refine iteT ⟨_, rfl, _, rfl, _, _, rfl, rfl, a, ns, _, _, rfl, hS1, hlen, by omega, by omega, by decide, by decide, fun H2 r2 s2 a0 a1 => ?_⟩
      refine ⟨_, _, rfl, rfl, rd_t2 fun p H3 s3 hp3 => k H3 _ _ ((s1.trans s2).trans s3) (DAt.tup2 hp3 (.s _) (.i _)) (isT_zero (.inr (.inr ⟨_, by omega, by omega, rfl⟩)))⟩
  | succ e ih =>
  have DF : Dfn P w K mg base "_law_term" (e + 2) ["script", "at", "depth"] (spLT K e) f fd := ⟨ih, mgf, kp, bF⟩
  refine F.ok scLT (fun vs H Q E h => ?_) (fun cdv A outer s H vs Q E hr h => ?_)
  · obtain ⟨a, ns, n, rfl, _⟩ := h
    rfl
  · obtain ⟨a, ns, n, rfl, hS, hlen, n0, n1, k⟩ := h
    have nd := scLT.nd
    have hr1 : Room 1 _ := hr.mono (by omega)
    refine ⟨_, pss_cons (ps_set (i := 3) nd rfl (.inl rfl) (pe_ifExp (pt_cmpR op_gt (pv 2) pe_int (nomark _)) (pcl DD hr1 (pa_cons (pv 0) (pa_cons (pv 1) (pa_cons pe_int pa_nil)))) (pcl DD hr1 (pa_cons (pv 0) (pa_cons (pv 1) (pa_cons pe_int pa_nil))))))
      (pss_cons (ps_if (pt_cmpR op_eq (pv 3) pe_int (nomark _)) (pss_one (ps_ret (ptup (pa_cons pe_str (pa_cons (pe_ix ix_str pe_str (pcl DD hr1 (pa_cons (pv 0) (pa_cons (pe_op op_add (pv 1) pe_int) (pa_cons pe_int pa_nil)))) (fun _ _ => rfl)) pa_nil))))) pss_nil)
      (pss_cons (ps_if (pt_cmpR op_eq (pv 3) pe_int (nomark _)) (pss_one (ps_ret (ptup (pa_cons pe_str (pa_cons (pe_op op_sub (pcl DD hr1 (pa_cons (pv 0) (pa_cons (pe_op op_add (pv 1) pe_int) (pa_cons pe_int pa_nil)))) pe_int) pa_nil))))) pss_nil)
      (pss_cons (ps_if (pt_cmpR op_eq (pv 3) pe_int (nomark _)) (pss_one (ps_ret (ptup (pa_cons pe_str (pa_cons (pcl DF hr (pa_cons (pv 0) (pa_cons (pe_op op_add (pe_op op_mul pe_int (pv 1)) pe_int) (pa_cons (pe_op op_sub (pv 2) pe_int) pa_nil)))) pa_nil))))) pss_nil)
      (pss_cons (ps_if (pt_cmpR op_eq (pv 3) pe_int (nomark _)) (pss_one (ps_ret (ptup (pa_cons pe_str (pa_cons (pe_op op_sub (pcl DD hr1 (pa_cons (pv 0) (pa_cons (pe_op op_add (pv 1) pe_int) (pa_cons pe_int pa_nil)))) pe_int) (pa_cons (pcl DF hr (pa_cons (pv 0) (pa_cons (pe_op op_add (pe_op op_mul pe_int (pv 1)) pe_int) (pa_cons (pe_op op_sub (pv 2) pe_int) pa_nil)))) pa_nil)))))) pss_nil)
      (pss_cons (ps_if (pt_cmpR op_eq (pv 3) pe_int (nomark _)) (pss_one (ps_ret (ptup (pa_cons pe_str (pa_cons (pcl DD hr1 (pa_cons (pv 0) (pa_cons (pe_op op_add (pv 1) pe_int) (pa_cons pe_int pa_nil)))) (pa_cons (pcl DF hr (pa_cons (pv 0) (pa_cons (pe_op op_add (pe_op op_mul pe_int (pv 1)) pe_int) (pa_cons (pe_op op_sub (pv 2) pe_int) pa_nil)))) pa_nil)))))) pss_nil)
      (pss_one (ps_ret (ptup (pa_cons (pe_ix ix_str pe_str (pcl DD hr1 (pa_cons (pv 0) (pa_cons (pe_op op_add (pv 1) pe_int) (pa_cons pe_int pa_nil)))) (fun _ _ => rfl)) (pa_cons (pcl DF hr (pa_cons (pv 0) (pa_cons (pe_op op_add (pe_op op_mul pe_int (pv 1)) pe_int) (pa_cons (pe_op op_sub (pv 2) pe_int) pa_nil))))
        (pa_cons (pcl DF hr (pa_cons (pv 0) (pa_cons (pe_op op_add (pe_op op_mul pe_int (pv 1)) pe_int) (pa_cons (pe_op op_sub (pv 2) pe_int) pa_nil)))) pa_nil))))))))))), ?_⟩
    have hp : (1 : Int) ≤ 2 ^ e := by
      have : (0 : Int) < 2 ^ e := Int.pow_pos (by decide)
      omega
    have hpe : (2 : Int) ^ (e + 1) = 2 ^ e * 2 := Int.pow_succ _ _
    have hA : (2 * n + 3 + 5) * 2 ^ e ≤ 90000 := by
      rw [hpe] at n1
      have h1 : (n + 5) * (2 ^ e * 2) = (2 * n + 10) * 2 ^ e := by rw [Int.mul_comm (2 ^ e) 2, ← Int.mul_assoc]; congr 1; omega
      rw [h1] at n1
      exact Int.le_trans (Int.mul_le_mul_of_nonneg_right (by omega) (by omega)) n1
    have hB : (2 * n + 5 + 5) * 2 ^ e ≤ 90000 := by
      rw [hpe] at n1
      have h1 : (n + 5) * (2 ^ e * 2) = (2 * n + 10) * 2 ^ e := by rw [Int.mul_comm (2 ^ e) 2, ← Int.mul_assoc]; congr 1; omega
      rw [h1] at n1
      exact Int.le_trans (Int.mul_le_mul_of_nonneg_right (by omega) (by omega)) n1
    have hn : n ≤ 90000 := by
      have h2 : n + 5 ≤ (n + 5) * 2 ^ (e + 1) := by
        have h3 := Int.mul_le_mul_of_nonneg_left (a := 1) (b := 2 ^ (e + 1)) (c := n + 5) (by rw [hpe]; omega) (by omega)
        omega
      omega
    have ed : ((e + 1 : Nat) : Int) - 1 = (e : Int) := by omega
    refine ⟨_, rfl, _, _, rfl, rfl, _, rfl, ?_⟩
    rw [decide_eq_true (show (0 : Int) < ((e + 1 : Nat) : Int) by omega)]
    refine iteT ⟨_, rfl, _, rfl, a, ns, n, _, rfl, hS, hlen, n0, by omega, by decide, by decide, fun H1 r s1 r0 r1 => ?_⟩
    have hS1 := s1.seq hS
    refine ⟨_, rfl, rfl, _, rfl, ?_⟩
    rw [dec_int]
    by_cases k0 : r = 0
    · rw [decide_eq_true k0]
      refine iteT ⟨_, rfl, _, rfl, _, _, rfl, rfl, a, ns, _, _, rfl, hS1, hlen, by omega, by omega, by decide, by decide, fun H2 r2 s2 a0 a1 => ?_⟩
      have s12 := s1.trans s2
      rcases (show r2 = 0 ∨ r2 = 1 by omega) with rfl | rfl
      · exact ⟨_, _, 120, rfl, rfl, by decide, rfl, rd_t2 fun p H3 s3 hp3 => k H3 _ _ (s12.trans s3) (DAt.tup2 hp3 (.s _) (.s "x")) (isT_zero (.inl rfl))⟩
      · exact ⟨_, _, 121, rfl, rfl, by decide, rfl, rd_t2 fun p H3 s3 hp3 => k H3 _ _ (s12.trans s3) (DAt.tup2 hp3 (.s _) (.s "y")) (isT_zero (.inr (.inl rfl)))⟩
    rw [decide_eq_false k0]
    refine iteF ⟨_, rfl, rfl, _, rfl, ?_⟩
    rw [dec_int]
    by_cases k1 : r = 1
    · rw [decide_eq_true k1]
      refine iteT ⟨_, rfl, _, rfl, _, _, rfl, rfl, a, ns, _, _, rfl, hS1, hlen, by omega, by omega, by decide, by decide, fun H2 r2 s2 a0 a1 => ?_⟩
      refine ⟨_, _, rfl, rfl, rd_t2 fun p H3 s3 hp3 => k H3 _ _ ((s1.trans s2).trans s3) (DAt.tup2 hp3 (.s _) (.i _)) (isT_zero (.inr (.inr ⟨_, by omega, by omega, rfl⟩)))⟩
    rw [decide_eq_false k1]
    refine iteF ⟨_, rfl, rfl, _, rfl, ?_⟩
    rw [dec_int]
    by_cases k2 : r = 2
    · rw [decide_eq_true k2]
      exact iteT ⟨_, rfl, _, rfl, _, _, rfl, rfl, .inl ⟨by decide, by decide⟩, _, _, rfl, rfl, _, rfl, _, _, rfl, rfl, a, ns, 2 * n + 3, (argE ed), hS1, hlen, by omega, hA, fun H2 x d2 s2 hd2 ht2 => rd_t2 fun p H3 s3 hp3 => k H3 _ _ ((s1.trans s2).trans s3) (DAt.tup2 hp3 (.s _) (hd2.same s3)) (.inr (.inl ⟨_, ht2, rfl⟩))⟩
    rw [decide_eq_false k2]
    refine iteF ⟨_, rfl, rfl, _, rfl, ?_⟩
    rw [dec_int]
    by_cases k3 : r = 3
    · rw [decide_eq_true k3]
      refine iteT ⟨_, rfl, _, rfl, _, _, rfl, rfl, a, ns, _, _, rfl, hS1, hlen, by omega, by omega, by decide, by decide, fun H2 r2 s2 a0 a1 => ?_⟩
      have hS2 := s2.seq hS1
      exact ⟨_, _, rfl, rfl, _, rfl, _, rfl, _, _, rfl, rfl, .inl ⟨by decide, by decide⟩, _, _, rfl, rfl, _, rfl, _, _, rfl, rfl, a, ns, 2 * n + 3, (argE ed), hS2, hlen, by omega, hA, fun H3 x d2 s3 hd2 ht2 => rd_t3 fun p H4 s4 hp4 => k H4 _ _ (((s1.trans s2).trans s3).trans s4) (DAt.tup3 hp4 (.s _) (.i _) (hd2.same s4)) (.inr (.inr (.inl ⟨_, _, by omega, by omega, ht2, rfl⟩)))⟩
    rw [decide_eq_false k3]
    refine iteF ⟨_, rfl, rfl, _, rfl, ?_⟩
    rw [dec_int]
    by_cases k4 : r = 4
    · rw [decide_eq_true k4]
      refine iteT ⟨_, rfl, _, rfl, _, _, rfl, rfl, a, ns, _, _, rfl, hS1, hlen, by omega, by omega, by decide, by decide, fun H2 r2 s2 a0 a1 => ?_⟩
      have hS2 := s2.seq hS1
      exact ⟨_, rfl, _, rfl, _, _, rfl, rfl, .inl ⟨by decide, by decide⟩, _, _, rfl, rfl, _, rfl, _, _, rfl, rfl, a, ns, 2 * n + 3, (argE ed), hS2, hlen, by omega, hA, fun H3 x d2 s3 hd2 ht2 => rd_t3 fun p H4 s4 hp4 => k H4 _ _ (((s1.trans s2).trans s3).trans s4) (DAt.tup3 hp4 (.s _) (.i _) (hd2.same s4)) (.inr (.inr (.inr (.inl ⟨_, _, by omega, by omega, ht2, rfl⟩))))⟩
    rw [decide_eq_false k4]
    refine iteF ⟨_, rfl, _, rfl, _, _, rfl, rfl, a, ns, _, _, rfl, hS1, hlen, by omega, by omega, by decide, by decide, fun H2 r2 s2 a0 a1 => ?_⟩
    have hS2 := s2.seq hS1
    obtain ⟨c, hc, ho⟩ : ∃ c : Nat, atI ("+-&|^" : Str).cps.toList r2 = some c ∧ ((⟨#[c]⟩ : Str) = "+" ∨ (⟨#[c]⟩ : Str) = "-" ∨ (⟨#[c]⟩ : Str) = "&" ∨ (⟨#[c]⟩ : Str) = "|" ∨ (⟨#[c]⟩ : Str) = "^") := by
      rcases (show r2 = 0 ∨ r2 = 1 ∨ r2 = 2 ∨ r2 = 3 ∨ r2 = 4 by omega) with rfl | rfl | rfl | rfl | rfl
      · exact ⟨43, rfl, .inl rfl⟩
      · exact ⟨45, rfl, .inr (.inl rfl)⟩
      · exact ⟨38, rfl, .inr (.inr (.inl rfl))⟩
      · exact ⟨124, rfl, .inr (.inr (.inr (.inl rfl)))⟩
      · exact ⟨94, rfl, .inr (.inr (.inr (.inr rfl)))⟩
    refine ⟨_, _, c, rfl, rfl, by decide, hc, ?_⟩
    refine ⟨_, rfl, _, rfl, _, _, rfl, rfl, .inl ⟨by decide, by decide⟩, _, _, rfl, rfl, _, rfl, _, _, rfl, rfl, a, ns, 2 * n + 3, (argE ed), hS2, hlen, by omega, hA, fun H3 x d2 s3 hd2 ht2 => ?_⟩
    have hS3 := s3.seq hS2
    exact ⟨_, rfl, _, rfl, _, _, rfl, rfl, .inl ⟨by decide, by decide⟩, _, _, rfl, rfl, _, rfl, _, _, rfl, rfl, a, ns, 2 * n + 5, (argE ed), hS3, hlen, by omega, hB, fun H4 y d3 s4 hd3 ht3 => rd_t3 fun p H5 s5 hp5 => k H5 _ _ ((((s1.trans s2).trans s3).trans s4).trans s5) (DAt.tup3 hp5 (.s _) ((hd2.same s4).same s5) (hd3.same s5)) (.inr (.inr (.inr (.inr ⟨_, _, _, ho, ht2, ht3, rfl⟩))))⟩
end
end K8
namespace K8
open PySem PySem.Spec PyProof.Rows L2 LayT
/-- the law's formulas: comparisons of terms of depth 2 -/
def isF0 (d : D) : Prop := ∃ (o : Str) (t u : D), (o = "equal" ∨ o = "less" ∨ o = "below") ∧ isT 2 t ∧ isT 2 u ∧ d = .tup [.str o, t, u]
def isF : Nat → D → Prop
  | 0, d => isF0 d
  | e + 1, d => isF0 d ∨ (∃ f, isF e f ∧ d = .tup [.str "not", f]) ∨ ∃ (o : Str) (f h : D), (o = "and" ∨ o = "or") ∧ isF e f ∧ isF e h ∧ d = .tup [.str o, .tup [f, h]]
theorem isF_zero {e : Nat} {d : D} (h : isF0 d) : isF e d := by
  cases e with
  | zero => exact h
  | succ e => exact .inl h
section
variable {P : Program} {w : World} {K : PySem.W.Frag} {mg : Str → Option Value} {base : Heap}
def spLF (K : PySem.W.Frag) (e : Nat) : Sp := fun vs H Q _ => ∃ (a : Addr) (ns : List Int) (n : Int), vs = [.ref a, .int n, .int e] ∧ SqL K H a (ns.map V.int) ∧ ns.length ≤ 63 ∧ 0 ≤ n ∧ (n + 7) * 2 ^ e ≤ 5000 ∧ ∀ H' r d, Same H H' → DAt H' r d → isF e d → Q r H'
theorem scLF : FnScope ["script", "at", "depth", "kind"] ["script", "at", "depth"] (defScope sLForm) := ⟨rfl, rfl, rfl, by decide +kernel, rfl, by decide +kernel, by decide +kernel⟩
theorem ok_lf0 {f fD fT : Addr} {fd fdD fdT : FuncData} (F : Fun K "_law_formula" "_law_formula" sLForm f fd)
    (DD : Dfn P w K mg base "_law_draw" 1 ["script", "at", "many"] (spDraw K) fD fdD) (DT : Dfn P w K mg base "_law_term" 4 ["script", "at", "depth"] (spLT K 2) fT fdT) : FnOk P w K mg base CX0 5 f fd ["script", "at", "depth"] (spLF K 0) := by
  refine F.ok scLF (fun vs H Q E h => ?_) (fun cdv A outer s H vs Q E hr h => ?_)
  · obtain ⟨a, ns, n, rfl, _⟩ := h
    rfl
  obtain ⟨a, ns, n, rfl, hS, hlen, n0, n1, k⟩ := h
  have nd := scLF.nd
  have hr1 : Room 1 _ := hr.mono (by decide)
  refine ⟨_, pss_cons (ps_set (i := 3) nd rfl (.inl rfl) (pe_ifExp (pt_cmpR op_gt (pv 2) pe_int (nomark _)) (pcl DD hr1 (pa_cons (pv 0) (pa_cons (pv 1) (pa_cons pe_int pa_nil)))) pe_int))
    (pss_cons (ps_if (pt_cmpR op_lt (pv 3) pe_int (nomark _)) (pss_one (ps_ret (ptup (pa_cons (pe_ix (ixT K) (ptup (pa_cons pe_str (pa_cons pe_str (pa_cons pe_str pa_nil)))) (pcl DD hr1 (pa_cons (pv 0) (pa_cons (pe_op op_add (pv 1) pe_int) (pa_cons pe_int pa_nil)))) (fun _ _ => rfl))
        (pa_cons (pcl DT hr (pa_cons (pv 0) (pa_cons (pe_op op_add (pe_op op_mul pe_int (pv 1)) pe_int) (pa_cons pe_int pa_nil)))) (pa_cons (pcl DT hr (pa_cons (pv 0) (pa_cons (pe_op op_add (pe_op op_mul pe_int (pv 1)) pe_int) (pa_cons pe_int pa_nil)))) pa_nil)))))) pss_nil)
    (pss_cons ps_never (pss_one ps_never))), ?_⟩
  have hn : n ≤ 5000 := by
    rw [Int.pow_zero] at n1
    omega
  refine ⟨_, rfl, _, _, rfl, rfl, _, rfl, iteF ?_⟩
  refine ⟨_, rfl, _, _, rfl, rfl, _, rfl, iteT ?_⟩
  refine rd_t3 fun q H1 s1 hq => ?_
  have hS1 := s1.seq hS
  refine ⟨_, rfl, _, rfl, _, _, rfl, rfl, a, ns, _, _, rfl, hS1, hlen, by omega, by omega, by decide, by decide, fun H2 r s2 r0 r1 => ?_⟩
  have hS2 := s2.seq hS1
  obtain ⟨o, ho, hoo⟩ : ∃ o : Str, atI [V.str "equal", V.str "less", V.str "below"] r = some (.str o) ∧ (o = "equal" ∨ o = "less" ∨ o = "below") := by
    rcases (show r = 0 ∨ r = 1 ∨ r = 2 by omega) with rfl | rfl | rfl
    · exact ⟨_, at0, .inl rfl⟩
    · exact ⟨_, at1, .inr (.inl rfl)⟩
    · exact ⟨_, at2, .inr (.inr rfl)⟩
  refine ⟨q, _, r, _, rfl, rfl, SqT.of (s2 _ _ hq), ho, ?_⟩
  refine ⟨_, rfl, _, rfl, _, _, rfl, rfl, .inl ⟨by decide, by decide⟩, _, _, rfl, rfl, a, ns, 3 * n + 2, rfl, hS2, hlen, by omega, (by show (3 * n + 2 + 5) * 4 ≤ 90000; omega), fun H3 x t s3 hx ht => ?_⟩
  have hS3 := s3.seq hS2
  refine ⟨_, rfl, _, rfl, _, _, rfl, rfl, .inl ⟨by decide, by decide⟩, _, _, rfl, rfl, a, ns, 3 * n + 11, rfl, hS3, hlen, by omega, (by show (3 * n + 11 + 5) * 4 ≤ 90000; omega), fun H4 y u s4 hy hu => ?_⟩
  exact rd_t3 fun p H5 s5 hp5 => k H5 _ _ ((((s1.trans s2).trans s3).trans s4).trans s5) (DAt.tup3 hp5 (.s _) ((hx.same s4).same s5) (hy.same s5)) (isF_zero ⟨o, t, u, hoo, ht, hu, rfl⟩)
end
end K8
namespace K8
open PySem PySem.Spec PyProof.Rows L2 LayT
section
variable {P : Program} {w : World} {K : PySem.W.Frag} {mg : Str → Option Value} {base : Heap}
theorem ok_lf1 {f fD fT : Addr} {fd fdD fdT : FuncData} (F : Fun K "_law_formula" "_law_formula" sLForm f fd) (mgf : mg "_law_formula" = some (.ref f)) (kp : PySem.W.keepIn K (.ref f) = true) (bF : Binds K fd ["script", "at", "depth"] [])
    (DD : Dfn P w K mg base "_law_draw" 1 ["script", "at", "many"] (spDraw K) fD fdD) (DT : Dfn P w K mg base "_law_term" 4 ["script", "at", "depth"] (spLT K 2) fT fdT) : FnOk P w K mg base CX0 6 f fd ["script", "at", "depth"] (spLF K 1) := by
  have DF : Dfn P w K mg base "_law_formula" 5 ["script", "at", "depth"] (spLF K 0) f fd := ⟨ok_lf0 F DD DT, mgf, kp, bF⟩
  refine F.ok scLF (fun vs H Q E h => ?_) (fun cdv A outer s H vs Q E hr h => ?_)
  · obtain ⟨a, ns, n, rfl, _⟩ := h
    rfl
  obtain ⟨a, ns, n, rfl, hS, hlen, n0, n1, k⟩ := h
  have nd := scLF.nd
  have hr1 : Room 1 _ := hr.mono (by decide)
  have hr4 : Room 4 _ := hr.mono (by decide)
  refine ⟨_, pss_cons (ps_set (i := 3) nd rfl (.inl rfl) (pe_ifExp (pt_cmpR op_gt (pv 2) pe_int (nomark _)) (pcl DD hr1 (pa_cons (pv 0) (pa_cons (pv 1) (pa_cons pe_int pa_nil)))) pe_int))
    (pss_cons (ps_if (pt_cmpR op_lt (pv 3) pe_int (nomark _)) (pss_one (ps_ret (ptup (pa_cons (pe_ix (ixT K) (ptup (pa_cons pe_str (pa_cons pe_str (pa_cons pe_str pa_nil)))) (pcl DD hr1 (pa_cons (pv 0) (pa_cons (pe_op op_add (pv 1) pe_int) (pa_cons pe_int pa_nil)))) (fun _ _ => rfl))
        (pa_cons (pcl DT hr4 (pa_cons (pv 0) (pa_cons (pe_op op_add (pe_op op_mul pe_int (pv 1)) pe_int) (pa_cons pe_int pa_nil)))) (pa_cons (pcl DT hr4 (pa_cons (pv 0) (pa_cons (pe_op op_add (pe_op op_mul pe_int (pv 1)) pe_int) (pa_cons pe_int pa_nil)))) pa_nil)))))) pss_nil)
    (pss_cons (ps_if (pt_cmpR op_eq (pv 3) pe_int (nomark _)) (pss_one (ps_ret (ptup (pa_cons pe_str (pa_cons (pcl DF hr (pa_cons (pv 0) (pa_cons (pe_op op_add (pe_op op_mul pe_int (pv 1)) pe_int) (pa_cons (pe_op op_sub (pv 2) pe_int) pa_nil)))) pa_nil))))) pss_nil)
    (pss_one (ps_ret (ptup (pa_cons (pe_ix (ixT K) (ptup (pa_cons pe_str (pa_cons pe_str pa_nil))) (pcl DD hr1 (pa_cons (pv 0) (pa_cons (pe_op op_add (pv 1) pe_int) (pa_cons pe_int pa_nil)))) (fun _ _ => rfl))
        (pa_cons (ptup (pa_cons (pcl DF hr (pa_cons (pv 0) (pa_cons (pe_op op_add (pe_op op_mul pe_int (pv 1)) pe_int) (pa_cons (pe_op op_sub (pv 2) pe_int) pa_nil)))) (pa_cons (pcl DF hr (pa_cons (pv 0) (pa_cons (pe_op op_add (pe_op op_mul pe_int (pv 1)) pe_int) (pa_cons (pe_op op_sub (pv 2) pe_int) pa_nil)))) pa_nil))) pa_nil))))))), ?_⟩
  have hn : (n + 7) * 2 ≤ 5000 := n1
  refine ⟨_, rfl, _, _, rfl, rfl, _, rfl, iteT ?_⟩
  refine ⟨_, rfl, _, rfl, a, ns, n, _, rfl, hS, hlen, n0, by omega, by decide, by decide, fun H0 kd s0 k0 k1 => ?_⟩
  have hS0 := s0.seq hS
  refine ⟨_, rfl, _, _, rfl, rfl, _, rfl, ?_⟩
  by_cases c3 : kd < 3
  · rw [decide_eq_true c3]
    refine iteT ?_
    refine rd_t3 fun q H1 s1' hq => ?_
    have s1 := s0.trans s1'
    have hS1 := s1.seq hS
    refine ⟨_, rfl, _, rfl, _, _, rfl, rfl, a, ns, _, _, rfl, hS1, hlen, by omega, by omega, by decide, by decide, fun H2 r s2 r0 r1 => ?_⟩
    have hS2 := s2.seq hS1
    obtain ⟨o, ho, hoo⟩ : ∃ o : Str, atI [V.str "equal", V.str "less", V.str "below"] r = some (.str o) ∧ (o = "equal" ∨ o = "less" ∨ o = "below") := by
      rcases (show r = 0 ∨ r = 1 ∨ r = 2 by omega) with rfl | rfl | rfl
      · exact ⟨_, at0, .inl rfl⟩
      · exact ⟨_, at1, .inr (.inl rfl)⟩
      · exact ⟨_, at2, .inr (.inr rfl)⟩
    refine ⟨q, _, r, _, rfl, rfl, SqT.of (s2 _ _ hq), ho, ?_⟩
    refine ⟨_, rfl, _, rfl, _, _, rfl, rfl, .inl ⟨by decide, by decide⟩, _, _, rfl, rfl, a, ns, 3 * n + 2, rfl, hS2, hlen, by omega, (by show (3 * n + 2 + 5) * 4 ≤ 90000; omega), fun H3 x t s3 hx ht => ?_⟩
    have hS3 := s3.seq hS2
    refine ⟨_, rfl, _, rfl, _, _, rfl, rfl, .inl ⟨by decide, by decide⟩, _, _, rfl, rfl, a, ns, 3 * n + 11, rfl, hS3, hlen, by omega, (by show (3 * n + 11 + 5) * 4 ≤ 90000; omega), fun H4 y u s4 hy hu => ?_⟩
    exact rd_t3 fun p H5 s5 hp5 => k H5 _ _ ((((s1.trans s2).trans s3).trans s4).trans s5) (DAt.tup3 hp5 (.s _) ((hx.same s4).same s5) (hy.same s5)) (isF_zero ⟨o, t, u, hoo, ht, hu, rfl⟩)
  rw [decide_eq_false c3]
  refine iteF ⟨_, rfl, rfl, _, rfl, ?_⟩
  rw [dec_int]
  by_cases e3 : kd = 3
  · rw [decide_eq_true e3]
    exact iteT ⟨_, rfl, _, rfl, _, _, rfl, rfl, .inl ⟨by decide, by decide⟩, _, _, rfl, rfl, _, rfl, _, _, rfl, rfl, a, ns, 2 * n + 1, rfl, hS0, hlen, by omega, (by show (2 * n + 1 + 7) * 1 ≤ 5000; omega), fun H2 x d2 s2 hd2 ht2 => rd_t2 fun p H3 s3 hp3 => k H3 _ _ ((s0.trans s2).trans s3) (DAt.tup2 hp3 (.s _) (hd2.same s3)) (.inr (.inl ⟨_, ht2, rfl⟩))⟩
  rw [decide_eq_false e3]
  refine iteF ?_
  refine rd_t2 fun q H1 s1 hq => ?_
  have hS1 := s1.seq hS0
  refine ⟨_, rfl, _, rfl, _, _, rfl, rfl, a, ns, _, _, rfl, hS1, hlen, by omega, by omega, by decide, by decide, fun H2 r s2 r0 r1 => ?_⟩
  have hS2 := s2.seq hS1
  obtain ⟨o, ho, hoo⟩ : ∃ o : Str, atI [V.str "and", V.str "or"] r = some (.str o) ∧ (o = "and" ∨ o = "or") := by
    rcases (show r = 0 ∨ r = 1 by omega) with rfl | rfl
    · exact ⟨_, at0, .inl rfl⟩
    · exact ⟨_, at1, .inr rfl⟩
  refine ⟨q, _, r, _, rfl, rfl, SqT.of (s2 _ _ hq), ho, ?_⟩
  refine ⟨_, rfl, _, rfl, _, _, rfl, rfl, .inl ⟨by decide, by decide⟩, _, _, rfl, rfl, _, rfl, _, _, rfl, rfl, a, ns, 2 * n + 1, rfl, hS2, hlen, by omega, (by show (2 * n + 1 + 7) * 1 ≤ 5000; omega), fun H3 x d2 s3 hd2 ht2 => ?_⟩
  have hS3 := s3.seq hS2
  refine ⟨_, rfl, _, rfl, _, _, rfl, rfl, .inl ⟨by decide, by decide⟩, _, _, rfl, rfl, _, rfl, _, _, rfl, rfl, a, ns, 2 * n + 7, rfl, hS3, hlen, by omega, (by show (2 * n + 7 + 7) * 1 ≤ 5000; omega), fun H4 y d3 s4 hd3 ht3 => ?_⟩
  refine rd_t2 fun p H5 s5 hp5 => rd_t2 fun p2 H6 s6 hp6 => ?_
  exact k H6 _ _ (((((s0.trans s1).trans s2).trans s3).trans s4).trans (s5.trans s6)) (DAt.tup2 hp6 (.s _) (DAt.tup2 (s6 _ _ hp5) ((hd2.same s4).same (s5.trans s6)) (hd3.same (s5.trans s6)))) (.inr (.inr ⟨o, _, _, hoo, ht2, ht3, rfl⟩))
end
end K8
namespace K8
open PySem PySem.Spec PyProof.Rows L2 LayT
section
variable {P : Program} {w : World} {K : PySem.W.Frag} {mg : Str → Option Value} {base : Heap}
/-- a refusal as the law writes it: no term or formula, or values that lack (kind 0); no width (kind 1) -/
def Bad (b : Bool) (kd : Int) (d wd : D) (g : Str → Option D) : Prop := ∃ m res, m ≤ 900 ∧ ordL b m [] [(d, b)] = some res ∧ ((kd = 0 ∧ res = none) ∨ (kd = 1 ∧ ∃ ps, res = some ps ∧ okWidth wd = false) ∨
  (kd = 0 ∧ ∃ ps, res = some ps ∧ okWidth wd = true ∧ ∃ n : Nat, wd = .int n ∧ ps.length ≤ 1000 ∧ (∀ p ∈ ps.reverse, NmOk p.1) ∧ ∃ x, nm x ∈ ps.reverse.map (·.1) ∧ oneF g n x = false))
theorem Bad.wo {b : Bool} {kd : Int} {d wd : D} {g : Str → Option D} (h : Bad b kd d wd g) {H : Hp} {tv wv : V} {a : Addr} {kvs : List (Key × V)} {CT CW : Addr} {Q : VK} {E : XK} (hd : DAt H tv d) (hs : Short d) (hw : DAt H wv wd) (ha : H a = some (.dK kvs)) (hv : VOk H kvs g)
    (h0 : kd = 0 → ∀ H', Same H H' → E (.ref CT) none H') (h1 : kd = 1 → ∀ H', Same H H' → E (.ref CW) none H') : spWO b CT CW [tv, wv, .ref a] H Q E := by
  obtain ⟨m, res, hm, ho, hc⟩ := h
  refine ⟨tv, wv, a, d, wd, m, res, kvs, g, rfl, hd, hs, hw, hm, ho, ha, hv, ?_, ?_⟩
  · rintro rfl
    rcases hc with ⟨k0, _⟩ | ⟨_, ps, e, _⟩ | ⟨_, ps, e, _⟩
    · exact h0 k0
    · cases e
    · cases e
  · rintro ps rfl
    rcases hc with ⟨_, e⟩ | ⟨k1, ps', e, hk⟩ | ⟨k0, ps', e, hk, n, hn, hl, ha', x, hx⟩
    · cases e
    · exact ⟨fun _ => h1 k1, fun z => by rw [hk] at z; cases z⟩
    · cases e
      exact ⟨fun z => by rw [hk] at z; (cases z), fun _ => ⟨n, hn, hl, ha', .inl ⟨⟨x, hx⟩, h0 k0⟩⟩⟩
def spRef : Sp := fun vs H Q _ => ∃ (num kd : Int) (tv wv : V) (a : Addr) (d wd : D) (kvs : List (Key × V)) (g : Str → Option D), vs = [.int num, tv, wv, .ref a, .int kd] ∧ DAt H tv d ∧ Short d ∧ DAt H wv wd ∧ H a = some (.dK kvs) ∧ VOk H kvs g ∧
  Bad (!decide (num = 0)) kd d wd g ∧ ∀ H', Same H H' → Q (.bl true) H'
abbrev nRef : List Str := ["number", "told", "width", "values", "kind", "late"]
theorem scRef : FnScope nRef ["number", "told", "width", "values", "kind"] (defScope sLRef) := ⟨rfl, rfl, rfl, by decide +kernel, rfl, by decide +kernel, by decide +kernel⟩
theorem ok_ref {f fA fB CT CW : Addr} {fd fdA fdB : FuncData} (F : Fun K "_law_refused" "_law_refused" sLRef f fd) (DA : DfX P w K mg base "word_of" 7 ["term", "width", "values"] (spWO false CT CW) fA fdA) (DB : DfX P w K mg base "holds_at" 7 ["formula", "width", "values"] (spWO true CT CW) fB fdB)
    (TT : ErrC K mg "BadTerm" CT) (TW : ErrC K mg "BadWidth" CW) (e1 : PySem.W.exmOne K (.ref CT) (.ref CT) = some true) (e2 : PySem.W.exmOne K (.ref CW) (.ref CT) = some false) (e3 : PySem.W.exmOne K (.ref CW) (.ref CW) = some true) :
    FnOk P w K mg base CX0 8 f fd ["number", "told", "width", "values", "kind"] spRef := by
  refine F.ok scRef (fun vs H Q E h => ?_) (fun cdv A outer s H vs Q E hr h => ?_)
  · obtain ⟨num, kd, tv, wv, a, d, wd, kvs, g, rfl, _⟩ := h
    rfl
  obtain ⟨num, kd, tv, wv, a, d, wd, kvs, g, rfl, hd, hs, hw, ha, hv, hB, k⟩ := h
  have nd := scRef.nd
  refine ⟨_, pss_one (ps_try_many rfl rfl takes0
    (fun W pn xe tk _ => pss_cons (ps_set (i := 5) nd rfl (.inl rfl) (pe_ifExp (pt_cmpR op_eq (pv 0) pe_int (nomark _)) (pe_callS DA.ok hr rfl DA.mgf DA.kp DA.b (fun σ => passAt tk σ) (pa_cons (pv 1) (pa_cons (pv 2) (pa_cons (pv 3) pa_nil))))
        (pe_callS DB.ok hr rfl DB.mgf DB.kp DB.b (fun σ => passAt tk σ) (pa_cons (pv 1) (pa_cons (pv 2) (pa_cons (pv 3) pa_nil)))))) (pss_one (ps_ret pe_bl)))
    (.cons ⟨rfl, by decide, .inl TT.g⟩ (fun _ _ _ _ _ _ _ => pss_one (ps_ret (pe_cmpR op_eq (pv 4) pe_int (nomark _))))
      (.cons ⟨rfl, by decide, .inl TW.g⟩ (fun _ _ _ _ _ _ _ => pss_one (ps_ret (pe_cmpR op_eq (pv 4) pe_int (nomark _)))) .nil))), ?_⟩
  refine ⟨_, rfl, rfl, _, rfl, ?_⟩
  rw [dec_int]
  have q0 : ∀ H', Same H H' → Q (.bl (decide (V.int 0 = V.int 0))) H' := fun H' sm => by rw [decide_eq_true rfl]; exact k H' sm
  have q1 : ∀ H', Same H H' → Q (.bl (decide (V.int 1 = V.int 1))) H' := fun H' sm => by rw [decide_eq_true rfl]; exact k H' sm
  by_cases n0 : num = 0
  · rw [decide_eq_true n0] at hB ⊢
    refine iteT ⟨_, rfl, _, rfl, _, rfl, hB.wo hd hs hw ha hv ?_ ?_⟩
    · rintro rfl H' sm
      exact ⟨true, e1, fun _ _ _ => ⟨_, rfl, rfl, q0 H' sm⟩, fun z => nomatch z⟩
    · rintro rfl H' sm
      exact ⟨false, e2, fun z => (nomatch z), fun _ => ⟨true, e3, fun _ _ _ => ⟨_, rfl, rfl, q1 H' sm⟩, fun z => nomatch z⟩⟩
  · rw [decide_eq_false n0] at hB ⊢
    refine iteF ⟨_, rfl, _, rfl, _, rfl, hB.wo hd hs hw ha hv ?_ ?_⟩
    · rintro rfl H' sm
      exact ⟨true, e1, fun _ _ _ => ⟨_, rfl, rfl, q0 H' sm⟩, fun z => nomatch z⟩
    · rintro rfl H' sm
      exact ⟨false, e2, fun z => (nomatch z), fun _ => ⟨true, e3, fun _ _ _ => ⟨_, rfl, rfl, q1 H' sm⟩, fun z => nomatch z⟩⟩
end
end K8
namespace K8
/-! ### numbers told by their bits -/
def bitSum (f : Nat → Nat → Nat) (a b : Nat) : Nat → Nat
  | 0 => 0
  | k + 1 => bitSum f a b k + f (a / 2 ^ k % 2) (b / 2 ^ k % 2) * 2 ^ k
theorem bitSum_eq {f : Nat → Nat → Nat} {a b c : Nat} (h : ∀ i, f (a / 2 ^ i % 2) (b / 2 ^ i % 2) = c / 2 ^ i % 2) : ∀ k, bitSum f a b k = c % 2 ^ k
  | 0 => by rw [Nat.pow_zero, Nat.mod_one]; rfl
  | k + 1 => by
    show bitSum f a b k + f (a / 2 ^ k % 2) (b / 2 ^ k % 2) * 2 ^ k = _
    rw [bitSum_eq h k, h k, Nat.mod_pow_succ, Nat.mul_comm]
theorem bit_div (a i : Nat) : a / 2 ^ i % 2 = (a.testBit i).toNat := by
  rw [Nat.testBit_eq_decide_div_mod_eq]
  have : a / 2 ^ i % 2 < 2 := Nat.mod_lt _ (by decide)
  rcases (show a / 2 ^ i % 2 = 0 ∨ a / 2 ^ i % 2 = 1 by omega) with h | h <;> rw [h] <;> rfl
theorem sum_and (a b k : Nat) : bitSum min a b k = (a &&& b) % 2 ^ k := bitSum_eq (fun i => by
  rw [bit_div, bit_div, bit_div, Nat.testBit_and]
  cases a.testBit i <;> cases b.testBit i <;> rfl) k
theorem sum_or (a b k : Nat) : bitSum max a b k = (a ||| b) % 2 ^ k := bitSum_eq (fun i => by
  rw [bit_div, bit_div, bit_div, Nat.testBit_or]
  cases a.testBit i <;> cases b.testBit i <;> rfl) k
theorem sum_xor (a b k : Nat) : bitSum (fun x y => (x + y) % 2) a b k = (a ^^^ b) % 2 ^ k := bitSum_eq (fun i => by
  rw [bit_div, bit_div, bit_div, Nat.testBit_xor]
  cases a.testBit i <;> cases b.testBit i <;> rfl) k
theorem xor_half {a n : Nat} (h : a < 2 ^ (n + 1)) : a ^^^ 2 ^ n = if 2 ^ n ≤ a then a - 2 ^ n else a + 2 ^ n := by
  apply Nat.eq_of_testBit_eq
  intro i
  rw [Nat.testBit_xor, Nat.testBit_two_pow]
  have hp : 2 ^ (n + 1) = 2 ^ n + 2 ^ n := by rw [Nat.pow_succ]; omega
  split
  · rename_i hn
    have e : a = 2 ^ n + (a - 2 ^ n) := by omega
    have hl : a - 2 ^ n < 2 ^ n := by omega
    by_cases hi : n = i
    · subst hi
      rw [e, Nat.testBit_two_pow_add_eq]
      simp [Nat.testBit_lt_two_pow hl]
    · rw [decide_eq_false hi, Bool.xor_false]
      by_cases hlt : i < n
      · conv => lhs; rw [e]
        rw [Nat.testBit_two_pow_add_gt hlt]
      · have h1 : a < 2 ^ i := Nat.lt_of_lt_of_le h (Nat.pow_le_pow_right (by decide) (by omega))
        rw [Nat.testBit_lt_two_pow h1, Nat.testBit_lt_two_pow (by omega)]
  · rename_i hn
    have hl : a < 2 ^ n := by omega
    rw [Nat.add_comm]
    by_cases hi : n = i
    · subst hi
      rw [Nat.testBit_two_pow_add_eq]
      simp [Nat.testBit_lt_two_pow hl]
    · rw [decide_eq_false hi, Bool.xor_false]
      by_cases hlt : i < n
      · rw [Nat.testBit_two_pow_add_gt hlt]
      · have h1 : a < 2 ^ i := Nat.lt_of_lt_of_le hl (Nat.pow_le_pow_right (by decide) (by omega))
        have h2 : 2 ^ n + a < 2 ^ i := by
          have : 2 ^ (n + 1) ≤ 2 ^ i := Nat.pow_le_pow_right (by decide) (by omega)
          omega
        rw [Nat.testBit_lt_two_pow h1, Nat.testBit_lt_two_pow h2]
end K8
namespace K8
open PySem PySem.Spec PyProof.Rows L2 LayT
/-! ### the law's terms -/
inductive Op where
  | add | sub | and | or | xor
def Op.s : Op → Str
  | .add => "+"
  | .sub => "-"
  | .and => "&"
  | .or => "|"
  | .xor => "^"
inductive LT where
  | x | y | num (i : Int) | neg (t : LT) | times (i : Int) (t : LT) | up (i : Nat) (t : LT) | op (o : Op) (t u : LT)
def LT.d : LT → D
  | .x => nm "x"
  | .y => nm "y"
  | .num i => .tup [.str "number", .int i]
  | .neg t => .tup [.str "~", t.d]
  | .times i t => .tup [.str "times", .int i, t.d]
  | .up i t => .tup [.str "up", .int (i : Int), t.d]
  | .op o t u => .tup [.str o.s, t.d, u.d]
def LT.ok : LT → Prop
  | .x => True
  | .y => True
  | .num i => -4 ≤ i ∧ i ≤ 4
  | .neg t => t.ok
  | .times i t => (-3 ≤ i ∧ i ≤ 3) ∧ t.ok
  | .up i t => i ≤ 2 ∧ t.ok
  | .op _ t u => t.ok ∧ u.ok
def LT.dp : LT → Nat
  | .x => 0
  | .y => 0
  | .num _ => 0
  | .neg t => t.dp + 1
  | .times _ t => t.dp + 1
  | .up _ t => t.dp + 1
  | .op _ t u => max t.dp u.dp + 1
theorem isT0_lt {d : D} (h : isT0 d) : ∃ t : LT, t.d = d ∧ t.ok ∧ t.dp = 0 := by
  rcases h with rfl | rfl | ⟨i, h1, h2, rfl⟩
  · exact ⟨.x, rfl, trivial, rfl⟩
  · exact ⟨.y, rfl, trivial, rfl⟩
  · exact ⟨.num i, rfl, ⟨h1, h2⟩, rfl⟩
theorem isT_lt : ∀ (e : Nat) {d : D}, isT e d → ∃ t : LT, t.d = d ∧ t.ok ∧ t.dp ≤ e
  | 0, d, h => by
    obtain ⟨t, h1, h2, h3⟩ := isT0_lt h
    exact ⟨t, h1, h2, by omega⟩
  | e + 1, d, h => by
    rcases h with h | ⟨t, ht, rfl⟩ | ⟨t, i, h1, h2, ht, rfl⟩ | ⟨t, i, h1, h2, ht, rfl⟩ | ⟨o, t, u, ho, ht, hu, rfl⟩
    · obtain ⟨t, h1, h2, h3⟩ := isT0_lt h
      exact ⟨t, h1, h2, by omega⟩
    · obtain ⟨t, rfl, h2, h3⟩ := isT_lt e ht
      exact ⟨.neg t, rfl, h2, Nat.succ_le_succ h3⟩
    · obtain ⟨t, rfl, k2, k3⟩ := isT_lt e ht
      exact ⟨.times i t, rfl, ⟨⟨h1, h2⟩, k2⟩, Nat.succ_le_succ k3⟩
    · obtain ⟨t, rfl, k2, k3⟩ := isT_lt e ht
      refine ⟨.up i.toNat t, ?_, ⟨by omega, k2⟩, Nat.succ_le_succ k3⟩
      show D.tup [.str "up", .int ((i.toNat : Nat) : Int), t.d] = _
      rw [Int.toNat_of_nonneg h1]
    · obtain ⟨t, rfl, k2, k3⟩ := isT_lt e ht
      obtain ⟨u, rfl, l2, l3⟩ := isT_lt e hu
      have hd : ∀ o : Op, (LT.op o t u).dp ≤ e + 1 := fun o => Nat.succ_le_succ (Nat.max_le.mpr ⟨k3, l3⟩)
      rcases ho with rfl | rfl | rfl | rfl | rfl
      · exact ⟨.op .add t u, rfl, ⟨k2, l2⟩, hd _⟩
      · exact ⟨.op .sub t u, rfl, ⟨k2, l2⟩, hd _⟩
      · exact ⟨.op .and t u, rfl, ⟨k2, l2⟩, hd _⟩
      · exact ⟨.op .or t u, rfl, ⟨k2, l2⟩, hd _⟩
      · exact ⟨.op .xor t u, rfl, ⟨k2, l2⟩, hd _⟩
/-! what they tell -/
def Op.f (n : Nat) : Op → Nat → Nat → Nat
  | .add, a, b => (a + b) % 2 ^ n
  | .sub, a, b => (((a : Int) - (b : Int)) % 2 ^ n).toNat
  | .and, a, b => a &&& b
  | .or, a, b => a ||| b
  | .xor, a, b => a ^^^ b
def LT.v (n gx gy : Nat) : LT → Nat
  | .x => gx
  | .y => gy
  | .num i => (i % 2 ^ n).toNat
  | .neg t => 2 ^ n - 1 - t.v n gx gy
  | .times i t => ((i * (t.v n gx gy : Int)) % 2 ^ n).toNat
  | .up i t => t.v n gx gy * 2 ^ i % 2 ^ n
  | .op o t u => o.f n (t.v n gx gy) (u.v n gx gy)
theorem p2pos (n : Nat) : 0 < 2 ^ n := Nat.pow_pos (by decide)
theorem p2posI (n : Nat) : (0 : Int) < 2 ^ n := Int.pow_pos (by decide)
theorem p2cast (n : Nat) : ((2 ^ n : Nat) : Int) = 2 ^ n := by rw [Int.natCast_pow]; rfl
theorem tn (z : Int) (n : Nat) : (((z % 2 ^ n).toNat : Nat) : Int) = z % 2 ^ n := Int.toNat_of_nonneg (Int.emod_nonneg _ (Int.ne_of_gt (p2posI n)))
theorem tn_lt (z : Int) (n : Nat) : (z % 2 ^ n).toNat < 2 ^ n := by
  have h1 := Int.emod_lt_of_pos z (p2posI n)
  have h2 := tn z n
  rw [← h2, ← p2cast n] at h1
  exact Int.ofNat_lt.mp h1
theorem Op.f_lt {n a b : Nat} (ha : a < 2 ^ n) (hb : b < 2 ^ n) : ∀ o : Op, o.f n a b < 2 ^ n
  | .add => Nat.mod_lt _ (p2pos n)
  | .sub => tn_lt _ n
  | .and => Nat.and_lt_two_pow a hb
  | .or => Nat.or_lt_two_pow ha hb
  | .xor => Nat.xor_lt_two_pow ha hb
theorem LT.v_lt {n gx gy : Nat} (hx : gx < 2 ^ n) (hy : gy < 2 ^ n) : ∀ t : LT, t.v n gx gy < 2 ^ n
  | .x => hx
  | .y => hy
  | .num i => tn_lt _ n
  | .neg t => by
    show 2 ^ n - 1 - t.v n gx gy < 2 ^ n
    have := p2pos n
    omega
  | .times i t => tn_lt _ n
  | .up i t => Nat.mod_lt _ (p2pos n)
  | .op o t u => Op.f_lt (t.v_lt hx hy) (u.v_lt hx hy) o
/-! their parts in order -/
def LT.po : LT → List (D × Nat)
  | .x => [(nm "x", 0)]
  | .y => [(nm "y", 0)]
  | .num i => [(.tup [.str "number", .int i], 0)]
  | .neg t => t.po ++ [(.tup [.str "~", t.d], 1)]
  | .times i t => t.po ++ [(.tup [.str "times", .int i, t.d], 1)]
  | .up i t => t.po ++ [(.tup [.str "up", .int (i : Int), t.d], 1)]
  | .op o t u => t.po ++ (u.po ++ [(.tup [.str o.s, t.d, u.d], 2)])
theorem termsF_nmx : termsF (nm "x") = some [] := rfl
theorem termsF_nmy : termsF (nm "y") = some [] := rfl
theorem termsF_num {i : Int} (h : isBet (.int i) (-1000) 1000 = true) : termsF (.tup [.str "number", .int i]) = some [] := by
  show (if (decide (("number" : Str) = "name") && isWrd (.int i) || decide (("number" : Str) = "number") && isBet (.int i) (-1000) 1000) = true then some [] else _) = _
  rw [h]
  rfl
theorem termsF_neg (t : D) : termsF (.tup [.str "~", t]) = some [t] := rfl
theorem termsF_times {i : Int} (h : isBet (.int i) (-30) 30 = true) (t : D) : termsF (.tup [.str "times", .int i, t]) = some [t] := by
  show (if inV (.str "times") jS = true then some [D.int i, t] else if (decide (("times" : Str) = "times") && isBet (.int i) (-30) 30 || decide (("times" : Str) = "up") && isBet (.int i) 0 6) = true then some [t] else none) = _
  rw [h]
  rfl
theorem termsF_up {i : Int} (h : isBet (.int i) 0 6 = true) (t : D) : termsF (.tup [.str "up", .int i, t]) = some [t] := by
  show (if inV (.str "up") jS = true then some [D.int i, t] else if (decide (("up" : Str) = "times") && isBet (.int i) (-30) 30 || decide (("up" : Str) = "up") && isBet (.int i) 0 6) = true then some [t] else none) = _
  rw [h]
  rfl
theorem termsF_op (o : Op) (t u : D) : termsF (.tup [.str o.s, t, u]) = some [t, u] := by cases o <;> rfl
theorem isBet_of {i a b : Int} (h1 : a ≤ i) (h2 : i ≤ b) : isBet (.int i) a b = true := by
  show (decide (a ≤ i) && decide (i ≤ b)) = true
  rw [decide_eq_true h1, decide_eq_true h2]; rfl
theorem partsF_t {d : D} {ts : List D} (h : termsF d = some ts) : partsF d false = some (ts.map fun t => (t, false)) := by
  unfold partsF
  rw [if_neg (by decide), h]
  rfl
theorem ordL_step {b : Bool} {m : Nat} {found : List (D × Nat)} {waiting : List (D × Bool)} {p : D × Bool} {ps : List (D × Bool)} (h : partsF p.1 p.2 = some ps) (hl : b = true → found.length + 1 ≤ 40) :
    ordL b (m + 1) found (waiting ++ [p]) = ordL b m (found ++ [(p.1, ps.length)]) (waiting ++ ps) := by
  conv => lhs; unfold ordL
  rw [List.getLast?_concat]
  dsimp only
  rw [h]
  dsimp only
  rw [if_neg, List.dropLast_concat]
  intro z
  rw [Bool.and_eq_true, decide_eq_true_eq] at z
  have := hl z.1
  omega
theorem ord_t {b : Bool} : ∀ (t : LT), t.ok → ∀ (m : Nat) (found : List (D × Nat)) (waiting : List (D × Bool)), (b = true → found.length + t.po.length ≤ 40) →
    ordL b (m + t.po.length) found (waiting ++ [(t.d, false)]) = ordL b m (found ++ t.po.reverse) waiting
  | .x, _, m, found, waiting, hl => by
    rw [show LT.po .x = [(nm "x", 0)] from rfl] at hl ⊢
    refine (ordL_step (partsF_t termsF_nmx) hl).trans ?_
    rw [List.map_nil, List.append_nil]; rfl
  | .y, _, m, found, waiting, hl => by
    rw [show LT.po .y = [(nm "y", 0)] from rfl] at hl ⊢
    refine (ordL_step (partsF_t termsF_nmy) hl).trans ?_
    rw [List.map_nil, List.append_nil]; rfl
  | .num i, h, m, found, waiting, hl => by
    rw [show LT.po (.num i) = [(.tup [.str "number", .int i], 0)] from rfl] at hl ⊢
    refine (ordL_step (partsF_t (termsF_num (isBet_of (by have := h.1; omega) (by have := h.2; omega)))) hl).trans ?_
    rw [List.map_nil, List.append_nil]; rfl
  | .neg t, h, m, found, waiting, hl => by
    rw [show LT.po (.neg t) = t.po ++ [(.tup [.str "~", t.d], 1)] from rfl, List.length_append] at hl ⊢
    simp only [List.length_singleton] at hl
    refine (ordL_step (m := m + t.po.length) (partsF_t (termsF_neg t.d)) (fun z => by have := hl z; omega)).trans ?_
    refine (ord_t t h m _ waiting (fun z => by have := hl z; rw [List.length_append, List.length_singleton]; omega)).trans ?_
    rw [List.reverse_append, List.append_assoc]; rfl
  | .times i t, h, m, found, waiting, hl => by
    rw [show LT.po (.times i t) = t.po ++ [(.tup [.str "times", .int i, t.d], 1)] from rfl, List.length_append] at hl ⊢
    simp only [List.length_singleton] at hl
    refine (ordL_step (m := m + t.po.length) (partsF_t (termsF_times (isBet_of (by have := h.1.1; omega) (by have := h.1.2; omega)) t.d)) (fun z => by have := hl z; omega)).trans ?_
    refine (ord_t t h.2 m _ waiting (fun z => by have := hl z; rw [List.length_append, List.length_singleton]; omega)).trans ?_
    rw [List.reverse_append, List.append_assoc]; rfl
  | .up i t, h, m, found, waiting, hl => by
    rw [show LT.po (.up i t) = t.po ++ [(.tup [.str "up", .int (i : Int), t.d], 1)] from rfl, List.length_append] at hl ⊢
    simp only [List.length_singleton] at hl
    refine (ordL_step (m := m + t.po.length) (partsF_t (termsF_up (isBet_of (by omega) (by have := h.1; omega)) t.d)) (fun z => by have := hl z; omega)).trans ?_
    refine (ord_t t h.2 m _ waiting (fun z => by have := hl z; rw [List.length_append, List.length_singleton]; omega)).trans ?_
    rw [List.reverse_append, List.append_assoc]; rfl
  | .op o t u, h, m, found, waiting, hl => by
    rw [show LT.po (.op o t u) = t.po ++ (u.po ++ [(.tup [.str o.s, t.d, u.d], 2)]) from rfl, List.length_append, List.length_append] at hl ⊢
    simp only [List.length_singleton] at hl
    rw [List.length_singleton, show m + (t.po.length + (u.po.length + 1)) = (m + t.po.length + u.po.length) + 1 by omega]
    refine (ordL_step (found := found) (waiting := waiting) (m := m + t.po.length + u.po.length) (p := (.tup [.str o.s, t.d, u.d], false)) (partsF_t (termsF_op o t.d u.d)) (fun z => by have := hl z; omega)).trans ?_
    rw [show waiting ++ List.map (fun t => (t, false)) [t.d, u.d] = (waiting ++ [(t.d, false)]) ++ [(u.d, false)] by rw [List.append_assoc]; rfl]
    refine (ord_t u h.2 (m + t.po.length) (found ++ [(.tup [.str o.s, t.d, u.d], 2)]) _ (fun z => by have := hl z; rw [List.length_append, List.length_singleton]; omega)).trans ?_
    refine (ord_t t h.1 m _ waiting (fun z => by have := hl z; rw [List.length_append, List.length_append, List.length_singleton, List.length_reverse]; omega)).trans ?_
    rw [List.reverse_append, List.reverse_append, List.append_assoc, List.append_assoc]; rfl
theorem po_len : ∀ (t : LT), t.po.length + 1 ≤ 2 ^ (t.dp + 1)
  | .x => by decide
  | .y => by decide
  | .num i => by show 1 + 1 ≤ 2 ^ (0 + 1); decide
  | .neg t => by
    have := po_len t
    show (t.po ++ [_]).length + 1 ≤ 2 ^ (t.dp + 1 + 1)
    rw [List.length_append, List.length_singleton, Nat.pow_succ]; omega
  | .times i t => by
    have := po_len t
    show (t.po ++ [_]).length + 1 ≤ 2 ^ (t.dp + 1 + 1)
    rw [List.length_append, List.length_singleton, Nat.pow_succ]; omega
  | .up i t => by
    have := po_len t
    show (t.po ++ [_]).length + 1 ≤ 2 ^ (t.dp + 1 + 1)
    rw [List.length_append, List.length_singleton, Nat.pow_succ]; omega
  | .op o t u => by
    have h1 := po_len t
    have h2 := po_len u
    have h3 : 2 ^ (t.dp + 1) ≤ 2 ^ (max t.dp u.dp + 1) := Nat.pow_le_pow_right (by decide) (by omega)
    have h4 : 2 ^ (u.dp + 1) ≤ 2 ^ (max t.dp u.dp + 1) := Nat.pow_le_pow_right (by decide) (by omega)
    show (t.po ++ (u.po ++ [_])).length + 1 ≤ 2 ^ (max t.dp u.dp + 1 + 1)
    rw [List.length_append, List.length_append, List.length_singleton, Nat.pow_succ]; omega
end K8
namespace K8
open PySem PySem.Spec PyProof.Rows L2 LayT
theorem workF_T {g : Str → Option D} {n : Nat} {k : Str} {r : List D} {zs : List V} {G : G3} {i : Int} (hk : k ≠ "name") (hG : gT k = some G) (h : G (.str k :: r) zs n = some (.int i)) : workF g n (.tup (.str k :: r)) zs = some (.int (i % 2 ^ n)) := by
  unfold workF
  dsimp only
  rw [if_neg hk, hG]
  dsimp only
  rw [h]
theorem workF_F {g : Str → Option D} {n : Nat} {k : Str} {r : List D} {zs : List V} {G : G3} (hk : k ≠ "name") (hT : gT k = none) (hG : gF k = some G) : workF g n (.tup (.str k :: r)) zs = G (.str k :: r) zs n := by
  unfold workF
  dsimp only
  rw [if_neg hk, hT]
  dsimp only
  rw [hG]
theorem workF_nm {g : Str → Option D} {n : Nat} {x : Str} {i : Int} {zs : List V} (h : g x = some (.int i)) : workF g n (nm x) zs = some (.int i) := by
  unfold nm workF
  dsimp only
  rw [if_pos rfl, h]
theorem toldF_step {g : Str → Option D} {n : Nat} {ps : List (D × Nat)} {st zs : List V} {d : D} {c : Nat} {v : V} (hc : zs.length = c) (h : workF g n d zs = some v) : toldF g n ((d, c) :: ps) (st ++ zs) = toldF g n ps (st ++ [v]) := by
  have hl : (st ++ zs).length - c = st.length := by rw [List.length_append, hc]; omega
  conv => lhs; unfold toldF
  rw [if_pos (by rw [List.length_append]; omega), hl, List.drop_left, h]
  dsimp only
  rw [List.take_left]
theorem toldF_step0 {g : Str → Option D} {n : Nat} {ps : List (D × Nat)} {st : List V} {d : D} {v : V} (h : workF g n d [] = some v) : toldF g n ((d, 0) :: ps) st = toldF g n ps (st ++ [v]) := by
  have := toldF_step (st := st) (ps := ps) (zs := []) (c := 0) rfl h
  rwa [List.append_nil] at this
theorem bnot_mod {a n : Nat} (h : a < 2 ^ n) : Builtin.bitNot (a : Int) % 2 ^ n = ((2 ^ n - 1 - a : Nat) : Int) := by
  have hc := p2cast n
  have hp := p2pos n
  unfold Builtin.bitNot
  rw [← hc]
  generalize 2 ^ n = M at *
  rw [show (-(a : Int) - 1) = ((M - 1 - a : Nat) : Int) + (-1) * (M : Int) by omega, Int.add_mul_emod_self_right, Int.emod_eq_of_lt (by omega) (by omega)]
theorem nat_mod_self {a n : Nat} (h : a < 2 ^ n) : ((a : Nat) : Int) % 2 ^ n = (a : Int) := by
  rw [← p2cast n]
  exact Int.emod_eq_of_lt (by omega) (by omega)
theorem op_work (n : Nat) {a b : Nat} (ha : a < 2 ^ n) (hb : b < 2 ^ n) : ∀ (o : Op) {g : Str → Option D} (t u : D), workF g n (.tup [.str o.s, t, u]) [.int a, .int b] = some (.int (o.f n a b : Nat))
  | .add, g, t, u => by
    have := workF_T (g := g) (n := n) (r := [t, u]) (zs := [.int a, .int b]) (k := "+") (G := gAdd) (by decide) rfl rfl
    rw [show ((Op.f n .add a b : Nat) : Int) = ((a : Int) + b) % 2 ^ n by
      show (((a + b) % 2 ^ n : Nat) : Int) = _
      rw [Int.natCast_emod, p2cast, Int.natCast_add]]
    exact this
  | .sub, g, t, u => by
    have := workF_T (g := g) (n := n) (r := [t, u]) (zs := [.int a, .int b]) (k := "-") (G := gSub) (by decide) rfl rfl
    rw [show ((Op.f n .sub a b : Nat) : Int) = ((a : Int) - b) % 2 ^ n from tn _ n]
    exact this
  | .and, g, t, u => by
    have := workF_T (g := g) (n := n) (r := [t, u]) (zs := [.int a, .int b]) (k := "&") (G := gBoth) (by decide) rfl rfl
    rw [PyProof.Rows.bitAnd_pp (by omega) (by omega), nat_mod_self (by rw [Int.toNat_natCast, Int.toNat_natCast]; exact Nat.and_lt_two_pow a hb)] at this
    exact this
  | .or, g, t, u => by
    have := workF_T (g := g) (n := n) (r := [t, u]) (zs := [.int a, .int b]) (k := "|") (G := gEith) (by decide) rfl rfl
    rw [Bits.bitOr_pp (by omega) (by omega), nat_mod_self (by rw [Int.toNat_natCast, Int.toNat_natCast]; exact Nat.or_lt_two_pow ha hb)] at this
    exact this
  | .xor, g, t, u => by
    have := workF_T (g := g) (n := n) (r := [t, u]) (zs := [.int a, .int b]) (k := "^") (G := gUnl) (by decide) rfl rfl
    rw [Bits.bitXor_pp (by omega) (by omega), nat_mod_self (by rw [Int.toNat_natCast, Int.toNat_natCast]; exact Nat.xor_lt_two_pow ha hb)] at this
    exact this
section
variable {g : Str → Option D} {n gx gy : Nat}
theorem told_t (hx : g "x" = some (.int gx)) (hy : g "y" = some (.int gy)) (lx : gx < 2 ^ n) (ly : gy < 2 ^ n) (hn : n ≤ 60) : ∀ (t : LT), t.ok → ∀ (ps : List (D × Nat)) (st : List V), toldF g n (t.po ++ ps) st = toldF g n ps (st ++ [.int (t.v n gx gy : Nat)])
  | .x, _, ps, st => toldF_step0 (workF_nm hx)
  | .y, _, ps, st => toldF_step0 (workF_nm hy)
  | .num i, _, ps, st => by
    show _ = toldF g n ps (st ++ [.int (((i % 2 ^ n).toNat : Nat) : Int)])
    rw [tn]
    exact toldF_step0 (workF_T (G := gTold) (by decide) rfl rfl)
  | .neg t, h, ps, st => by
    show toldF g n ((t.po ++ [_]) ++ ps) st = toldF g n ps (st ++ [.int ((2 ^ n - 1 - t.v n gx gy : Nat) : Int)])
    rw [List.append_assoc, told_t hx hy lx ly hn t h, ← bnot_mod (t.v_lt lx ly)]
    exact toldF_step rfl (workF_T (G := gDen) (by decide) rfl rfl)
  | .times i t, h, ps, st => by
    show toldF g n ((t.po ++ [_]) ++ ps) st = toldF g n ps (st ++ [.int (((i * (t.v n gx gy : Int) % 2 ^ n).toNat : Nat) : Int)])
    rw [List.append_assoc, told_t hx hy lx ly hn t h.2, tn]
    refine toldF_step rfl (workF_T (G := gTimes) (by decide) rfl ?_)
    show (if i.natAbs < 1000 then some (V.int (i * (t.v n gx gy : Nat))) else none) = _
    rw [if_pos (by have := h.1; omega)]
  | .up i t, h, ps, st => by
    show toldF g n ((t.po ++ [_]) ++ ps) st = toldF g n ps (st ++ [.int ((t.v n gx gy * 2 ^ i % 2 ^ n : Nat) : Int)])
    rw [List.append_assoc, told_t hx hy lx ly hn t h.2, Int.natCast_emod, p2cast, Int.natCast_mul, p2cast]
    refine toldF_step rfl (workF_T (G := gUp) (by decide) rfl ?_)
    have hl : t.v n gx gy < 2 ^ 64 := Nat.lt_of_lt_of_le (t.v_lt lx ly) (Nat.pow_le_pow_right (by decide) (by omega))
    show (if 0 ≤ (i : Int) ∧ (i : Int) ≤ 1000 ∧ ((t.v n gx gy : Nat) : Int).natAbs < 2 ^ 64 then some (V.int ((t.v n gx gy : Nat) * 2 ^ (i : Int).toNat)) else none) = _
    rw [if_pos ⟨by omega, by have := h.1; omega, by rw [Int.natAbs_natCast]; exact hl⟩, Int.toNat_natCast]
  | .op o t u, h, ps, st => by
    show toldF g n ((t.po ++ (u.po ++ [_])) ++ ps) st = toldF g n ps (st ++ [.int ((o.f n (t.v n gx gy) (u.v n gx gy) : Nat) : Int)])
    rw [List.append_assoc, told_t hx hy lx ly hn t h.1, List.append_assoc, told_t hx hy lx ly hn u h.2, List.append_assoc]
    exact toldF_step rfl (op_work n (t.v_lt lx ly) (u.v_lt lx ly) o t.d u.d)
end
theorem nmOk_x : NmOk (nm "x") := ⟨_, _, rfl, fun _ => .inl rfl⟩
theorem nmOk_y : NmOk (nm "y") := ⟨_, _, rfl, fun _ => .inr rfl⟩
theorem nmOk_k {k : Str} {r : List D} (h : k ≠ "name") : NmOk (.tup (.str k :: r)) := ⟨_, _, rfl, fun z => absurd z h⟩
theorem nmOk_or {x : Str} (h : NmOk (nm x)) : x = "x" ∨ x = "y" := by
  obtain ⟨k, rest, e, hk⟩ := h
  unfold nm at e
  injection e with e
  injection e with e1 e2
  injection e1 with e1
  rcases hk e1.symm with r | r
  · rw [r] at e2; injection e2 with e2 _; injection e2 with e2; exact .inl e2
  · rw [r] at e2; injection e2 with e2 _; injection e2 with e2; exact .inr e2
theorem opS_ne (o : Op) : o.s ≠ "name" := by cases o <;> decide
theorem po_nm : ∀ (t : LT), ∀ p ∈ t.po, NmOk p.1
  | .x, p, h => by rw [List.mem_singleton.mp h]; exact nmOk_x
  | .y, p, h => by rw [List.mem_singleton.mp h]; exact nmOk_y
  | .num i, p, h => by rw [List.mem_singleton.mp h]; exact nmOk_k (by decide)
  | .neg t, p, h => by
    rcases List.mem_append.mp h with h | h
    · exact po_nm t p h
    · rw [List.mem_singleton.mp h]; exact nmOk_k (by decide)
  | .times i t, p, h => by
    rcases List.mem_append.mp h with h | h
    · exact po_nm t p h
    · rw [List.mem_singleton.mp h]; exact nmOk_k (by decide)
  | .up i t, p, h => by
    rcases List.mem_append.mp h with h | h
    · exact po_nm t p h
    · rw [List.mem_singleton.mp h]; exact nmOk_k (by decide)
  | .op o t u, p, h => by
    rcases List.mem_append.mp h with h | h
    · exact po_nm t p h
    · rcases List.mem_append.mp h with h | h
      · exact po_nm u p h
      · rw [List.mem_singleton.mp h]; exact nmOk_k (opS_ne o)
theorem oneF_of {g : Str → Option D} {n : Nat} {x : Str} {v : Nat} (h : g x = some (.int v)) (l : v < 2 ^ n) : oneF g n x = true := by
  unfold oneF
  rw [h]
  show (decide ((0 : Int) ≤ (v : Int)) && decide ((v : Int) < 2 ^ n)) = true
  have l' : (v : Int) < 2 ^ n := by rw [← p2cast n]; omega
  rw [decide_eq_true (by omega), decide_eq_true l']
  rfl
theorem two_shorts {d1 d2 : D} (h1 : Short d1) (h2 : Short d2) : Short (.tup [d1, d2]) := by
  unfold Short
  refine ⟨by show 2 ≤ 90; decide, ?_⟩
  unfold Shorts; refine ⟨h1, ?_⟩
  unfold Shorts; refine ⟨h2, ?_⟩
  unfold Shorts; trivial
theorem three_shorts {d1 d2 d3 : D} (h1 : Short d1) (h2 : Short d2) (h3 : Short d3) : Short (.tup [d1, d2, d3]) := by
  unfold Short
  refine ⟨by show 3 ≤ 90; decide, ?_⟩
  unfold Shorts; refine ⟨h1, ?_⟩
  unfold Shorts; refine ⟨h2, ?_⟩
  unfold Shorts; refine ⟨h3, ?_⟩
  unfold Shorts; trivial
theorem s_str {x : Str} (h : x.length ≤ 100) : Short (.str x) := by unfold Short; exact h
theorem s_int {x : Int} : Short (.int x) := by unfold Short; trivial
theorem lt_short : ∀ (t : LT), Short t.d
  | .x => two_shorts (s_str (by decide)) (s_str (by decide))
  | .y => two_shorts (s_str (by decide)) (s_str (by decide))
  | .num i => two_shorts (s_str (by decide)) s_int
  | .neg t => two_shorts (s_str (by decide)) (lt_short t)
  | .times i t => three_shorts (s_str (by decide)) s_int (lt_short t)
  | .up i t => three_shorts (s_str (by decide)) s_int (lt_short t)
  | .op o t u => three_shorts (s_str (by cases o <;> decide)) (lt_short t) (lt_short u)
end K8
namespace K8
open PySem PySem.Spec PyProof.Rows L2 LayT
/-! ### the law's formulas -/
inductive Cm where
  | eq | lt | bel
def Cm.s : Cm → Str
  | .eq => "equal"
  | .lt => "less"
  | .bel => "below"
inductive LF where
  | cmp (o : Cm) (t u : LT) | nt (f : LF) | bin (o : Bool) (f h : LF)
def bS (o : Bool) : Str := if o = true then "and" else "or"
def LF.d : LF → D
  | .cmp o t u => .tup [.str o.s, t.d, u.d]
  | .nt f => .tup [.str "not", f.d]
  | .bin o f h => .tup [.str (bS o), .tup [f.d, h.d]]
def LF.ok : LF → Prop
  | .cmp _ t u => (t.ok ∧ t.dp ≤ 2) ∧ u.ok ∧ u.dp ≤ 2
  | .nt f => f.ok
  | .bin _ f h => f.ok ∧ h.ok
def LF.dp : LF → Nat
  | .cmp _ _ _ => 0
  | .nt f => f.dp + 1
  | .bin _ f h => max f.dp h.dp + 1
theorem isF0_lf {d : D} (h : isF0 d) : ∃ f : LF, f.d = d ∧ f.ok ∧ f.dp = 0 := by
  obtain ⟨o, t, u, ho, ht, hu, rfl⟩ := h
  obtain ⟨t, rfl, k1, k2⟩ := isT_lt 2 ht
  obtain ⟨u, rfl, l1, l2⟩ := isT_lt 2 hu
  rcases ho with rfl | rfl | rfl
  · exact ⟨.cmp .eq t u, rfl, ⟨⟨k1, k2⟩, l1, l2⟩, rfl⟩
  · exact ⟨.cmp .lt t u, rfl, ⟨⟨k1, k2⟩, l1, l2⟩, rfl⟩
  · exact ⟨.cmp .bel t u, rfl, ⟨⟨k1, k2⟩, l1, l2⟩, rfl⟩
theorem isF_lf : ∀ (e : Nat) {d : D}, isF e d → ∃ f : LF, f.d = d ∧ f.ok ∧ f.dp ≤ e
  | 0, d, h => by
    obtain ⟨f, h1, h2, h3⟩ := isF0_lf h
    exact ⟨f, h1, h2, by omega⟩
  | e + 1, d, h => by
    rcases h with h | ⟨f, hf, rfl⟩ | ⟨o, f, h, ho, hf, hh, rfl⟩
    · obtain ⟨f, h1, h2, h3⟩ := isF0_lf h
      exact ⟨f, h1, h2, by omega⟩
    · obtain ⟨f, rfl, h2, h3⟩ := isF_lf e hf
      exact ⟨.nt f, rfl, h2, Nat.succ_le_succ h3⟩
    · obtain ⟨f, rfl, k2, k3⟩ := isF_lf e hf
      obtain ⟨h, rfl, l2, l3⟩ := isF_lf e hh
      have hd : ∀ o : Bool, (LF.bin o f h).dp ≤ e + 1 := fun o => Nat.succ_le_succ (Nat.max_le.mpr ⟨k3, l3⟩)
      rcases ho with rfl | rfl
      · exact ⟨.bin true f h, rfl, ⟨k2, l2⟩, hd _⟩
      · exact ⟨.bin false f h, rfl, ⟨k2, l2⟩, hd _⟩
/-- a word with its sign -/
def sg (n a : Nat) : Int := if 2 ^ (n - 1) ≤ a then (a : Int) - 2 * 2 ^ (n - 1) else a
def Cm.f (n : Nat) : Cm → Nat → Nat → Bool
  | .eq, a, b => decide (a = b)
  | .lt, a, b => decide (a < b)
  | .bel, a, b => decide (sg n a < sg n b)
def LF.v (n gx gy : Nat) : LF → Bool
  | .cmp o t u => o.f n (t.v n gx gy) (u.v n gx gy)
  | .nt f => !f.v n gx gy
  | .bin o f h => if o = true then f.v n gx gy && h.v n gx gy else f.v n gx gy || h.v n gx gy
def LF.po : LF → List (D × Nat)
  | .cmp o t u => t.po ++ (u.po ++ [(.tup [.str o.s, t.d, u.d], 2)])
  | .nt f => f.po ++ [(.tup [.str "not", f.d], 1)]
  | .bin o f h => f.po ++ (h.po ++ [(.tup [.str (bS o), .tup [f.d, h.d]], 2)])
theorem xor_sg {n a : Nat} (hn : 1 ≤ n) (h : a < 2 ^ n) : ((a ^^^ 2 ^ (n - 1) : Nat) : Int) = sg n a + 2 ^ (n - 1) := by
  obtain ⟨m, rfl⟩ : ∃ m, n = m + 1 := ⟨n - 1, by omega⟩
  rw [Nat.add_sub_cancel, xor_half h]
  unfold sg
  rw [Nat.add_sub_cancel]
  have := p2cast m
  split
  · rw [← this]; omega
  · rw [← this]; omega
theorem partsT_cmp (o : Cm) (t u : D) : partsF (.tup [.str o.s, t, u]) true = some [(t, false), (u, false)] := by cases o <;> rfl
theorem partsT_nt (f : D) : partsF (.tup [.str "not", f]) true = some [(f, true)] := rfl
theorem partsT_bin (o : Bool) (f h : D) : partsF (.tup [.str (bS o), .tup [f, h]]) true = some [(f, true), (h, true)] := by cases o <;> rfl
theorem ord_f : ∀ (f : LF), f.ok → ∀ (m : Nat) (found : List (D × Nat)) (waiting : List (D × Bool)), found.length + f.po.length ≤ 40 →
    ordL true (m + f.po.length) found (waiting ++ [(f.d, true)]) = ordL true m (found ++ f.po.reverse) waiting
  | .cmp o t u, h, m, found, waiting, hl => by
    rw [show LF.po (.cmp o t u) = t.po ++ (u.po ++ [(.tup [.str o.s, t.d, u.d], 2)]) from rfl, List.length_append, List.length_append, List.length_singleton] at hl ⊢
    rw [show m + (t.po.length + (u.po.length + 1)) = (m + t.po.length + u.po.length) + 1 by omega]
    refine (ordL_step (found := found) (waiting := waiting) (p := (.tup [.str o.s, t.d, u.d], true)) (partsT_cmp o t.d u.d) (fun _ => by omega)).trans ?_
    rw [show waiting ++ [(t.d, false), (u.d, false)] = (waiting ++ [(t.d, false)]) ++ [(u.d, false)] by rw [List.append_assoc]; rfl]
    refine (ord_t u h.2.1 (m + t.po.length) (found ++ [(.tup [.str o.s, t.d, u.d], 2)]) _ (fun z => by rw [List.length_append, List.length_singleton]; omega)).trans ?_
    refine (ord_t t h.1.1 m _ waiting (fun z => by rw [List.length_append, List.length_append, List.length_singleton, List.length_reverse]; omega)).trans ?_
    rw [List.reverse_append, List.reverse_append, List.append_assoc, List.append_assoc]; rfl
  | .nt f, h, m, found, waiting, hl => by
    rw [show LF.po (.nt f) = f.po ++ [(.tup [.str "not", f.d], 1)] from rfl, List.length_append, List.length_singleton] at hl ⊢
    refine (ordL_step (m := m + f.po.length) (found := found) (waiting := waiting) (p := (.tup [.str "not", f.d], true)) (partsT_nt f.d) (fun z => by omega)).trans ?_
    refine (ord_f f h m (found ++ [(.tup [.str "not", f.d], 1)]) waiting (by rw [List.length_append, List.length_singleton]; omega)).trans ?_
    rw [List.reverse_append, List.append_assoc]; rfl
  | .bin o f g, h, m, found, waiting, hl => by
    rw [show LF.po (.bin o f g) = f.po ++ (g.po ++ [(.tup [.str (bS o), .tup [f.d, g.d]], 2)]) from rfl, List.length_append, List.length_append, List.length_singleton] at hl ⊢
    rw [show m + (f.po.length + (g.po.length + 1)) = (m + f.po.length + g.po.length) + 1 by omega]
    refine (ordL_step (found := found) (waiting := waiting) (p := (.tup [.str (bS o), .tup [f.d, g.d]], true)) (partsT_bin o f.d g.d) (fun _ => by omega)).trans ?_
    rw [show waiting ++ [(f.d, true), (g.d, true)] = (waiting ++ [(f.d, true)]) ++ [(g.d, true)] by rw [List.append_assoc]; rfl]
    refine (ord_f g h.2 (m + f.po.length) (found ++ [(.tup [.str (bS o), .tup [f.d, g.d]], 2)]) _ (by rw [List.length_append, List.length_singleton]; omega)).trans ?_
    refine (ord_f f h.1 m _ waiting (by rw [List.length_append, List.length_append, List.length_singleton, List.length_reverse]; omega)).trans ?_
    rw [List.reverse_append, List.reverse_append, List.append_assoc, List.append_assoc]; rfl
theorem pof_len0 {f : LF} (h : f.ok) (hd : f.dp = 0) : f.po.length ≤ 15 := by
  cases f with
  | cmp o t u =>
    have h1 := po_len t
    have h2 := po_len u
    have h3 : 2 ^ (t.dp + 1) ≤ 2 ^ 3 := Nat.pow_le_pow_right (by decide) (by have := h.1.2; omega)
    have h4 : 2 ^ (u.dp + 1) ≤ 2 ^ 3 := Nat.pow_le_pow_right (by decide) (by have := h.2.2; omega)
    show (t.po ++ (u.po ++ [_])).length ≤ 15
    rw [List.length_append, List.length_append, List.length_singleton]; omega
  | nt f => cases hd
  | bin o f h => cases hd
theorem pof_len {f : LF} (h : f.ok) (hd : f.dp ≤ 1) : f.po.length ≤ 31 := by
  cases f with
  | cmp o t u => exact Nat.le_trans (pof_len0 h rfl) (by decide)
  | nt f =>
    have := pof_len0 (f := f) h (by have : f.dp + 1 ≤ 1 := hd; omega)
    show (f.po ++ [_]).length ≤ 31
    rw [List.length_append, List.length_singleton]; omega
  | bin o f g =>
    have hd' : max f.dp g.dp + 1 ≤ 1 := hd
    have h1 := pof_len0 (f := f) h.1 (by omega)
    have h2 := pof_len0 (f := g) h.2 (by omega)
    show (f.po ++ (g.po ++ [_])).length ≤ 31
    rw [List.length_append, List.length_append, List.length_singleton]; omega
theorem cm_work {n : Nat} (hn : 1 ≤ n) (hn2 : n ≤ 60) {a b : Nat} (ha : a < 2 ^ n) (hb : b < 2 ^ n) : ∀ (o : Cm) {g : Str → Option D} (t u : D), workF g n (.tup [.str o.s, t, u]) [.int a, .int b] = some (.bl (o.f n a b))
  | .eq, g, t, u => by
    refine (workF_F (g := g) (n := n) (r := [t, u]) (zs := [.int a, .int b]) (k := "equal") (G := gEq) (by decide) rfl rfl).trans ?_
    show some (V.bl (decide ((a : Int) = b))) = some (V.bl (decide (a = b)))
    congr 2
    exact decide_eq_decide.mpr Int.ofNat_inj
  | .lt, g, t, u => by
    refine (workF_F (g := g) (n := n) (r := [t, u]) (zs := [.int a, .int b]) (k := "less") (G := gLess) (by decide) rfl rfl).trans ?_
    show some (V.bl (decide ((a : Int) < b))) = some (V.bl (decide (a < b)))
    congr 2
    exact decide_eq_decide.mpr Int.ofNat_lt
  | .bel, g, t, u => by
    refine (workF_F (g := g) (n := n) (r := [t, u]) (zs := [.int a, .int b]) (k := "below") (G := gBel) (by decide) rfl rfl).trans ?_
    show (if 1 ≤ n ∧ n ≤ 1000 then some (V.bl (decide (Builtin.bitXor a (2 ^ (n - 1)) < Builtin.bitXor b (2 ^ (n - 1))))) else none) = some (V.bl (decide (sg n a < sg n b)))
    rw [if_pos ⟨hn, by omega⟩]
    congr 2
    rw [← p2cast, Bits.bitXor_pp (Int.natCast_nonneg _) (Int.natCast_nonneg _), Bits.bitXor_pp (Int.natCast_nonneg _) (Int.natCast_nonneg _), Int.toNat_natCast, Int.toNat_natCast, Int.toNat_natCast, xor_sg hn ha, xor_sg hn hb]
    exact decide_eq_decide.mpr (by omega)
theorem told_f {g : Str → Option D} {n gx gy : Nat} (hx : g "x" = some (.int gx)) (hy : g "y" = some (.int gy)) (lx : gx < 2 ^ n) (ly : gy < 2 ^ n) (h1 : 1 ≤ n) (hn : n ≤ 60) : ∀ (f : LF), f.ok → ∀ (ps : List (D × Nat)) (st : List V), toldF g n (f.po ++ ps) st = toldF g n ps (st ++ [.bl (f.v n gx gy)])
  | .cmp o t u, h, ps, st => by
    show toldF g n ((t.po ++ (u.po ++ [_])) ++ ps) st = toldF g n ps (st ++ [.bl (o.f n (t.v n gx gy) (u.v n gx gy))])
    rw [List.append_assoc, told_t hx hy lx ly hn t h.1.1, List.append_assoc, told_t hx hy lx ly hn u h.2.1, List.append_assoc]
    exact toldF_step rfl (cm_work h1 hn (t.v_lt lx ly) (u.v_lt lx ly) o t.d u.d)
  | .nt f, h, ps, st => by
    show toldF g n ((f.po ++ [_]) ++ ps) st = toldF g n ps (st ++ [.bl (!f.v n gx gy)])
    rw [List.append_assoc, told_f hx hy lx ly h1 hn f h]
    exact toldF_step rfl (workF_F (G := gTurn) (by decide) rfl rfl)
  | .bin o f k, h, ps, st => by
    show toldF g n ((f.po ++ (k.po ++ [_])) ++ ps) st = toldF g n ps (st ++ [.bl (if o = true then f.v n gx gy && k.v n gx gy else f.v n gx gy || k.v n gx gy)])
    rw [List.append_assoc, told_f hx hy lx ly h1 hn f h.1, List.append_assoc, told_f hx hy lx ly h1 hn k h.2, List.append_assoc]
    refine toldF_step (zs := [_, _]) rfl ?_
    cases o with
    | true =>
      refine (workF_F (g := g) (n := n) (r := [.tup [f.d, k.d]]) (zs := [.bl (f.v n gx gy), .bl (k.v n gx gy)]) (k := "and") (G := gEvery) (by decide) rfl rfl).trans ?_
      show some (V.bl (f.v n gx gy && (k.v n gx gy && true))) = _
      rw [Bool.and_true]; rfl
    | false =>
      refine (workF_F (g := g) (n := n) (r := [.tup [f.d, k.d]]) (zs := [.bl (f.v n gx gy), .bl (k.v n gx gy)]) (k := "or") (G := gSome) (by decide) rfl rfl).trans ?_
      show some (V.bl (f.v n gx gy || (k.v n gx gy || false))) = _
      rw [Bool.or_false]; rfl
theorem pof_nm : ∀ (f : LF), ∀ p ∈ f.po, NmOk p.1
  | .cmp o t u, p, h => by
    rcases List.mem_append.mp h with h | h
    · exact po_nm t p h
    · rcases List.mem_append.mp h with h | h
      · exact po_nm u p h
      · rw [List.mem_singleton.mp h]; exact nmOk_k (by cases o <;> decide)
  | .nt f, p, h => by
    rcases List.mem_append.mp h with h | h
    · exact pof_nm f p h
    · rw [List.mem_singleton.mp h]; exact nmOk_k (by decide)
  | .bin o f g, p, h => by
    rcases List.mem_append.mp h with h | h
    · exact pof_nm f p h
    · rcases List.mem_append.mp h with h | h
      · exact pof_nm g p h
      · rw [List.mem_singleton.mp h]; exact nmOk_k (by cases o <;> decide)
theorem lf_short : ∀ (f : LF), Short f.d
  | .cmp o t u => three_shorts (s_str (by cases o <;> decide)) (lt_short t) (lt_short u)
  | .nt f => two_shorts (s_str (by decide)) (lf_short f)
  | .bin o f h => two_shorts (s_str (by cases o <;> decide)) (two_shorts (lf_short f) (lf_short h))
/-! ### word_of of the law's terms, holds_at of its formulas -/
theorem wo_good {K : PySem.W.Frag} {H : Hp} {n gx gy : Nat} {tv : V} {a : Addr} {kvs : List (Key × V)} {g : Str → Option D} {t : LT} {CT CW : Addr} {Q : VK} {E : XK} (hok : t.ok) (hdp : t.dp ≤ 3) (hd : DAt H tv t.d) (h1 : 1 ≤ n) (hn : n ≤ 60) (ha : H a = some (.dK kvs)) (hv : VOk H kvs g)
    (hx : g "x" = some (.int gx)) (hy : g "y" = some (.int gy)) (lx : gx < 2 ^ n) (ly : gy < 2 ^ n) (k : ∀ H', Same H H' → Q (.int (t.v n gx gy : Nat)) H') : spWO false CT CW [tv, .int n, .ref a] H Q E := by
  have hlen : t.po.length ≤ 15 := by
    have h1 := po_len t
    have h3 : 2 ^ (t.dp + 1) ≤ 2 ^ 4 := Nat.pow_le_pow_right (by decide) (by omega)
    omega
  have hord : ordL false t.po.length [] [(t.d, false)] = some (some t.po.reverse) := by
    have := ord_t (b := false) t hok 0 [] [] (fun z => nomatch z)
    rw [Nat.zero_add, List.nil_append, List.nil_append] at this
    exact this
  have hk : okWidth (.int n) = true := by
    show (decide ((1 : Int) ≤ n) && decide ((n : Int) ≤ 200)) = true
    rw [decide_eq_true (by omega), decide_eq_true (by omega)]; rfl
  refine ⟨tv, .int n, a, t.d, .int n, t.po.length, some t.po.reverse, kvs, g, rfl, hd, lt_short t, DAt.i _, by omega, hord, ha, hv, fun z => (nomatch z), fun ps e => ?_⟩
  cases e
  refine ⟨fun z => (by rw [hk] at z; cases z), fun _ => ⟨n, rfl, by rw [List.length_reverse]; omega, by rw [List.reverse_reverse]; exact po_nm t, .inr ⟨fun x hx' => ?_, _, ?_, k⟩⟩⟩
  · rw [List.reverse_reverse] at hx'
    obtain ⟨p, hp, e⟩ := List.mem_map.mp hx'
    have := po_nm t p hp
    rw [e] at this
    rcases nmOk_or this with rfl | rfl
    · exact oneF_of hx lx
    · exact oneF_of hy ly
  · have := told_t (g := g) hx hy lx ly hn t hok [] []
    rw [List.append_nil, List.nil_append] at this
    rw [List.reverse_reverse, this]
    rfl
theorem ho_good {K : PySem.W.Frag} {H : Hp} {n gx gy : Nat} {tv : V} {a : Addr} {kvs : List (Key × V)} {g : Str → Option D} {f : LF} {CT CW : Addr} {Q : VK} {E : XK} (hok : f.ok) (hdp : f.dp ≤ 1) (hd : DAt H tv f.d) (h1 : 1 ≤ n) (hn : n ≤ 60) (ha : H a = some (.dK kvs)) (hv : VOk H kvs g)
    (hx : g "x" = some (.int gx)) (hy : g "y" = some (.int gy)) (lx : gx < 2 ^ n) (ly : gy < 2 ^ n) (k : ∀ H', Same H H' → Q (.bl (f.v n gx gy)) H') : spWO true CT CW [tv, .int n, .ref a] H Q E := by
  have hlen : f.po.length ≤ 31 := pof_len hok hdp
  have hord : ordL true f.po.length [] [(f.d, true)] = some (some f.po.reverse) := by
    have := ord_f f hok 0 [] [] (by show 0 + f.po.length ≤ 40; omega)
    rw [Nat.zero_add, List.nil_append, List.nil_append] at this
    exact this
  have hk : okWidth (.int n) = true := by
    show (decide ((1 : Int) ≤ n) && decide ((n : Int) ≤ 200)) = true
    rw [decide_eq_true (by omega), decide_eq_true (by omega)]; rfl
  refine ⟨tv, .int n, a, f.d, .int n, f.po.length, some f.po.reverse, kvs, g, rfl, hd, lf_short f, DAt.i _, by omega, hord, ha, hv, fun z => (nomatch z), fun ps e => ?_⟩
  cases e
  refine ⟨fun z => (by rw [hk] at z; cases z), fun _ => ⟨n, rfl, by rw [List.length_reverse]; omega, by rw [List.reverse_reverse]; exact pof_nm f, .inr ⟨fun x hx' => ?_, _, ?_, k⟩⟩⟩
  · rw [List.reverse_reverse] at hx'
    obtain ⟨p, hp, e⟩ := List.mem_map.mp hx'
    have := pof_nm f p hp
    rw [e] at this
    rcases nmOk_or this with rfl | rfl
    · exact oneF_of hx lx
    · exact oneF_of hy ly
  · have := told_f (g := g) hx hy lx ly h1 hn f hok [] []
    rw [List.append_nil, List.nil_append] at this
    rw [List.reverse_reverse, this]
    rfl
end K8
namespace K8
open PySem PySem.Spec PyProof.Rows L2 LayT
theorem DAt.two {H : Hp} {v : V} {d1 d2 : D} (h : DAt H v (.tup [d1, d2])) : ∃ a x y, v = .ref a ∧ H a = some (.tup [x, y]) ∧ DAt H x d1 ∧ DAt H y d2 := by
  obtain ⟨a, xs, rfl, ha, hds⟩ := h.tup
  obtain ⟨x, r, rfl, h1, hr⟩ := hds.cons
  obtain ⟨y, r2, rfl, h2, hr2⟩ := hr.cons
  obtain rfl := hr2.nil
  exact ⟨a, x, y, rfl, ha, h1, h2⟩
theorem DAt.three {H : Hp} {v : V} {d1 d2 d3 : D} (h : DAt H v (.tup [d1, d2, d3])) : ∃ a x y z, v = .ref a ∧ H a = some (.tup [x, y, z]) ∧ DAt H x d1 ∧ DAt H y d2 ∧ DAt H z d3 := by
  obtain ⟨a, xs, rfl, ha, hds⟩ := h.tup
  obtain ⟨x, r, rfl, h1, hr⟩ := hds.cons
  obtain ⟨y, r2, rfl, h2, hr2⟩ := hr.cons
  obtain ⟨z, r3, rfl, h3, hr3⟩ := hr2.cons
  obtain rfl := hr3.nil
  exact ⟨a, x, y, z, rfl, ha, h1, h2, h3⟩
theorem atm1_2 {x y : V} : atI [x, y] (-1) = some y := rfl
theorem atm1_3 {x y z : V} : atI [x, y, z] (-1) = some z := rfl
theorem bit_fm (a i : Nat) : (((a : Int) / 2 ^ i).fmod 2) = ((a / 2 ^ i % 2 : Nat) : Int) := by
  rw [← p2cast, Int.fmod_eq_emod_of_nonneg _ (by decide)]
  rfl
theorem fm_em (z : Int) (n : Nat) : z.fmod (2 ^ n) = ((z % 2 ^ n).toNat : Int) := by
  rw [tn, Int.fmod_eq_emod_of_nonneg _ (Int.le_of_lt (p2posI n))]
theorem p2ne (n : Nat) : (2 : Int) ^ n ≠ 0 := Int.ne_of_gt (p2posI n)
theorem bit_lt (a i : Nat) : a / 2 ^ i % 2 < 2 := Nat.mod_lt _ (by decide)
theorem cdiv {i : Int} {k : Nat} (h : k ≤ 60) : CDivW i (2 ^ k) := wide_div (p2posI k) (b := 61) (by
  rw [← p2cast, Int.natAbs_natCast]
  exact Nat.pow_lt_pow_right (by decide) (by omega)) (by decide) (by decide)
/-- what the law reckons bit by bit -/
def Op.g : Op → Nat → Nat → Nat
  | .and => min
  | .or => max
  | _ => fun x y => (x + y) % 2
section
variable {P : Program} {w : World} {K : PySem.W.Frag} {mg : Str → Option Value} {base : Heap}
def spLV (e : Nat) : Sp := fun vs H Q _ => ∃ (v : V) (a : Addr) (t : LT) (n gx gy : Nat) (kvs : List (Key × V)), vs = [v, .int n, .ref a] ∧ DAt H v t.d ∧ t.ok ∧ t.dp ≤ e ∧ n ≤ 60 ∧ H a = some (.dK kvs) ∧ valV kvs (Sum.inr "x" : Key) = some (.int gx) ∧ valV kvs (Sum.inr "y" : Key) = some (.int gy) ∧
  gx < 2 ^ n ∧ gy < 2 ^ n ∧ ∀ H', Same H H' → Q (.int (t.v n gx gy : Nat)) H'
abbrev nLV : List Str := ["term", "width", "values", "size", "kind", "one", "first", "found", "at", "bits", "bit"]
theorem scLV : FnScope nLV ["term", "width", "values"] (defScope sLVal) := ⟨rfl, rfl, rfl, by decide +kernel, rfl, by decide +kernel, by decide +kernel⟩
theorem ok_lv0 {f : Addr} {fd : FuncData} (F : Fun K "_law_value" "_law_value" sLVal f fd) (T : Txt K mg) : FnOk P w K mg base CX0 1 f fd ["term", "width", "values"] (spLV 0) := by
  refine F.ok scLV (fun vs H Q E h => ?_) (fun cdv A outer s H vs Q E hr h => ?_)
  · obtain ⟨v, a, t, n, gx, gy, kvs, rfl, _⟩ := h
    rfl
  obtain ⟨v, a, t, n, gx, gy, kvs, rfl, hd, hok, hdp, hn, ha, vx, vy, lx, ly, k⟩ := h
  have nd := scLV.nd
  have hu := hu_of hr
  refine ⟨_, pss_cons (ps_par (i := 3) (j := 4) (by rfl) nd rfl rfl (by decide) rfl rfl (pa_cons (pe_op op_oneShl pe_int (pv 1)) (pa_cons (pe_ix (ixT K) (pv 0) pe_int (fun _ _ => rfl)) pa_nil)) (by rfl))
    (pss_cons (ps_if (pt_cmpR op_eq (pv 4) pe_str (nomark _)) (pss_one (ps_ret (pe_dget hu (pv 2) (pe_ix (ixT K) (pv 0) pe_int (fun _ _ => rfl)) (fun _ _ => rfl)))) pss_nil)
    (pss_cons (ps_if (pt_cmpR op_eq (pv 4) pe_str (nomark _)) (pss_one (ps_ret (pe_op op_modN (pe_callTy call_int1 (by rfl) T.int (by decide +kernel) (pa_cons (pe_ix (ixT K) (pv 0) pe_int (fun _ _ => rfl)) pa_nil)) (pv 3)))) pss_nil)
    (pss_cons ps_never (pss_cons ps_never (pss_cons ps_never (pss_cons ps_never (pss_cons ps_never (pss_cons ps_never (pss_cons ps_never (pss_cons ps_never (pss_one ps_never))))))))))), ?_⟩
  cases t with
  | x =>
    obtain ⟨a0, z0, z1, rfl, ha0, h0, h1⟩ := DAt.two (d1 := .str "name") (d2 := .str "x") hd
    obtain rfl := h0.str
    obtain rfl := h1.str
    refine ⟨_, rfl, n, rfl, rfl, by omega, _, rfl, a0, _, 0, _, rfl, rfl, SqT.of ha0, at0, _, _, rfl, ?_⟩
    refine ⟨_, rfl, rfl, _, rfl, ?_⟩
    rw [dec_str]
    have hg := DGet.k (k := (Sum.inr "x" : Key)) ha
    rw [vx] at hg
    exact iteT ⟨_, rfl, _, rfl, a0, _, 1, _, rfl, rfl, SqT.of ha0, at1, a, _, rfl, hg, k H (Same.refl H)⟩
  | y =>
    obtain ⟨a0, z0, z1, rfl, ha0, h0, h1⟩ := DAt.two (d1 := .str "name") (d2 := .str "y") hd
    obtain rfl := h0.str
    obtain rfl := h1.str
    refine ⟨_, rfl, n, rfl, rfl, by omega, _, rfl, a0, _, 0, _, rfl, rfl, SqT.of ha0, at0, _, _, rfl, ?_⟩
    refine ⟨_, rfl, rfl, _, rfl, ?_⟩
    rw [dec_str]
    have hg := DGet.k (k := (Sum.inr "y" : Key)) ha
    rw [vy] at hg
    exact iteT ⟨_, rfl, _, rfl, a0, _, 1, _, rfl, rfl, SqT.of ha0, at1, a, _, rfl, hg, k H (Same.refl H)⟩
  | num i =>
    obtain ⟨a0, z0, z1, rfl, ha0, h0, h1⟩ := DAt.two (d1 := .str "number") (d2 := .int i) hd
    obtain rfl := h0.str
    obtain rfl := h1.int
    refine ⟨_, rfl, n, rfl, rfl, by omega, _, rfl, a0, _, 0, _, rfl, rfl, SqT.of ha0, at0, _, _, rfl, ?_⟩
    refine ⟨_, rfl, rfl, _, rfl, ?_⟩
    rw [dec_str]
    refine iteF ⟨_, rfl, rfl, _, rfl, ?_⟩
    rw [dec_str]
    refine iteT ⟨_, rfl, a0, _, 1, _, rfl, rfl, SqT.of ha0, at1, .inl ⟨_, rfl, _, rfl, _, _, rfl, rfl, p2ne n, ?_⟩⟩
    show Q (.int (i.fmod (2 ^ n))) H
    rw [fm_em]
    exact k H (Same.refl H)
  | neg t => exact absurd hdp (by show ¬ t.dp + 1 ≤ 0; omega)
  | times i t => exact absurd hdp (by show ¬ t.dp + 1 ≤ 0; omega)
  | up i t => exact absurd hdp (by show ¬ t.dp + 1 ≤ 0; omega)
  | op o t u => exact absurd hdp (by show ¬ max t.dp u.dp + 1 ≤ 0; omega)
end
end K8
namespace K8
open PySem PySem.Spec PyProof.Rows L2 LayT
theorem mul_em {a i n : Nat} : ((a : Int) * 2 ^ i).fmod (2 ^ n) = ((a * 2 ^ i % 2 ^ n : Nat) : Int) := by
  rw [Int.fmod_eq_emod_of_nonneg _ (Int.le_of_lt (p2posI n)), Int.natCast_emod, p2cast, Int.natCast_mul, p2cast]
theorem g_le (o : Op) {x y : Nat} (hx : x < 2) (hy : y < 2) : o.g x y < 2 := by
  cases o with
  | and => exact Nat.lt_of_le_of_lt (Nat.min_le_left x y) hx
  | or => exact Nat.max_lt.mpr ⟨hx, hy⟩
  | add => exact Nat.mod_lt _ (by decide)
  | sub => exact Nat.mod_lt _ (by decide)
  | xor => exact Nat.mod_lt _ (by decide)
theorem cmp_ne {x y : Str} (h : x ≠ y) : decide (x = y) = false := decide_eq_false h
section
variable {P : Program} {w : World} {K : PySem.W.Frag} {mg : Str → Option Value} {base : Heap}
theorem ok_lv1 {e : Nat} {f : Addr} {fd : FuncData} (F : Fun K "_law_value" "_law_value" sLVal f fd) (T : Txt K mg) (DF : Dfn P w K mg base "_law_value" (e + 1) ["term", "width", "values"] (spLV e) f fd) : FnOk P w K mg base CX0 (e + 2) f fd ["term", "width", "values"] (spLV (e + 1)) := by
  refine F.ok scLV (fun vs H Q E h => ?_) (fun cdv A outer s H vs Q E hr h => ?_)
  · obtain ⟨v, a, t, n, gx, gy, kvs, rfl, _⟩ := h
    rfl
  obtain ⟨v, a, t, n, gx, gy, kvs, rfl, hd, hok, hdp, hn, ha, vx, vy, lx, ly, k⟩ := h
  have nd := scLV.nd
  have hu := hu_of hr
  refine ⟨_, pss_cons (ps_par (i := 3) (j := 4) (by rfl) nd rfl rfl (by decide) rfl rfl (pa_cons (pe_op op_oneShl pe_int (pv 1)) (pa_cons (pe_ix (ixT K) (pv 0) pe_int (fun _ _ => rfl)) pa_nil)) (by rfl))
    (pss_cons (ps_if (pt_cmpR op_eq (pv 4) pe_str (nomark _)) (pss_one (ps_ret (pe_dget hu (pv 2) (pe_ix (ixT K) (pv 0) pe_int (fun _ _ => rfl)) (fun _ _ => rfl)))) pss_nil)
    (pss_cons (ps_if (pt_cmpR op_eq (pv 4) pe_str (nomark _)) (pss_one (ps_ret (pe_op op_modN (pe_callTy call_int1 (by rfl) T.int (by decide +kernel) (pa_cons (pe_ix (ixT K) (pv 0) pe_int (fun _ _ => rfl)) pa_nil)) (pv 3)))) pss_nil)
    (pss_cons (ps_set (i := 5) nd rfl (.inl rfl) (pcl DF hr (pa_cons (pe_ix (ixT K) (pv 0) (pe_un un_neg pe_int) (fun _ _ => rfl)) (pa_cons (pv 1) (pa_cons (pv 2) pa_nil)))))
    (pss_cons (ps_if (pt_cmpR op_eq (pv 4) pe_str (nomark _)) (pss_one (ps_ret (pe_op op_sub (pe_op op_sub (pv 3) pe_int) (pv 5)))) pss_nil)
    (pss_cons (ps_if (pt_cmpR op_eq (pv 4) pe_str (nomark _)) (pss_one (ps_ret (pe_op op_modN (pe_callTy call_int1 (by rfl) T.int (by decide +kernel) (pa_cons (pe_op op_mul (pe_ix (ixT K) (pv 0) pe_int (fun _ _ => rfl)) (pv 5)) pa_nil)) (pv 3)))) pss_nil)
    (pss_cons (ps_if (pt_cmpR op_eq (pv 4) pe_str (nomark _)) (pss_one (ps_ret (pe_op op_modN (pe_callTy call_int1 (by rfl) T.int (by decide +kernel) (pa_cons (pe_op op_mul (pv 5) (pe_op op_oneShl pe_int (pe_ix (ixT K) (pv 0) pe_int (fun _ _ => rfl)))) pa_nil)) (pv 3)))) pss_nil)
    (pss_cons (ps_set (i := 6) nd rfl (.inl rfl) (pcl DF hr (pa_cons (pe_ix (ixT K) (pv 0) pe_int (fun _ _ => rfl)) (pa_cons (pv 1) (pa_cons (pv 2) pa_nil)))))
    (pss_cons (ps_if (pt_cmpR (inSK K) (pv 4) (ptup (pa_cons pe_str (pa_cons pe_str pa_nil))) (by rfl)) (pss_one (ps_ret (pe_op op_modN (pe_callTy call_int1 (by rfl) T.int (by decide +kernel) (pa_cons (pe_ifExp (pt_cmpR op_eq (pv 4) pe_str (nomark _)) (pe_op op_add (pv 6) (pv 5)) (pe_op op_sub (pv 6) (pv 5))) pa_nil)) (pv 3)))) pss_nil)
    (pss_cons (ps_set (i := 7) nd rfl (.inl rfl) pe_int)
    (pss_cons (ps_for PassesOwn.never rfl (pi_range1 rfl T.range (pa_cons (pv 1) pa_nil)) (pg_name (i := 8) nd rfl (.inl rfl))
      (pss_cons (ps_set (i := 9) nd rfl (.inl rfl) (ptup (pa_cons (pe_op op_modN (pe_op op_fdivW (pv 6) (pe_op op_oneShl pe_int (pv 8))) pe_int) (pa_cons (pe_op op_modN (pe_op op_fdivW (pv 5) (pe_op op_oneShl pe_int (pv 8))) pe_int) pa_nil))))
      (pss_cons (ps_set (i := 10) nd rfl (.inl rfl) (pe_ifExp (pt_cmpR op_eq (pv 4) pe_str (nomark _)) (pe_callB (cr_minT rfl) (by rfl) T.min (by decide +kernel) (pa_cons (pv 9) pa_nil))
        (pe_ifExp (pt_cmpR op_eq (pv 4) pe_str (nomark _)) (pe_callB (cr_maxT rfl) (by rfl) T.max (by decide +kernel) (pa_cons (pv 9) pa_nil))
          (pe_op op_modN (pe_op op_add (pe_ix (ixT K) (pv 9) pe_int (fun _ _ => rfl)) (pe_ix (ixT K) (pv 9) pe_int (fun _ _ => rfl))) pe_int))))
      (pss_one (ps_set (i := 7) nd rfl (.inl rfl) (pe_op op_add (pv 7) (pe_op op_mul (pv 10) (pe_op op_oneShl pe_int (pv 8)))))))))
    (pss_one (ps_ret (pv 7))))))))))))), ?_⟩
  cases t with
  | x =>
    obtain ⟨a0, z0, z1, rfl, ha0, h0, h1⟩ := DAt.two (d1 := .str "name") (d2 := .str "x") hd
    obtain rfl := h0.str
    obtain rfl := h1.str
    refine ⟨_, rfl, n, rfl, rfl, by omega, _, rfl, a0, _, 0, _, rfl, rfl, SqT.of ha0, at0, _, _, rfl, ?_⟩
    refine ⟨_, rfl, rfl, _, rfl, ?_⟩
    rw [dec_str]
    have hg := DGet.k (k := (Sum.inr "x" : Key)) ha
    rw [vx] at hg
    exact iteT ⟨_, rfl, _, rfl, a0, _, 1, _, rfl, rfl, SqT.of ha0, at1, a, _, rfl, hg, k H (Same.refl H)⟩
  | y =>
    obtain ⟨a0, z0, z1, rfl, ha0, h0, h1⟩ := DAt.two (d1 := .str "name") (d2 := .str "y") hd
    obtain rfl := h0.str
    obtain rfl := h1.str
    refine ⟨_, rfl, n, rfl, rfl, by omega, _, rfl, a0, _, 0, _, rfl, rfl, SqT.of ha0, at0, _, _, rfl, ?_⟩
    refine ⟨_, rfl, rfl, _, rfl, ?_⟩
    rw [dec_str]
    have hg := DGet.k (k := (Sum.inr "y" : Key)) ha
    rw [vy] at hg
    exact iteT ⟨_, rfl, _, rfl, a0, _, 1, _, rfl, rfl, SqT.of ha0, at1, a, _, rfl, hg, k H (Same.refl H)⟩
  | num i =>
    obtain ⟨a0, z0, z1, rfl, ha0, h0, h1⟩ := DAt.two (d1 := .str "number") (d2 := .int i) hd
    obtain rfl := h0.str
    obtain rfl := h1.int
    refine ⟨_, rfl, n, rfl, rfl, by omega, _, rfl, a0, _, 0, _, rfl, rfl, SqT.of ha0, at0, _, _, rfl, ?_⟩
    refine ⟨_, rfl, rfl, _, rfl, ?_⟩
    rw [dec_str]
    refine iteF ⟨_, rfl, rfl, _, rfl, ?_⟩
    rw [dec_str]
    refine iteT ⟨_, rfl, a0, _, 1, _, rfl, rfl, SqT.of ha0, at1, .inl ⟨_, rfl, _, rfl, _, _, rfl, rfl, p2ne n, ?_⟩⟩
    show Q (.int (i.fmod (2 ^ n))) H
    rw [fm_em]
    exact k H (Same.refl H)
  | neg t =>
    obtain ⟨a0, z0, z1, rfl, ha0, h0, h1⟩ := DAt.two (d1 := .str "~") (d2 := t.d) hd
    obtain rfl := h0.str
    refine ⟨_, rfl, n, rfl, rfl, by omega, _, rfl, a0, _, 0, _, rfl, rfl, SqT.of ha0, at0, _, _, rfl, ?_⟩
    refine ⟨_, rfl, rfl, _, rfl, ?_⟩
    rw [dec_str]
    refine iteF ⟨_, rfl, rfl, _, rfl, ?_⟩
    rw [dec_str]
    refine iteF ⟨_, rfl, _, rfl, a0, _, -1, _, rfl, rfl, SqT.of ha0, atm1_2, _, rfl, _, rfl, z1, a, t, n, gx, gy, kvs, rfl, h1, hok, Nat.le_of_succ_le_succ hdp, hn, ha, vx, vy, lx, ly, fun H1 s1 => ?_⟩
    refine ⟨_, rfl, rfl, _, rfl, ?_⟩
    rw [dec_str]
    refine iteT ⟨_, rfl, _, _, rfl, rfl, _, rfl, _, _, rfl, rfl, ?_⟩
    have hv := t.v_lt lx ly
    have e1 : (2 : Int) ^ n - 1 - (t.v n gx gy : Nat) = ((LT.neg t).v n gx gy : Nat) := by
      show _ = ((2 ^ n - 1 - t.v n gx gy : Nat) : Int)
      rw [← p2cast n]; omega
    show Q (.int ((2 : Int) ^ n - 1 - (t.v n gx gy : Nat))) H1
    rw [e1]
    exact k H1 s1
  | times i t =>
    obtain ⟨a0, z0, z1, z2, rfl, ha0, h0, h1, h2⟩ := DAt.three (d1 := .str "times") (d2 := .int i) (d3 := t.d) hd
    obtain rfl := h0.str
    obtain rfl := h1.int
    refine ⟨_, rfl, n, rfl, rfl, by omega, _, rfl, a0, _, 0, _, rfl, rfl, SqT.of ha0, at0, _, _, rfl, ?_⟩
    refine ⟨_, rfl, rfl, _, rfl, ?_⟩
    rw [dec_str]
    refine iteF ⟨_, rfl, rfl, _, rfl, ?_⟩
    rw [dec_str]
    refine iteF ⟨_, rfl, _, rfl, a0, _, -1, _, rfl, rfl, SqT.of ha0, atm1_3, _, rfl, _, rfl, z2, a, t, n, gx, gy, kvs, rfl, h2, hok.2, Nat.le_of_succ_le_succ hdp, hn, ha, vx, vy, lx, ly, fun H1 s1 => ?_⟩
    refine ⟨_, rfl, rfl, _, rfl, ?_⟩
    rw [dec_str]
    refine iteF ⟨_, rfl, rfl, _, rfl, ?_⟩
    rw [dec_str]
    have h4 := hok.1
    refine iteT ⟨_, rfl, a0, _, 1, _, rfl, rfl, SqT.of (s1 _ _ ha0), at1, _, rfl, _, _, rfl, rfl, .inl ⟨by omega, by omega⟩, .inl ⟨_, rfl, _, rfl, _, _, rfl, rfl, p2ne n, ?_⟩⟩
    show Q (.int ((i * (t.v n gx gy : Nat)).fmod (2 ^ n))) H1
    rw [fm_em]
    exact k H1 s1
  | up i t =>
    obtain ⟨a0, z0, z1, z2, rfl, ha0, h0, h1, h2⟩ := DAt.three (d1 := .str "up") (d2 := .int (i : Int)) (d3 := t.d) hd
    obtain rfl := h0.str
    obtain rfl := h1.int
    refine ⟨_, rfl, n, rfl, rfl, by omega, _, rfl, a0, _, 0, _, rfl, rfl, SqT.of ha0, at0, _, _, rfl, ?_⟩
    refine ⟨_, rfl, rfl, _, rfl, ?_⟩
    rw [dec_str]
    refine iteF ⟨_, rfl, rfl, _, rfl, ?_⟩
    rw [dec_str]
    refine iteF ⟨_, rfl, _, rfl, a0, _, -1, _, rfl, rfl, SqT.of ha0, atm1_3, _, rfl, _, rfl, z2, a, t, n, gx, gy, kvs, rfl, h2, hok.2, Nat.le_of_succ_le_succ hdp, hn, ha, vx, vy, lx, ly, fun H1 s1 => ?_⟩
    refine ⟨_, rfl, rfl, _, rfl, ?_⟩
    rw [dec_str]
    refine iteF ⟨_, rfl, rfl, _, rfl, ?_⟩
    rw [dec_str]
    refine iteF ⟨_, rfl, rfl, _, rfl, ?_⟩
    rw [dec_str]
    have h4 := hok.1
    have h5 : (2 : Int) ^ i ≤ 2 ^ 2 := by
      rw [← p2cast, ← p2cast]
      exact Int.ofNat_le.mpr (Nat.pow_le_pow_right (by decide) h4)
    have h6 := p2posI i
    refine iteT ⟨_, rfl, _, rfl, a0, _, 1, _, rfl, rfl, SqT.of (s1 _ _ ha0), at1, i, rfl, rfl, by omega, _, _, rfl, rfl, .inr ⟨by omega, by omega⟩, .inl ⟨_, rfl, _, rfl, _, _, rfl, rfl, p2ne n, ?_⟩⟩
    show Q (.int (((t.v n gx gy : Nat) * 2 ^ i : Int).fmod (2 ^ n))) H1
    rw [mul_em]
    exact k H1 s1
  | op o t u =>
    obtain ⟨a0, z0, z1, z2, rfl, ha0, h0, h1, h2⟩ := DAt.three (d1 := .str o.s) (d2 := t.d) (d3 := u.d) hd
    obtain rfl := h0.str
    have hd1 : t.dp ≤ e ∧ u.dp ≤ e := Nat.max_le.mp (Nat.le_of_succ_le_succ hdp)
    refine ⟨_, rfl, n, rfl, rfl, by omega, _, rfl, a0, _, 0, _, rfl, rfl, SqT.of ha0, at0, _, _, rfl, ?_⟩
    refine ⟨_, rfl, rfl, _, rfl, ?_⟩
    rw [dec_str, cmp_ne (opS_ne o)]
    refine iteF ⟨_, rfl, rfl, _, rfl, ?_⟩
    rw [dec_str, cmp_ne (show o.s ≠ "number" by cases o <;> decide)]
    refine iteF ⟨_, rfl, _, rfl, a0, _, -1, _, rfl, rfl, SqT.of ha0, atm1_3, _, rfl, _, rfl, z2, a, u, n, gx, gy, kvs, rfl, h2, hok.2, hd1.2, hn, ha, vx, vy, lx, ly, fun H1 s1 => ?_⟩
    refine ⟨_, rfl, rfl, _, rfl, ?_⟩
    rw [dec_str, cmp_ne (show o.s ≠ "~" by cases o <;> decide)]
    refine iteF ⟨_, rfl, rfl, _, rfl, ?_⟩
    rw [dec_str, cmp_ne (show o.s ≠ "times" by cases o <;> decide)]
    refine iteF ⟨_, rfl, rfl, _, rfl, ?_⟩
    rw [dec_str, cmp_ne (show o.s ≠ "up" by cases o <;> decide)]
    refine iteF ⟨_, rfl, a0, _, 1, _, rfl, rfl, SqT.of (s1 _ _ ha0), at1, _, rfl, _, rfl, z1, a, t, n, gx, gy, kvs, rfl, h1.same s1, hok.1, hd1.1, hn, s1 _ _ ha, vx, vy, lx, ly, fun H2 s2 => ?_⟩
    have s12 := s1.trans s2
    have hA := t.v_lt lx ly
    have hB := u.v_lt lx ly
    have k' : ∀ H', Same H H' → Q (.int (o.f n (t.v n gx gy) (u.v n gx gy) : Nat)) H' := k
    clear k
    generalize t.v n gx gy = va at hA k' ⊢
    generalize u.v n gx gy = vb at hB k' ⊢
    refine ⟨_, rfl, rd_t2 fun q H3 s3 hq => ⟨q, _, rfl, .inr (SqT.of hq), rfl, rfl, _, rfl, ?_⟩⟩
    have s13 := s12.trans s3
    show if inV (.str o.s) [.str "+", .str "-"] = true then _ else _
    by_cases o1 : o = .add
    · subst o1
      refine iteT ⟨_, rfl, rfl, _, rfl, iteT ⟨_, rfl, _, rfl, _, _, rfl, rfl, .inl ⟨_, rfl, _, rfl, _, _, rfl, rfl, p2ne n, ?_⟩⟩⟩
      show Q (.int (((va : Int) + vb).fmod (2 ^ n))) H3
      rw [Int.fmod_eq_emod_of_nonneg _ (Int.le_of_lt (p2posI n))]
      have e1 : ((Op.f n .add va vb : Nat) : Int) = ((va : Int) + vb) % 2 ^ n := by
        show (((va + vb) % 2 ^ n : Nat) : Int) = _
        rw [Int.natCast_emod, p2cast, Int.natCast_add]
      rw [← e1]
      exact k' H3 s13
    by_cases o2 : o = .sub
    · subst o2
      refine iteT ⟨_, rfl, rfl, _, rfl, iteF ⟨_, rfl, _, rfl, _, _, rfl, rfl, .inl ⟨_, rfl, _, rfl, _, _, rfl, rfl, p2ne n, ?_⟩⟩⟩
      show Q (.int (((va : Int) - vb).fmod (2 ^ n))) H3
      rw [fm_em]
      exact k' H3 s13
    rw [show inV (.str o.s) [.str "+", .str "-"] = false by
      cases o with
      | add => exact absurd rfl o1
      | sub => exact absurd rfl o2
      | _ => rfl]
    have hf : bitSum o.g va vb n = o.f n va vb := by
      cases o with
      | add => exact absurd rfl o1
      | sub => exact absurd rfl o2
      | and => exact (sum_and va vb n).trans (Nat.mod_eq_of_lt (Nat.and_lt_two_pow va hB))
      | or => exact (sum_or va vb n).trans (Nat.mod_eq_of_lt (Nat.or_lt_two_pow hA hB))
      | xor => exact (sum_xor va vb n).trans (Nat.mod_eq_of_lt (Nat.xor_lt_two_pow hA hB))
    refine iteF ⟨_, rfl, _, rfl, by omega, by omega, ?_⟩
    refine for_range (n := ((n : Nat) : Int).toNat) (fun i σ' G => ∃ o8 o9 o10, σ' = [some (.ref a0), some (.int n), some (.ref a), some (.int (2 ^ n)), some (.str o.s), some (.int vb), some (.int va), some (.int (bitSum o.g va vb i : Nat)), o8, o9, o10] ∧ Same H G)
      ⟨_, _, _, rfl, s13⟩ ?_ ?_
    · rintro i σ' G hi ⟨o8, o9, o10, rfl, sG⟩
      have hi' : i < n := by omega
      have ei : V.int (0 + (i : Int)) = V.int i := by rw [Int.zero_add]
      refine ⟨_, rfl, _, rfl, i, rfl, ei, by omega, _, _, rfl, rfl, cdiv (by omega), _, _, rfl, rfl, (show (2 : Int) ≠ 0 by decide), ?_⟩
      refine ⟨_, rfl, _, rfl, i, rfl, ei, by omega, _, _, rfl, rfl, cdiv (by omega), _, _, rfl, rfl, (show (2 : Int) ≠ 0 by decide), ?_⟩
      refine rd_t2 fun q1 G1 sq hq1 => ?_
      dsimp only at hq1
      rw [bit_fm, bit_fm] at hq1
      have b1 := bit_lt va i
      have b2 := bit_lt vb i
      have fin : ∀ (z : Int), z = (o.g (va / 2 ^ i % 2) (vb / 2 ^ i % 2) : Nat) → ∃ o8 o9 o10, ([some (.ref a0), some (.int n), some (.ref a), some (.int (2 ^ n)), some (.str o.s), some (.int vb), some (.int va), some (.int ((bitSum o.g va vb i : Nat) + z * 2 ^ i)), some (.int (0 + (i : Int))), some (.ref q1), some (.int z)] : L2.St) =
          [some (.ref a0), some (.int n), some (.ref a), some (.int (2 ^ n)), some (.str o.s), some (.int vb), some (.int va), some (.int (bitSum o.g va vb (i + 1) : Nat)), o8, o9, o10] ∧ Same H G1 := fun z hz => by
        have : (bitSum o.g va vb (i + 1) : Nat) = ((bitSum o.g va vb i : Nat) : Int) + z * 2 ^ i := by
          show ((bitSum o.g va vb i + o.g (va / 2 ^ i % 2) (vb / 2 ^ i % 2) * 2 ^ i : Nat) : Int) = _
          rw [hz, Int.natCast_add, Int.natCast_mul, p2cast]
        rw [this]
        exact ⟨_, _, _, rfl, sG.trans sq⟩
      have tail : ∀ (z : Int), z = (o.g (va / 2 ^ i % 2) (vb / 2 ^ i % 2) : Nat) → -(2 ^ 64) < z ∧ z < 2 ^ 64 := fun z hz => by
        have := g_le o b1 b2
        omega
      generalize va / 2 ^ i % 2 = x at *
      generalize vb / 2 ^ i % 2 = y at *
      cases o with
      | add => exact absurd rfl o1
      | sub => exact absurd rfl o2
      | and =>
        refine ⟨_, rfl, rfl, _, rfl, iteT ⟨_, rfl, q1, [(x : Int), (y : Int)], rfl, SqT.of hq1, (Nat.succ_pos 1), fun m hm hle => ?_⟩⟩
        have hz : m = ((min x y : Nat) : Int) := by
          have h1 := hle x (by simp)
          have h2 := hle y (by simp)
          rcases List.mem_cons.mp hm with h | h
          · omega
          · have := List.mem_singleton.mp h
            omega
        exact ⟨_, rfl, _, rfl, _, rfl, i, rfl, ei, by omega, _, _, rfl, rfl, .inl ⟨by have := tail m hz; omega, by have := tail m hz; omega⟩, _, _, rfl, rfl, fin m hz⟩
      | or =>
        refine ⟨_, rfl, rfl, _, rfl, iteF ⟨_, rfl, rfl, _, rfl, iteT ⟨_, rfl, q1, [(x : Int), (y : Int)], rfl, SqT.of hq1, (Nat.succ_pos 1), fun m hm hle => ?_⟩⟩⟩
        have hz : m = ((max x y : Nat) : Int) := by
          have h1 := hle x (by simp)
          have h2 := hle y (by simp)
          rcases List.mem_cons.mp hm with h | h
          · omega
          · have := List.mem_singleton.mp h
            omega
        exact ⟨_, rfl, _, rfl, _, rfl, i, rfl, ei, by omega, _, _, rfl, rfl, .inl ⟨by have := tail m hz; omega, by have := tail m hz; omega⟩, _, _, rfl, rfl, fin m hz⟩
      | xor =>
        have hz : ((x : Int) + y).fmod 2 = (((x + y) % 2 : Nat) : Int) := by
          rw [Int.fmod_eq_emod_of_nonneg _ (by decide)]
          omega
        refine ⟨_, rfl, rfl, _, rfl, iteF ⟨_, rfl, rfl, _, rfl, iteF ⟨_, rfl, q1, _, 0, _, rfl, rfl, SqT.of hq1, at0, _, rfl, q1, _, 1, _, rfl, rfl, SqT.of hq1, at1, _, _, rfl, rfl, _, _, rfl, rfl, (show (2 : Int) ≠ 0 by decide), ?_⟩⟩⟩
        exact ⟨_, rfl, _, rfl, _, rfl, i, rfl, ei, by omega, _, _, rfl, rfl, .inl ⟨by have := tail _ hz; omega, by have := tail _ hz; omega⟩, _, _, rfl, rfl, fin _ hz⟩
    · rintro σ' G ⟨o8, o9, o10, rfl, sG⟩
      refine ⟨_, rfl, ?_⟩
      show Q (.int (bitSum o.g va vb ((n : Nat) : Int).toNat : Nat)) G
      rw [Int.toNat_natCast, hf]
      exact k' G sG
theorem ok_lv {f : Addr} {fd : FuncData} (F : Fun K "_law_value" "_law_value" sLVal f fd) (T : Txt K mg) (mgf : mg "_law_value" = some (.ref f)) (kp : PySem.W.keepIn K (.ref f) = true) (bF : Binds K fd ["term", "width", "values"] []) :
    ∀ e, FnOk P w K mg base CX0 (e + 1) f fd ["term", "width", "values"] (spLV e)
  | 0 => ok_lv0 F T
  | e + 1 => ok_lv1 F T ⟨ok_lv F T mgf kp bF e, mgf, kp, bF⟩
end
end K8
namespace K8
open PySem PySem.Spec PyProof.Rows L2 LayT
section
variable {P : Program} {w : World} {K : PySem.W.Frag} {mg : Str → Option Value} {base : Heap}
def spLH (e : Nat) : Sp := fun vs H Q _ => ∃ (v : V) (a : Addr) (t : LF) (n gx gy : Nat) (kvs : List (Key × V)), vs = [v, .int n, .ref a] ∧ DAt H v t.d ∧ t.ok ∧ t.dp ≤ e ∧ 1 ≤ n ∧ n ≤ 60 ∧ H a = some (.dK kvs) ∧ valV kvs (Sum.inr "x" : Key) = some (.int gx) ∧ valV kvs (Sum.inr "y" : Key) = some (.int gy) ∧
  gx < 2 ^ n ∧ gy < 2 ^ n ∧ ∀ H', Same H H' → Q (.bl (t.v n gx gy)) H'
abbrev nLH : List Str := ["formula", "width", "values", "kind", "told", "one", "other", "half", "part"]
theorem scLH : FnScope nLH ["formula", "width", "values"] (defScope sLHolds) := ⟨rfl, rfl, rfl, by decide +kernel, rfl, by decide +kernel, by decide +kernel⟩
theorem sg_cast {n a : Nat} : sg n a = if (2 : Int) ^ (n - 1) ≤ a then (a : Int) - 2 * 2 ^ (n - 1) else a := by
  unfold sg
  have := p2cast (n - 1)
  by_cases h : 2 ^ (n - 1) ≤ a
  · rw [if_pos h, if_pos (by rw [← this]; omega)]
  · rw [if_neg h, if_neg (by rw [← this]; omega)]
theorem bin_v (o : Bool) (f h : LF) (n gx gy : Nat) : (LF.bin o f h).v n gx gy = if o = true then f.v n gx gy && h.v n gx gy else f.v n gx gy || h.v n gx gy := rfl
theorem ok_lh0 {f fV : Addr} {fd fdV : FuncData} (F : Fun K "_law_holds" "_law_holds" sLHolds f fd) (DV : Dfn P w K mg base "_law_value" 3 ["term", "width", "values"] (spLV 2) fV fdV) : FnOk P w K mg base CX0 4 f fd ["formula", "width", "values"] (spLH 0) := by
  refine F.ok scLH (fun vs H Q E h => ?_) (fun cdv A outer s H vs Q E hr h => ?_)
  · obtain ⟨v, a, t, n, gx, gy, kvs, rfl, _⟩ := h
    rfl
  obtain ⟨v, a, t, n, gx, gy, kvs, rfl, hd, hok, hdp, h1n, hn, ha, vx, vy, lx, ly, k⟩ := h
  have nd := scLH.nd
  have hu := hu_of hr
  refine ⟨_, pss_cons (ps_set (i := 3) nd rfl (.inl rfl) (pe_ix (ixT K) (pv 0) pe_int (fun _ _ => rfl)))
    (pss_cons (ps_if (pt_cmpR op_eq (pv 3) pe_str (nomark _)) (pss_one ps_never) pss_nil)
    (pss_cons (ps_if (pt_cmpR (inSK K) (pv 3) (ptup (pa_cons pe_str (pa_cons pe_str pa_nil))) (by rfl)) (pss_cons ps_never (pss_one ps_never)) pss_nil)
    (pss_cons (ps_par (i := 5) (j := 6) (by rfl) nd rfl rfl (by decide) rfl rfl (pa_cons (pcl DV hr (pa_cons (pe_ix (ixT K) (pv 0) pe_int (fun _ _ => rfl)) (pa_cons (pv 1) (pa_cons (pv 2) pa_nil)))) (pa_cons (pcl DV hr (pa_cons (pe_ix (ixT K) (pv 0) pe_int (fun _ _ => rfl)) (pa_cons (pv 1) (pa_cons (pv 2) pa_nil)))) pa_nil)) (by rfl))
    (pss_cons (ps_if (pt_cmpR op_eq (pv 3) pe_str (nomark _)) (pss_one (ps_ret (pe_cmpR op_eq (pv 5) (pv 6) (nomark _)))) pss_nil)
    (pss_cons (ps_if (pt_cmpR op_eq (pv 3) pe_str (nomark _)) (pss_cons (ps_set (i := 7) nd rfl (.inl rfl) (pe_op op_oneShl pe_int (pe_op op_sub (pv 1) pe_int)))
      (pss_one (ps_par (i := 5) (j := 6) (by rfl) nd rfl rfl (by decide) rfl rfl (pa_cons (pe_ifExp (pt_cmpR op_ge (pv 5) (pv 7) (nomark _)) (pe_op op_sub (pv 5) (pe_op op_mul pe_int (pv 7))) (pv 5)) (pa_cons (pe_ifExp (pt_cmpR op_ge (pv 6) (pv 7) (nomark _)) (pe_op op_sub (pv 6) (pe_op op_mul pe_int (pv 7))) (pv 6)) pa_nil)) (by rfl)))) pss_nil)
    (pss_one (ps_ret (pe_cmpR op_lt (pv 5) (pv 6) (nomark _))))))))), ?_⟩
  cases t with
  | nt f => exact absurd hdp (by show ¬ f.dp + 1 ≤ 0; omega)
  | bin o f h => exact absurd hdp (by show ¬ max f.dp h.dp + 1 ≤ 0; omega)
  | cmp o t u =>
  obtain ⟨a0, z0, z1, z2, rfl, ha0, h0, h1, h2⟩ := DAt.three (d1 := .str o.s) (d2 := t.d) (d3 := u.d) hd
  obtain rfl := h0.str
  refine ⟨_, rfl, a0, _, 0, _, rfl, rfl, SqT.of ha0, at0, ?_⟩
  refine ⟨_, rfl, rfl, _, rfl, ?_⟩
  rw [dec_str, cmp_ne (show o.s ≠ "not" by cases o <;> decide)]
  refine iteF ⟨_, rfl, rd_t2 fun q H1 s1 hq => ⟨q, _, rfl, .inr (SqT.of hq), rfl, rfl, _, rfl, ?_⟩⟩
  show if inV (.str o.s) [.str "and", .str "or"] = true then _ else _
  rw [show inV (.str o.s) [.str "and", .str "or"] = false by cases o <;> rfl]
  refine iteF ⟨_, rfl, a0, _, 1, _, rfl, rfl, SqT.of (s1 _ _ ha0), at1, _, rfl, _, rfl, z1, a, t, n, gx, gy, kvs, rfl, h1.same s1, hok.1.1, hok.1.2, hn, s1 _ _ ha, vx, vy, lx, ly, fun H2 s2 => ?_⟩
  have s12 := s1.trans s2
  refine ⟨_, rfl, a0, _, 2, _, rfl, rfl, SqT.of (s12 _ _ ha0), at2, _, rfl, _, rfl, z2, a, u, n, gx, gy, kvs, rfl, h2.same s12, hok.2.1, hok.2.2, hn, s12 _ _ ha, vx, vy, lx, ly, fun H3 s3 => ?_⟩
  have s13 := s12.trans s3
  have hA := t.v_lt lx ly
  have hB := u.v_lt lx ly
  have k' : ∀ H', Same H H' → Q (.bl (o.f n (t.v n gx gy) (u.v n gx gy))) H' := k
  clear k
  generalize t.v n gx gy = va at hA k' ⊢
  generalize u.v n gx gy = vb at hB k' ⊢
  refine ⟨_, _, rfl, ?_⟩
  refine ⟨_, rfl, rfl, _, rfl, ?_⟩
  rw [dec_str]
  cases o with
  | eq =>
    refine iteT ⟨_, rfl, _, rfl, rfl, ?_⟩
    have e1 : decide (V.int (va : Int) = V.int (vb : Int)) = decide (va = vb) := by
      rw [dec_int]
      exact decide_eq_decide.mpr Int.ofNat_inj
    show Q (.bl (decide (V.int (va : Int) = V.int (vb : Int)))) H3
    rw [e1]
    exact k' H3 s13
  | lt =>
    refine iteF ⟨_, rfl, rfl, _, rfl, ?_⟩
    rw [dec_str]
    refine iteF ⟨_, rfl, _, rfl, _, _, rfl, rfl, ?_⟩
    show Q (.bl (decide ((va : Int) < vb))) H3
    rw [show decide ((va : Int) < vb) = decide (va < vb) from decide_eq_decide.mpr Int.ofNat_lt]
    exact k' H3 s13
  | bel =>
    refine iteF ⟨_, rfl, rfl, _, rfl, ?_⟩
    rw [dec_str]
    have e0 : ((n : Int) - 1) = ((n - 1 : Nat) : Int) := by omega
    refine iteT ⟨_, rfl, _, _, rfl, rfl, ?_⟩
    dsimp only
    rw [e0]
    refine ⟨n - 1, rfl, rfl, by omega, ?_⟩
    have kk : Q (.bl (decide (sg n va < sg n vb))) H3 := k' H3 s13
    rw [sg_cast, sg_cast] at kk
    have hp := p2posI (n - 1)
    have hq : (2 : Int) ^ (n - 1) ≤ 2 ^ 60 := by
      rw [← p2cast, ← p2cast]
      exact Int.ofNat_le.mpr (Nat.pow_le_pow_right (by decide) (by omega))
    generalize (2 : Int) ^ (n - 1) = hf at *
    have last : ∀ (x y : Int), x = (if hf ≤ (va : Int) then (va : Int) - 2 * hf else va) → y = (if hf ≤ (vb : Int) then (vb : Int) - 2 * hf else vb) → Q (.bl (decide (x < y))) H3 := fun x y ex ey => by
      rw [ex, ey]
      exact kk
    refine ⟨_, rfl, _, rfl, _, _, rfl, rfl, _, rfl, ?_⟩
    by_cases c5 : hf ≤ (va : Int)
    · rw [decide_eq_true c5]
      refine iteT ⟨_, rfl, _, rfl, _, _, rfl, rfl, .inl ⟨by decide, by decide⟩, _, _, rfl, rfl, _, rfl, _, rfl, _, _, rfl, rfl, _, rfl, ?_⟩
      by_cases c6 : hf ≤ (vb : Int)
      · rw [decide_eq_true c6]
        exact iteT ⟨_, rfl, _, rfl, _, _, rfl, rfl, .inl ⟨by decide, by decide⟩, _, _, rfl, rfl, _, _, rfl, _, rfl, _, rfl, _, _, rfl, rfl, last _ _ (if_pos c5).symm (if_pos c6).symm⟩
      · rw [decide_eq_false c6]
        exact iteF ⟨_, rfl, _, _, rfl, _, rfl, _, rfl, _, _, rfl, rfl, last _ _ (if_pos c5).symm (if_neg c6).symm⟩
    · rw [decide_eq_false c5]
      refine iteF ⟨_, rfl, _, rfl, _, rfl, _, _, rfl, rfl, _, rfl, ?_⟩
      by_cases c6 : hf ≤ (vb : Int)
      · rw [decide_eq_true c6]
        exact iteT ⟨_, rfl, _, rfl, _, _, rfl, rfl, .inl ⟨by decide, by decide⟩, _, _, rfl, rfl, _, _, rfl, _, rfl, _, rfl, _, _, rfl, rfl, last _ _ (if_neg c5).symm (if_pos c6).symm⟩
      · rw [decide_eq_false c6]
        exact iteF ⟨_, rfl, _, _, rfl, _, rfl, _, rfl, _, _, rfl, rfl, last _ _ (if_neg c5).symm (if_neg c6).symm⟩
end
end K8
namespace K8
open PySem PySem.Spec PyProof.Rows L2 LayT
section
variable {P : Program} {w : World} {K : PySem.W.Frag} {mg : Str → Option Value} {base : Heap}
theorem ok_lh1 {f fV : Addr} {fd fdV : FuncData} (F : Fun K "_law_holds" "_law_holds" sLHolds f fd) (T : Txt K mg) (DF : Dfn P w K mg base "_law_holds" 4 ["formula", "width", "values"] (spLH 0) f fd) (DV : Dfn P w K mg base "_law_value" 3 ["term", "width", "values"] (spLV 2) fV fdV) : FnOk P w K mg base CX0 5 f fd ["formula", "width", "values"] (spLH 1) := by
  refine F.ok scLH (fun vs H Q E h => ?_) (fun cdv A outer s H vs Q E hr h => ?_)
  · obtain ⟨v, a, t, n, gx, gy, kvs, rfl, _⟩ := h
    rfl
  obtain ⟨v, a, t, n, gx, gy, kvs, rfl, hd, hok, hdp, h1n, hn, ha, vx, vy, lx, ly, k⟩ := h
  have nd := scLH.nd
  have hu := hu_of hr
  have hrV := hr.mono (show 3 ≤ 4 by decide)
  refine ⟨_, pss_cons (ps_set (i := 3) nd rfl (.inl rfl) (pe_ix (ixT K) (pv 0) pe_int (fun _ _ => rfl)))
    (pss_cons (ps_if (pt_cmpR op_eq (pv 3) pe_str (nomark _)) (pss_one (ps_ret (pe_not (pcl DF hr (pa_cons (pe_ix (ixT K) (pv 0) pe_int (fun _ _ => rfl)) (pa_cons (pv 1) (pa_cons (pv 2) pa_nil))))))) pss_nil)
    (pss_cons (ps_if (pt_cmpR (inSK K) (pv 3) (ptup (pa_cons pe_str (pa_cons pe_str pa_nil))) (by rfl))
      (pss_cons (ps_setLc (i := 4) (own := [("part", 8)]) (g := gName 8) (by rfl) nd rfl rfl (sw_true rfl rfl rfl (by decide +kernel)) (pi_tup (pe_ix (ixT K) (pv 0) pe_int (fun _ _ => rfl))) (blkOk_by (N := nLH) (sc := defScope sLHolds) (by decide +kernel))
        (fun _ _ _ _ _ => pg_name (i := 8) nd rfl (.inl rfl)) (fun _ _ _ _ _ => pts_nil) (fun _ _ _ _ _ => pcl DF hr (pa_cons (pv 8) (pa_cons (pv 1) (pa_cons (pv 2) pa_nil)))))
      (pss_one (ps_ret (pe_ifExp (pt_cmpR op_eq (pv 3) pe_str (nomark _)) (pe_callB (cr_all rfl) (by rfl) T.all (by decide +kernel) (pa_cons (pv 4) pa_nil)) (pe_callB (cr_any rfl) (by rfl) T.any (by decide +kernel) (pa_cons (pv 4) pa_nil)))))) pss_nil)
    (pss_cons (ps_par (i := 5) (j := 6) (by rfl) nd rfl rfl (by decide) rfl rfl (pa_cons (pcl DV hrV (pa_cons (pe_ix (ixT K) (pv 0) pe_int (fun _ _ => rfl)) (pa_cons (pv 1) (pa_cons (pv 2) pa_nil)))) (pa_cons (pcl DV hrV (pa_cons (pe_ix (ixT K) (pv 0) pe_int (fun _ _ => rfl)) (pa_cons (pv 1) (pa_cons (pv 2) pa_nil)))) pa_nil)) (by rfl))
    (pss_cons (ps_if (pt_cmpR op_eq (pv 3) pe_str (nomark _)) (pss_one (ps_ret (pe_cmpR op_eq (pv 5) (pv 6) (nomark _)))) pss_nil)
    (pss_cons (ps_if (pt_cmpR op_eq (pv 3) pe_str (nomark _)) (pss_cons (ps_set (i := 7) nd rfl (.inl rfl) (pe_op op_oneShl pe_int (pe_op op_sub (pv 1) pe_int)))
      (pss_one (ps_par (i := 5) (j := 6) (by rfl) nd rfl rfl (by decide) rfl rfl (pa_cons (pe_ifExp (pt_cmpR op_ge (pv 5) (pv 7) (nomark _)) (pe_op op_sub (pv 5) (pe_op op_mul pe_int (pv 7))) (pv 5)) (pa_cons (pe_ifExp (pt_cmpR op_ge (pv 6) (pv 7) (nomark _)) (pe_op op_sub (pv 6) (pe_op op_mul pe_int (pv 7))) (pv 6)) pa_nil)) (by rfl)))) pss_nil)
    (pss_one (ps_ret (pe_cmpR op_lt (pv 5) (pv 6) (nomark _))))))))), ?_⟩
  cases t with
  | nt t =>
    have hdp' : t.dp ≤ 0 := Nat.le_of_succ_le_succ hdp
    obtain ⟨a0, z0, z1, rfl, ha0, h0, h1⟩ := DAt.two (d1 := .str "not") (d2 := t.d) hd
    obtain rfl := h0.str
    refine ⟨_, rfl, a0, _, 0, _, rfl, rfl, SqT.of ha0, at0, ?_⟩
    refine ⟨_, rfl, rfl, _, rfl, ?_⟩
    rw [dec_str]
    exact iteT ⟨_, rfl, a0, _, 1, _, rfl, rfl, SqT.of ha0, at1, _, rfl, _, rfl, z1, a, t, n, gx, gy, kvs, rfl, h1, hok, hdp', h1n, hn, ha, vx, vy, lx, ly, fun H1 s1 => ⟨_, rfl, k H1 s1⟩⟩
  | bin o t u =>
    have hdp' : t.dp ≤ 0 ∧ u.dp ≤ 0 := Nat.max_le.mp (Nat.le_of_succ_le_succ hdp)
    obtain ⟨a0, z0, z1, rfl, ha0, h0, h1⟩ := DAt.two (d1 := .str (bS o)) (d2 := .tup [t.d, u.d]) hd
    obtain rfl := h0.str
    obtain ⟨b, x1, x2, rfl, hb, g1, g2⟩ := h1.two
    refine ⟨_, rfl, a0, _, 0, _, rfl, rfl, SqT.of ha0, at0, ?_⟩
    refine ⟨_, rfl, rfl, _, rfl, ?_⟩
    rw [dec_str, cmp_ne (show bS o ≠ "not" by cases o <;> decide)]
    refine iteF ⟨_, rfl, rd_t2 fun q H1 s1 hq => ⟨q, _, rfl, .inr (SqT.of hq), rfl, rfl, _, rfl, ?_⟩⟩
    show if inV (.str (bS o)) [.str "and", .str "or"] = true then _ else _
    rw [show inV (.str (bS o)) [.str "and", .str "or"] = true by cases o <;> rfl]
    refine iteT ⟨_, rfl, a0, _, 1, _, rfl, rfl, SqT.of (s1 _ _ ha0), at1, b, rfl, ⟨_, SqT.of (s1 _ _ hb)⟩, fun c nc => lc_it (walk_tup (K := K) (a := b) (xs := [x1, x2])) (fun j G => Same H1 G ∧ G c = some (.lst (([t.v n gx gy, u.v n gx gy].take j).map V.bl))) ⟨same_upd nc, upd_same⟩ (fun j G _ hh => SqT.of (hh.1 _ _ (s1 _ _ hb))) ?_ ?_⟩
    · rintro j y G G' hj ⟨sG, gc⟩ ⟨rfl, ey⟩
      have s1G := s1.trans sG
      refine ⟨rfl, _, rfl, _, rfl, _, rfl, ?_⟩
      match j, hj, ey, gc with
      | 0, _, ey, gc =>
        cases ey
        exact ⟨x1, a, t, n, gx, gy, kvs, rfl, g1.same s1G, hok.1, hdp'.1, h1n, hn, s1G _ _ ha, vx, vy, lx, ly, fun G2 s2 => ⟨_, s2 _ _ gc, szl (by show 0 ≤ 100000; decide), (sG.trans s2).mut nc, upd_same⟩⟩
      | 1, _, ey, gc =>
        cases ey
        exact ⟨x2, a, u, n, gx, gy, kvs, rfl, g2.same s1G, hok.2, hdp'.2, h1n, hn, s1G _ _ ha, vx, vy, lx, ly, fun G2 s2 => ⟨_, s2 _ _ gc, szl (by show 1 ≤ 100000; decide), (sG.trans s2).mut nc, upd_same⟩⟩
    · rintro G ⟨sG, gc⟩
      refine ⟨_, rfl, rfl, _, rfl, ?_⟩
      rw [dec_str]
      have k2 := k G (s1.trans sG)
      rw [bin_v] at k2
      cases o with
      | true =>
        refine iteT ⟨_, rfl, c, [t.v n gx gy, u.v n gx gy], rfl, SqL.of gc, ?_⟩
        rw [if_pos rfl] at k2
        show Q (.bl (t.v n gx gy && (u.v n gx gy && true))) G
        rw [Bool.and_true]
        exact k2
      | false =>
        refine iteF ⟨_, rfl, c, [t.v n gx gy, u.v n gx gy], rfl, SqL.of gc, ?_⟩
        rw [if_neg (by decide)] at k2
        show Q (.bl (t.v n gx gy || (u.v n gx gy || false))) G
        rw [Bool.or_false]
        exact k2
  | cmp o t u =>
    obtain ⟨a0, z0, z1, z2, rfl, ha0, h0, h1, h2⟩ := DAt.three (d1 := .str o.s) (d2 := t.d) (d3 := u.d) hd
    obtain rfl := h0.str
    refine ⟨_, rfl, a0, _, 0, _, rfl, rfl, SqT.of ha0, at0, ?_⟩
    refine ⟨_, rfl, rfl, _, rfl, ?_⟩
    rw [dec_str, cmp_ne (show o.s ≠ "not" by cases o <;> decide)]
    refine iteF ⟨_, rfl, rd_t2 fun q H1 s1 hq => ⟨q, _, rfl, .inr (SqT.of hq), rfl, rfl, _, rfl, ?_⟩⟩
    show if inV (.str o.s) [.str "and", .str "or"] = true then _ else _
    rw [show inV (.str o.s) [.str "and", .str "or"] = false by cases o <;> rfl]
    refine iteF ⟨_, rfl, a0, _, 1, _, rfl, rfl, SqT.of (s1 _ _ ha0), at1, _, rfl, _, rfl, z1, a, t, n, gx, gy, kvs, rfl, h1.same s1, hok.1.1, hok.1.2, hn, s1 _ _ ha, vx, vy, lx, ly, fun H2 s2 => ?_⟩
    have s12 := s1.trans s2
    refine ⟨_, rfl, a0, _, 2, _, rfl, rfl, SqT.of (s12 _ _ ha0), at2, _, rfl, _, rfl, z2, a, u, n, gx, gy, kvs, rfl, h2.same s12, hok.2.1, hok.2.2, hn, s12 _ _ ha, vx, vy, lx, ly, fun H3 s3 => ?_⟩
    have s13 := s12.trans s3
    have hA := t.v_lt lx ly
    have hB := u.v_lt lx ly
    have k' : ∀ H', Same H H' → Q (.bl (o.f n (t.v n gx gy) (u.v n gx gy))) H' := k
    clear k
    generalize t.v n gx gy = va at hA k' ⊢
    generalize u.v n gx gy = vb at hB k' ⊢
    refine ⟨_, _, rfl, ?_⟩
    refine ⟨_, rfl, rfl, _, rfl, ?_⟩
    rw [dec_str]
    cases o with
    | eq =>
      refine iteT ⟨_, rfl, _, rfl, rfl, ?_⟩
      have e1 : decide (V.int (va : Int) = V.int (vb : Int)) = decide (va = vb) := by
        rw [dec_int]
        exact decide_eq_decide.mpr Int.ofNat_inj
      show Q (.bl (decide (V.int (va : Int) = V.int (vb : Int)))) H3
      rw [e1]
      exact k' H3 s13
    | lt =>
      refine iteF ⟨_, rfl, rfl, _, rfl, ?_⟩
      rw [dec_str]
      refine iteF ⟨_, rfl, _, rfl, _, _, rfl, rfl, ?_⟩
      show Q (.bl (decide ((va : Int) < vb))) H3
      rw [show decide ((va : Int) < vb) = decide (va < vb) from decide_eq_decide.mpr Int.ofNat_lt]
      exact k' H3 s13
    | bel =>
      refine iteF ⟨_, rfl, rfl, _, rfl, ?_⟩
      rw [dec_str]
      have e0 : ((n : Int) - 1) = ((n - 1 : Nat) : Int) := by omega
      refine iteT ⟨_, rfl, _, _, rfl, rfl, ?_⟩
      dsimp only
      rw [e0]
      refine ⟨n - 1, rfl, rfl, by omega, ?_⟩
      have kk : Q (.bl (decide (sg n va < sg n vb))) H3 := k' H3 s13
      rw [sg_cast, sg_cast] at kk
      have hp := p2posI (n - 1)
      have hq : (2 : Int) ^ (n - 1) ≤ 2 ^ 60 := by
        rw [← p2cast, ← p2cast]
        exact Int.ofNat_le.mpr (Nat.pow_le_pow_right (by decide) (by omega))
      generalize (2 : Int) ^ (n - 1) = hf at *
      have last : ∀ (x y : Int), x = (if hf ≤ (va : Int) then (va : Int) - 2 * hf else va) → y = (if hf ≤ (vb : Int) then (vb : Int) - 2 * hf else vb) → Q (.bl (decide (x < y))) H3 := fun x y ex ey => by
        rw [ex, ey]
        exact kk
      refine ⟨_, rfl, _, rfl, _, _, rfl, rfl, _, rfl, ?_⟩
      by_cases c5 : hf ≤ (va : Int)
      · rw [decide_eq_true c5]
        refine iteT ⟨_, rfl, _, rfl, _, _, rfl, rfl, .inl ⟨by decide, by decide⟩, _, _, rfl, rfl, _, rfl, _, rfl, _, _, rfl, rfl, _, rfl, ?_⟩
        by_cases c6 : hf ≤ (vb : Int)
        · rw [decide_eq_true c6]
          exact iteT ⟨_, rfl, _, rfl, _, _, rfl, rfl, .inl ⟨by decide, by decide⟩, _, _, rfl, rfl, _, _, rfl, _, rfl, _, rfl, _, _, rfl, rfl, last _ _ (if_pos c5).symm (if_pos c6).symm⟩
        · rw [decide_eq_false c6]
          exact iteF ⟨_, rfl, _, _, rfl, _, rfl, _, rfl, _, _, rfl, rfl, last _ _ (if_pos c5).symm (if_neg c6).symm⟩
      · rw [decide_eq_false c5]
        refine iteF ⟨_, rfl, _, rfl, _, rfl, _, _, rfl, rfl, _, rfl, ?_⟩
        by_cases c6 : hf ≤ (vb : Int)
        · rw [decide_eq_true c6]
          exact iteT ⟨_, rfl, _, rfl, _, _, rfl, rfl, .inl ⟨by decide, by decide⟩, _, _, rfl, rfl, _, _, rfl, _, rfl, _, rfl, _, _, rfl, rfl, last _ _ (if_neg c5).symm (if_pos c6).symm⟩
        · rw [decide_eq_false c6]
          exact iteF ⟨_, rfl, _, _, rfl, _, rfl, _, rfl, _, _, rfl, rfl, last _ _ (if_neg c5).symm (if_neg c6).symm⟩
end
end K8
namespace K8
open PySem PySem.Spec PyProof.Rows L2 LayT
/-! ### what the law hands in that is refused -/
abbrev xD : D := nm "x"
abbrev eqD (a b : D) : D := .tup [.str "equal", a, b]
def toldA : List D := [.tup [.str "name", .str "X"], .tup [.str "number", .int 1001], .tup [.str "number", .bl true], .tup [.str "times", .int 31, xD], .tup [.str "up", .int 7, xD], .tup [.str "up", .int (-1), xD], .tup [.str "+", xD], .tup [.str "/", xD, xD], .tup [.str "name"], .non, eqD xD xD, .tup [.str "~", .tup [.str "not", eqD xD xD]]]
def toldB : List D := [xD, .tup [.str "equal", xD], .tup [.str "and", .lst], .tup [.str "or", .tup [xD]], .tup [.str "not", xD], eqD (eqD xD xD) xD, .non, .tup [.str "less", xD, .int 3]]
theorem one_shorts {d1 : D} (h1 : Short d1) : Short (.tup [d1]) := by
  unfold Short
  refine ⟨by show 1 ≤ 90; decide, ?_⟩
  unfold Shorts; refine ⟨h1, ?_⟩
  unfold Shorts; trivial
theorem s_bl {x : Bool} : Short (.bl x) := by unfold Short; trivial
theorem s_non : Short .non := by unfold Short; trivial
theorem s_lst : Short .lst := by unfold Short; trivial
theorem s_x : Short xD := two_shorts (s_str (by decide)) (s_str (by decide))
theorem s_eq {a b : D} (ha : Short a) (hb : Short b) : Short (eqD a b) := three_shorts (s_str (by decide)) ha hb
theorem badA {wd : D} {g : Str → Option D} : ∀ d ∈ toldA, Bad false 0 d wd g ∧ Short d := by
  intro d hd
  rcases List.mem_cons.mp hd with rfl | hd
  · exact ⟨⟨20, none, by decide, rfl, .inl ⟨rfl, rfl⟩⟩, two_shorts (s_str (by decide)) (s_str (by decide))⟩
  rcases List.mem_cons.mp hd with rfl | hd
  · exact ⟨⟨20, none, by decide, rfl, .inl ⟨rfl, rfl⟩⟩, two_shorts (s_str (by decide)) s_int⟩
  rcases List.mem_cons.mp hd with rfl | hd
  · exact ⟨⟨20, none, by decide, rfl, .inl ⟨rfl, rfl⟩⟩, two_shorts (s_str (by decide)) s_bl⟩
  rcases List.mem_cons.mp hd with rfl | hd
  · exact ⟨⟨20, none, by decide, rfl, .inl ⟨rfl, rfl⟩⟩, three_shorts (s_str (by decide)) s_int s_x⟩
  rcases List.mem_cons.mp hd with rfl | hd
  · exact ⟨⟨20, none, by decide, rfl, .inl ⟨rfl, rfl⟩⟩, three_shorts (s_str (by decide)) s_int s_x⟩
  rcases List.mem_cons.mp hd with rfl | hd
  · exact ⟨⟨20, none, by decide, rfl, .inl ⟨rfl, rfl⟩⟩, three_shorts (s_str (by decide)) s_int s_x⟩
  rcases List.mem_cons.mp hd with rfl | hd
  · exact ⟨⟨20, none, by decide, rfl, .inl ⟨rfl, rfl⟩⟩, two_shorts (s_str (by decide)) s_x⟩
  rcases List.mem_cons.mp hd with rfl | hd
  · exact ⟨⟨20, none, by decide, rfl, .inl ⟨rfl, rfl⟩⟩, three_shorts (s_str (by decide)) s_x s_x⟩
  rcases List.mem_cons.mp hd with rfl | hd
  · exact ⟨⟨20, none, by decide, rfl, .inl ⟨rfl, rfl⟩⟩, one_shorts (s_str (by decide))⟩
  rcases List.mem_cons.mp hd with rfl | hd
  · exact ⟨⟨20, none, by decide, rfl, .inl ⟨rfl, rfl⟩⟩, s_non⟩
  rcases List.mem_cons.mp hd with rfl | hd
  · exact ⟨⟨20, none, by decide, rfl, .inl ⟨rfl, rfl⟩⟩, s_eq s_x s_x⟩
  rcases List.mem_cons.mp hd with rfl | hd
  · exact ⟨⟨20, none, by decide, rfl, .inl ⟨rfl, rfl⟩⟩, two_shorts (s_str (by decide)) (two_shorts (s_str (by decide)) (s_eq s_x s_x))⟩
  cases hd
theorem badB {wd : D} {g : Str → Option D} : ∀ d ∈ toldB, Bad true 0 d wd g ∧ Short d := by
  intro d hd
  rcases List.mem_cons.mp hd with rfl | hd
  · exact ⟨⟨20, none, by decide, rfl, .inl ⟨rfl, rfl⟩⟩, s_x⟩
  rcases List.mem_cons.mp hd with rfl | hd
  · exact ⟨⟨20, none, by decide, rfl, .inl ⟨rfl, rfl⟩⟩, two_shorts (s_str (by decide)) s_x⟩
  rcases List.mem_cons.mp hd with rfl | hd
  · exact ⟨⟨20, none, by decide, rfl, .inl ⟨rfl, rfl⟩⟩, two_shorts (s_str (by decide)) s_lst⟩
  rcases List.mem_cons.mp hd with rfl | hd
  · exact ⟨⟨20, none, by decide, rfl, .inl ⟨rfl, rfl⟩⟩, two_shorts (s_str (by decide)) (one_shorts s_x)⟩
  rcases List.mem_cons.mp hd with rfl | hd
  · exact ⟨⟨20, none, by decide, rfl, .inl ⟨rfl, rfl⟩⟩, two_shorts (s_str (by decide)) s_x⟩
  rcases List.mem_cons.mp hd with rfl | hd
  · exact ⟨⟨20, none, by decide, rfl, .inl ⟨rfl, rfl⟩⟩, s_eq (s_eq s_x s_x) s_x⟩
  rcases List.mem_cons.mp hd with rfl | hd
  · exact ⟨⟨20, none, by decide, rfl, .inl ⟨rfl, rfl⟩⟩, s_non⟩
  rcases List.mem_cons.mp hd with rfl | hd
  · exact ⟨⟨20, none, by decide, rfl, .inl ⟨rfl, rfl⟩⟩, three_shorts (s_str (by decide)) s_x s_int⟩
  cases hd
def widths : List D := [.int 0, .int 201, .bl true, .non]
theorem ordX : ordL false 20 [] [(xD, false)] = some (some [(xD, 0)]) := rfl
theorem ordE : ordL true 20 [] [(eqD xD xD, true)] = some (some [(eqD xD xD, 2), (xD, 0), (xD, 0)]) := rfl
theorem badW {g : Str → Option D} : ∀ d ∈ widths, Bad false 1 xD d g ∧ Bad true 1 (eqD xD xD) d g := by
  intro d hd
  rcases List.mem_cons.mp hd with rfl | hd
  · exact ⟨⟨20, _, by decide, ordX, .inr (.inl ⟨rfl, _, rfl, rfl⟩)⟩, ⟨20, _, by decide, ordE, .inr (.inl ⟨rfl, _, rfl, rfl⟩)⟩⟩
  rcases List.mem_cons.mp hd with rfl | hd
  · exact ⟨⟨20, _, by decide, ordX, .inr (.inl ⟨rfl, _, rfl, rfl⟩)⟩, ⟨20, _, by decide, ordE, .inr (.inl ⟨rfl, _, rfl, rfl⟩)⟩⟩
  rcases List.mem_cons.mp hd with rfl | hd
  · exact ⟨⟨20, _, by decide, ordX, .inr (.inl ⟨rfl, _, rfl, rfl⟩)⟩, ⟨20, _, by decide, ordE, .inr (.inl ⟨rfl, _, rfl, rfl⟩)⟩⟩
  rcases List.mem_cons.mp hd with rfl | hd
  · exact ⟨⟨20, _, by decide, ordX, .inr (.inl ⟨rfl, _, rfl, rfl⟩)⟩, ⟨20, _, by decide, ordE, .inr (.inl ⟨rfl, _, rfl, rfl⟩)⟩⟩
  cases hd
/-! dicts of one name -/
def gOne (k : Str) (d : D) : Str → Option D := fun y => if y = k then some d else none
theorem vOne {H : Hp} {k : Str} {v : V} {d : D} (h : DAt H v d) : VOk H [((Sum.inr k : Key), v)] (gOne k d) := fun y => by
  by_cases e : y = k
  · subst e
    rw [valV_pos (p := ((Sum.inr y : Key), v)) rfl]
    exact ⟨d, if_pos rfl, h⟩
  · rw [valV_neg (p := ((Sum.inr k : Key), v)) (fun z => e (Sum.inr.inj z).symm), valV_nil]
    exact if_neg e
theorem okx {d : D} (h : d = xD ∨ d = eqD xD xD) : NmOk d := by
  rcases h with rfl | rfl
  · exact nmOk_x
  · exact nmOk_k (by decide)
theorem badV {g : Str → Option D} (h : oneF g 3 "x" = false) : Bad false 0 xD (.int 3) g :=
  ⟨20, _, by decide, ordX, .inr (.inr ⟨rfl, _, rfl, rfl, 3, rfl, by decide, fun p hp => by rw [List.mem_singleton.mp hp]; exact nmOk_x, "x", List.mem_singleton.mpr rfl, h⟩)⟩
theorem badVE {g : Str → Option D} (h : oneF g 3 "x" = false) : Bad true 0 (eqD xD xD) (.int 3) g :=
  ⟨20, _, by decide, ordE, .inr (.inr ⟨rfl, _, rfl, rfl, 3, rfl, by decide, fun p hp => by
    rcases List.mem_cons.mp hp with rfl | hp
    · exact nmOk_x
    rcases List.mem_cons.mp hp with rfl | hp
    · exact nmOk_x
    rw [List.mem_singleton.mp hp]
    exact nmOk_k (by decide), "x", List.mem_cons_self, h⟩)⟩
/-! {k: v} with a text as its key -/
@[irreducible] def rD1 (k : Str) (v : V) (H : Hp) (Q : VK) : Prop := ∀ p H', Same H H' → H' p = some (.dK [((Sum.inr k : Key), v)]) → Q (.ref p) H'
theorem rd_d1 {k : Str} {v : V} {H : Hp} {Q : VK} (h : ∀ p H', Same H H' → H' p = some (.dK [((Sum.inr k : Key), v)]) → Q (.ref p) H') : rD1 k v H Q := by
  unfold rD1
  exact h
theorem pdict1 {X : Cx} {k : Str} {v : V} {i : Nat} {p1 pos : Pos} {e : Expr} (he : PE X e (tC v)) : PE X (.Dict [some (.Constant (.str k) i p1)] [e] pos) (fun σ H Q => rD1 k v H Q) := by
  refine ⟨fun pins s σ H Q I h => ?_⟩
  refine (pe_disp (pps_cons pe_str he pps_nil) (by rfl) (by rfl) (fun z => by cases z) (by show 1 ≤ 15; decide)).run pins s σ H Q I ?_
  intro p hp
  unfold rD1 at h
  refine ⟨upd_same, [((Sum.inr k : Key), v)], rfl, by show 1 ≤ 15; decide, ?_⟩
  refine h p _ ?_ upd_same
  exact ((same_upd hp).mut hp)
theorem DsAt.snoc {H : Hp} : ∀ {ds : List D} {xs : List V} {v : V} {d : D}, DsAt H xs ds → DAt H v d → DsAt H (xs ++ [v]) (ds ++ [d])
  | [], xs, v, d, h, hv => by rw [h.nil]; exact ⟨v, [], rfl, hv, rfl⟩
  | e :: ds, xs, v, d, h, hv => by
    obtain ⟨x, r, rfl, h2, h3⟩ := h.cons
    exact ⟨x, r ++ [v], rfl, h2, DsAt.snoc h3 hv⟩
theorem DAt.tup1 {H : Hp} {p : Addr} {x : V} {d1 : D} (h : H p = some (.tup [x])) (h1 : DAt H x d1) : DAt H (.ref p) (.tup [d1]) := ⟨p, _, rfl, h, _, _, rfl, h1, rfl⟩
end K8
namespace K8
open PySem PySem.Spec PyProof.Rows L2 LayT
def rDictP (K : PySem.W.Frag) : List V → Hp → VK → Prop := fun xs H Q => ∃ (a : Addr) (ps : List Addr) (kvs : List (Key × V)), xs = [.ref a] ∧ SqL K H a (ps.map V.ref) ∧ Paired (fun p kv => SqT K H p [kV kv.1, kv.2]) ps kvs ∧ ∀ p, H p = none → Q (.ref p) (upd H p (.dK (mergeK [] kvs)))
theorem dictPK {X : Cx} (K : PySem.W.Frag) (hc : X.calm = true := by rfl) (h : X.K = K := by rfl) : CallR X (.type "dict") (rDictP K) := h ▸ call_dictP hc
def iEnT (K : PySem.W.Frag) (ta : TA) : TI := iEnumT K ta
theorem DAt.b {H : Hp} (x : Bool) : DAt H (.bl x) (.bl x) := rfl
theorem DAt.n {H : Hp} : DAt H .non .non := rfl
theorem cut_one {x : V} {zs : List V} : cutV (x :: zs) none (some 1) = [x] := by
  unfold cutV
  rw [show (1 : Int) = ((1 : Nat) : Int) from rfl, HT.sIx_nat, HT.sIx_none, Nat.min_eq_left (by simp only [List.length_cons]; omega)]
  rfl
def spLaw (K : PySem.W.Frag) : Sp := fun vs H Q _ => ∃ (a : Addr) (ns : List Int), vs = [.ref a] ∧ SqL K H a (ns.map V.int) ∧ ns.length ≤ 63 ∧ ∀ H', Q (.bl true) H'
abbrev nLaw8 : List Str := ["script", "turn", "term", "formula", "width", "values", "x", "told", "name", "at"]
theorem scLaw8 : FnScope nLaw8 ["script"] (defScope sLaw) := ⟨rfl, rfl, rfl, by decide +kernel, rfl, by decide +kernel, by decide +kernel⟩
/-- the pairs of names and numbers, one after the other -/
def PvD (G0 : Hp) (c : Addr) (M : Int) : Nat → Hp → Prop
  | 0, G => Same G0 G ∧ G c = some (.lst [])
  | 1, G => Same G0 G ∧ ∃ p r, G c = some (.lst [.ref p]) ∧ G p = some (.tup [.str "x", .int r]) ∧ 0 ≤ r ∧ r < M
  | _ + 2, G => Same G0 G ∧ ∃ p r p' r', G c = some (.lst [.ref p, .ref p']) ∧ G p = some (.tup [.str "x", .int r]) ∧ (0 ≤ r ∧ r < M) ∧ G p' = some (.tup [.str "y", .int r']) ∧ 0 ≤ r' ∧ r' < M
theorem PvD.same {G0 : Hp} {c : Addr} {M : Int} : ∀ {j : Nat} {G : Hp}, PvD G0 c M j G → Same G0 G
  | 0, _, h => h.1
  | 1, _, h => h.1
  | _ + 2, _, h => h.1
theorem PvD.step0 {G0 H' H'' : Hp} {c p : Addr} {M r : Int} (h : PvD G0 c M 0 H') (nc : G0 c = none) (sm : Same H' H'') (hp : H'' p = some (.tup [.str "x", .int r])) (r0 : 0 ≤ r) (r1 : r < M) :
    ∃ acc, H'' c = some (.lst acc) ∧ acc.length < sizeLine ∧ PvD G0 c M 1 (upd H'' c (.lst (acc ++ [.ref p]))) := by
  obtain ⟨s0, hc⟩ := h
  have hc2 := sm _ _ hc
  refine ⟨_, hc2, szl (by show 0 ≤ 100000; decide), (s0.trans sm).mut nc, p, r, upd_same, ?_, r0, r1⟩
  rw [upd_ne (fun z => by rw [z, hc2] at hp; cases hp)]
  exact hp
theorem PvD.step1 {G0 H' H'' : Hp} {c p' : Addr} {M r' : Int} (h : PvD G0 c M 1 H') (nc : G0 c = none) (sm : Same H' H'') (hp' : H'' p' = some (.tup [.str "y", .int r'])) (r0' : 0 ≤ r') (r1' : r' < M) :
    ∃ acc, H'' c = some (.lst acc) ∧ acc.length < sizeLine ∧ PvD G0 c M 2 (upd H'' c (.lst (acc ++ [.ref p']))) := by
  obtain ⟨s0, p, r, hc, hp, r0, r1⟩ := h
  have hc2 := sm _ _ hc
  have hp2 := sm _ _ hp
  refine ⟨_, hc2, szl (by show 1 ≤ 100000; decide), (s0.trans sm).mut nc, p, r, p', r', upd_same, ?_, ⟨r0, r1⟩, ?_, r0', r1'⟩
  · rw [upd_ne (fun z => by rw [z, hc2] at hp2; cases hp2)]
    exact hp2
  · rw [upd_ne (fun z => by rw [z, hc2] at hp'; cases hp')]
    exact hp'
def gTwo (r r' : Int) : Str → Option D := fun y => if y = "x" then some (.int r) else if y = "y" then some (.int r') else none
theorem vTwo {H : Hp} {r r' : Int} : VOk H [((Sum.inr "x" : Key), .int r), ((Sum.inr "y" : Key), .int r')] (gTwo r r') := fun y => by
  by_cases e : y = "x"
  · subst e
    rw [valV_pos (p := ((Sum.inr "x" : Key), V.int r)) rfl]
    exact ⟨.int r, if_pos rfl, DAt.i _⟩
  · rw [valV_neg (p := ((Sum.inr "x" : Key), V.int r)) (fun z => e (Sum.inr.inj z).symm)]
    by_cases e2 : y = "y"
    · subst e2
      rw [valV_pos (p := ((Sum.inr "y" : Key), V.int r')) rfl]
      exact ⟨.int r', by unfold gTwo; rw [if_neg (by decide), if_pos rfl], DAt.i _⟩
    · rw [valV_neg (p := ((Sum.inr "y" : Key), V.int r')) (fun z => e2 (Sum.inr.inj z).symm), valV_nil]
      unfold gTwo
      rw [if_neg e, if_neg e2]
section
variable {P : Program} {w : World} {K : PySem.W.Frag} {mg : Str → Option Value} {base : Heap}
set_option maxHeartbeats 1000000 in
theorem ok_law {f fD fT fF fV fH fW fO fR CT CW : Addr} {fd fdD fdT fdF fdV fdH fdW fdO fdR : FuncData} (F : Fun K "law" "law" sLaw f fd) (T : Txt K mg) (DD : Dfn P w K mg base "_law_draw" 1 ["script", "at", "many"] (spDraw K) fD fdD)
    (DT : Dfn P w K mg base "_law_term" 5 ["script", "at", "depth"] (spLT K 3) fT fdT) (DF : Dfn P w K mg base "_law_formula" 6 ["script", "at", "depth"] (spLF K 1) fF fdF) (DV : Dfn P w K mg base "_law_value" 4 ["term", "width", "values"] (spLV 3) fV fdV)
    (DH : Dfn P w K mg base "_law_holds" 5 ["formula", "width", "values"] (spLH 1) fH fdH) (DW : DfX P w K mg base "word_of" 7 ["term", "width", "values"] (spWO false CT CW) fW fdW) (DO : DfX P w K mg base "holds_at" 7 ["formula", "width", "values"] (spWO true CT CW) fO fdO)
    (DR : Dfn P w K mg base "_law_refused" 8 ["number", "told", "width", "values", "kind"] spRef fR fdR) : FnOk P w K mg base CX0 9 f fd ["script"] (spLaw K) := by
  refine F.ok scLaw8 (fun vs H Q E h => ?_) (fun cdv A outer s H vs Q E hr h => ?_)
  · obtain ⟨a, ns, rfl, _⟩ := h
    rfl
  obtain ⟨a, ns, rfl, hS, hlen, k⟩ := h
  have nd := scLaw8.nd
  have hu := hu_of hr
  have hr1 : Room 1 _ := hr.mono (by decide)
  have hr4 : Room 4 _ := hr.mono (by decide)
  have hr5 : Room 5 _ := hr.mono (by decide)
  have hr6 : Room 6 _ := hr.mono (by decide)
  have hr7 : Room 7 _ := hr.mono (by decide)
  refine ⟨_, Evl.pss_cut (ps_for PassesOwn.never rfl (pi_range1 rfl T.range (pa_cons pe_int pa_nil)) (pg_name (i := 1) nd rfl (.inr rfl))
      (pss_cons (ps_par (i := 2) (j := 3) (by rfl) nd rfl rfl (by decide) rfl rfl (pa_cons (pcl DT hr5 (pa_cons (pv 0) (pa_cons (pe_op op_add pe_int (pe_op op_mul pe_int (pv 1))) (pa_cons pe_int pa_nil)))) (pa_cons (pcl DF hr6 (pa_cons (pv 0) (pa_cons (pe_op op_add pe_int (pe_op op_mul pe_int (pv 1))) (pa_cons pe_int pa_nil)))) pa_nil)) (by rfl))
      (Evl.pss_cut (ps_set (i := 4) nd rfl (.inr rfl) (pe_ifExp (pt_cmpR op_eq (pe_op op_modN (pv 1) pe_int) pe_int (nomark _)) (pe_op op_add pe_int (pcl DD hr1 (pa_cons (pv 0) (pa_cons (pe_op op_add pe_int (pv 1)) (pa_cons pe_int pa_nil)))))
        (pe_op op_add pe_int (pcl DD hr1 (pa_cons (pv 0) (pa_cons (pe_op op_add pe_int (pv 1)) (pa_cons pe_int pa_nil)))))))
      (pss_cons (ps_set (i := 5) nd rfl (.inl rfl) (pe_callTy (dictPK K) (by rfl) T.dict (by decide +kernel) (pa_cons
          (pe_lc (own := [("name", 8), ("at", 9)]) (by rfl) nd (pi_enumT (by rfl) T.enumerate (pa_cons (ptup (pa_cons pe_str (pa_cons pe_str pa_nil))) pa_nil)) (blkOk_by (N := nLaw8) (sc := defScope sLaw) (by decide +kernel))
            (fun _ _ _ _ _ => pgT2 K 9 8 nd) (fun _ _ _ _ _ => pts_nil)
            (fun _ _ _ _ _ => ptupN (pa_cons (pv 8) (pa_cons (pcl DD hr1 (pa_cons (pv 0) (pa_cons (pe_op op_add (pe_op op_add pe_int (pe_op op_mul pe_int (pv 1))) (pv 9)) (pa_cons (pe_op op_oneShl pe_int (pe_callB (call_min2 rfl) (by rfl) T.min (by decide +kernel) (pa_cons (pv 4) (pa_cons pe_int pa_nil)))) pa_nil)))) pa_nil)))) pa_nil)))
      (pss_cons (ps_if (pt_cmpR op_ne (pclX DW hr7 (pa_cons (pv 2) (pa_cons (pv 4) (pa_cons (pv 5) pa_nil)))) (pcl DV hr4 (pa_cons (pv 2) (pa_cons (pv 4) (pa_cons (pv 5) pa_nil)))) (nomark _)) (pss_one (ps_ret pe_bl)) pss_nil)
      (pss_one (ps_if (pt_cmpR op_ne (pclX DO hr7 (pa_cons (pv 3) (pa_cons (pv 4) (pa_cons (pv 5) pa_nil)))) (pcl DH hr5 (pa_cons (pv 3) (pa_cons (pv 4) (pa_cons (pv 5) pa_nil)))) (nomark _)) (pss_one (ps_ret pe_bl)) pss_nil)))))))
    (pss_cons (ps_set (i := 6) nd rfl (.inl rfl) (ptup (pa_cons pe_str (pa_cons pe_str pa_nil))))
    (Evl.pss_cut (ps_for PassesOwn.never rfl (pi_tup (ptup (pa_cons (ptup (pa_cons pe_str (pa_cons pe_str pa_nil))) (pa_cons (ptup (pa_cons pe_str (pa_cons pe_int pa_nil))) (pa_cons (ptup (pa_cons pe_str (pa_cons pe_bl pa_nil))) (pa_cons (ptup (pa_cons pe_str (pa_cons pe_int (pa_cons (pv 6) pa_nil)))) (pa_cons (ptup (pa_cons pe_str (pa_cons pe_int (pa_cons (pv 6) pa_nil)))) (pa_cons (ptup (pa_cons pe_str (pa_cons (pe_un un_neg pe_int) (pa_cons (pv 6) pa_nil)))) (pa_cons (ptup (pa_cons pe_str (pa_cons (pv 6) pa_nil))) (pa_cons (ptup (pa_cons pe_str (pa_cons (pv 6) (pa_cons (pv 6) pa_nil)))) (pa_cons (pe_slice (slT K) (pv 6) po_none (po_some pe_int)) (pa_cons pe_non (pa_cons (ptup (pa_cons pe_str (pa_cons (pv 6) (pa_cons (pv 6) pa_nil)))) (pa_cons (ptup (pa_cons pe_str (pa_cons (ptup (pa_cons pe_str (pa_cons (ptup (pa_cons pe_str (pa_cons (pv 6) (pa_cons (pv 6) pa_nil)))) pa_nil))) pa_nil))) pa_nil)))))))))))))) (pg_name (i := 7) nd rfl (.inl rfl)) (pss_one (ps_if (pt_not (pt_val (pcl DR hr (pa_cons pe_int (pa_cons (pv 7) (pa_cons pe_int (pa_cons (pdict1 pe_int) (pa_cons pe_int pa_nil)))))))) (pss_one (ps_ret pe_bl)) pss_nil)))
    (Evl.pss_cut (ps_for PassesOwn.never rfl (pi_tup (ptup (pa_cons (pv 6) (pa_cons (ptup (pa_cons pe_str (pa_cons (pv 6) pa_nil))) (pa_cons (ptup (pa_cons pe_str (pa_cons (plst (pa_cons (ptup (pa_cons pe_str (pa_cons (pv 6) (pa_cons (pv 6) pa_nil)))) pa_nil)) pa_nil))) (pa_cons (ptup (pa_cons pe_str (pa_cons (ptup (pa_cons (pv 6) pa_nil)) pa_nil))) (pa_cons (ptup (pa_cons pe_str (pa_cons (pv 6) pa_nil))) (pa_cons (ptup (pa_cons pe_str (pa_cons (ptup (pa_cons pe_str (pa_cons (pv 6) (pa_cons (pv 6) pa_nil)))) (pa_cons (pv 6) pa_nil)))) (pa_cons pe_non (pa_cons (ptup (pa_cons pe_str (pa_cons (pv 6) (pa_cons pe_int pa_nil)))) pa_nil)))))))))) (pg_name (i := 7) nd rfl (.inl rfl)) (pss_one (ps_if (pt_not (pt_val (pcl DR hr (pa_cons pe_int (pa_cons (pv 7) (pa_cons pe_int (pa_cons (pdict1 pe_int) (pa_cons pe_int pa_nil)))))))) (pss_one (ps_ret pe_bl)) pss_nil)))
    (Evl.pss_cut (ps_for PassesOwn.never rfl (pi_tup (ptup (pa_cons pe_int (pa_cons pe_int (pa_cons pe_bl (pa_cons pe_non pa_nil)))))) (pg_name (i := 4) nd rfl (.inr rfl)) (pss_one (ps_if (PW.pt (pw_or (pt_not (pt_val (pcl DR hr (pa_cons pe_int (pa_cons (pv 6) (pa_cons (pv 4) (pa_cons (pdict1 pe_int) (pa_cons pe_int pa_nil)))))))) (pw_or1 (pt_not (pt_val (pcl DR hr (pa_cons pe_int (pa_cons (ptup (pa_cons pe_str (pa_cons (pv 6) (pa_cons (pv 6) pa_nil)))) (pa_cons (pv 4) (pa_cons (pdict1 pe_int) (pa_cons pe_int pa_nil))))))))))) (pss_one (ps_ret pe_bl)) pss_nil)))
    (pss_one (ps_ret (pe_and (pcl DR hr (pa_cons pe_int (pa_cons (pv 6) (pa_cons pe_int (pa_cons (pdict1 pe_int) (pa_cons pe_int pa_nil)))))) (pe_and (pcl DR hr (pa_cons pe_int (pa_cons (pv 6) (pa_cons pe_int (pa_cons (pdict1 pe_int) (pa_cons pe_int pa_nil)))))) (pe_one (pcl DR hr (pa_cons pe_int (pa_cons (ptup (pa_cons pe_str (pa_cons (pv 6) (pa_cons (pv 6) pa_nil)))) (pa_cons pe_int (pa_cons (pdict1 pe_bl) (pa_cons pe_int pa_nil))))))))))))))), ?_⟩
  refine ⟨fun σ' G => ∃ o1 o2 o3 o4 o5 o6 o7 o8 o9, σ' = [some (.ref a), o1, o2, o3, o4, o5, o6, o7, o8, o9] ∧ Same H G, ?_, ?_⟩
  · refine ⟨5, rfl, by decide, by decide, ?_⟩
    refine for_range (n := 5) (fun i σ' G => ∃ o1 o2 o3 o4 o5 o6 o7 o8 o9, σ' = [some (.ref a), o1, o2, o3, o4, o5, o6, o7, o8, o9] ∧ Same H G) ⟨_, _, _, _, _, _, _, _, _, rfl, Same.refl H⟩ ?_ (fun σ' G hh => hh)
    rintro i σ' G hi ⟨o1, o2, o3, o4, o5, o6, o7, o8, o9, rfl, sG⟩
    have hSG := sG.seq hS
    refine ⟨_, rfl, _, rfl, _, _, rfl, rfl, .inl ⟨by decide, by decide⟩, _, _, rfl, rfl, a, ns, _, rfl, hSG, hlen, by omega, (by show ((5 : Int) + 90 * (0 + (i : Int)) + 5) * 8 ≤ 90000; omega), fun G1 tv td s1 hd1 ht => ?_⟩
    have sG1 := sG.trans s1
    refine ⟨_, rfl, _, rfl, _, _, rfl, rfl, .inl ⟨by decide, by decide⟩, _, _, rfl, rfl, a, ns, _, rfl, sG1.seq hS, hlen, by omega, (by show ((40 : Int) + 90 * (0 + (i : Int)) + 7) * 2 ≤ 5000; omega), fun G2 fv fdd s2 hd2 hf => ?_⟩
    have sG2 := sG1.trans s2
    obtain ⟨t, rfl, tok, tdp⟩ := isT_lt 3 ht
    obtain ⟨ff, rfl, fok, fdp⟩ := isF_lf 1 hf
    have hd1' := hd1.same s2
    refine ⟨_, _, rfl, ?_⟩
    refine ⟨fun σ' G' => ∃ W : Nat, 1 ≤ W ∧ W ≤ 60 ∧ σ' = [some (.ref a), some (.int (0 + (i : Int))), some tv, some fv, some (.int W), o5, o6, o7, o8, o9] ∧ Same G2 G', ?_, ?_⟩
    · refine ⟨_, rfl, _, _, rfl, rfl, (show (2 : Int) ≠ 0 by decide), rfl, _, rfl, ?_⟩
      have fin : ∀ (m : Int) (G3 : Hp) (r : Int), m ≤ 60 → Same G2 G3 → 0 ≤ r → r < m → ∃ W : Nat, 1 ≤ W ∧ W ≤ 60 ∧ ([some (.ref a), some (.int (0 + (i : Int))), some tv, some fv, some (.int (1 + r)), o5, o6, o7, o8, o9] : L2.St) = [some (.ref a), some (.int (0 + (i : Int))), some tv, some fv, some (.int W), o5, o6, o7, o8, o9] ∧ Same G2 G3 := fun m G3 r hm s3 r0 r1 => by
        refine ⟨(1 + r).toNat, by omega, by omega, ?_, s3⟩
        rw [Int.toNat_of_nonneg (by omega)]
      rcases Bool.eq_false_or_eq_true (decide (V.int ((0 + (i : Int)).fmod 2) = V.int 0)) with hb | hb
      · dsimp only
        rw [hb]
        exact iteT ⟨_, rfl, _, rfl, _, _, rfl, rfl, a, ns, _, _, rfl, sG2.seq hS, hlen, by omega, by omega, by decide, by decide, fun G3 r s3 r0 r1 => ⟨_, _, rfl, rfl, fin 8 G3 r (by decide) s3 r0 r1⟩⟩
      · dsimp only
        rw [hb]
        exact iteF ⟨_, rfl, _, rfl, _, _, rfl, rfl, a, ns, _, _, rfl, sG2.seq hS, hlen, by omega, by omega, by decide, by decide, fun G3 r s3 r0 r1 => ⟨_, _, rfl, rfl, fin 60 G3 r (by decide) s3 r0 r1⟩⟩
    rintro σ' G3 ⟨W, w1, w60, rfl, s3⟩
    have sG3 := sG2.trans s3
    refine rd_t2 fun q G4 s4 hq => ?_
    have sG4 := sG3.trans s4
    obtain ⟨kk, ekk, lkk, mkk⟩ : ∃ kk : Nat, V.int (if (30 : Int) < (W : Int) then 30 else (W : Int)) = V.int kk ∧ kk ≤ W ∧ kk ≤ 30 := by
      by_cases c : 30 < W
      · exact ⟨30, by rw [if_pos (by omega)]; rfl, by omega, by omega⟩
      · exact ⟨W, by rw [if_neg (by omega)], by omega, by omega⟩
    have hM0 := p2posI kk
    have hM1 : (2 : Int) ^ kk ≤ 1099511627776 := by
      have : (2 : Int) ^ kk ≤ 2 ^ 40 := by
        rw [← p2cast, ← p2cast]
        exact Int.ofNat_le.mpr (Nat.pow_le_pow_right (by decide) (by omega))
      exact Int.le_trans this (by decide)
    refine ⟨q, _, rfl, SqT.of hq, fun c nc => lc_it (walk_enumT (K := K) (a := q) (xs := [.str "x", .str "y"])) (PvD G4 c (2 ^ kk)) ⟨same_upd nc, upd_same⟩ (fun j G _ hh => SqT.of (PvD.same hh _ _ hq)) ?_ ?_⟩
    · rintro j y H' H'' hj hh ⟨Tt, x1, x2, rfl, nT, rfl, e1, e2⟩
      cases e1
      have sT := same_upd (o := HO.tup [V.int (j : Nat), x2]) nT
      have sH := (sG4.trans (PvD.same hh)).trans sT
      have hj2 : j < 2 := hj
      refine ⟨Tt, _, rfl, SqT.of upd_same, rfl, _, _, rfl, _, _, rfl, rfl, rfl, ?_⟩
      refine ⟨_, rfl, _, rfl, _, rfl, _, _, rfl, rfl, .inl ⟨by decide, by decide⟩, _, _, rfl, rfl, _, rfl, _, _, rfl, rfl, _, rfl, _, _, rfl, kk, rfl, ekk, by omega, ?_⟩
      refine ⟨a, ns, _, _, rfl, sH.seq hS, hlen, by omega, by omega, by omega, by omega, fun H3 r s5 r0 r1 => rd_t2 fun p H4 s6 hp => ?_⟩
      have sm := (sT.trans s5).trans s6
      match j, hj2, hh, e2, hp with
      | 0, _, hh, e2, hp =>
        cases e2
        exact PvD.step0 hh nc sm hp r0 r1
      | 1, _, hh, e2, hp =>
        cases e2
        exact PvD.step1 hh nc sm hp r0 r1
    · rintro G5 hh
      obtain ⟨s5, p, r, p', r', hc, h1, ⟨r0, r1⟩, h2, r0', r1'⟩ := (show PvD G4 c (2 ^ kk) 2 G5 from hh)
      have em : mergeK [] [((Sum.inr "x" : Key), V.int r), ((Sum.inr "y" : Key), V.int r')] = [((Sum.inr "x" : Key), V.int r), ((Sum.inr "y" : Key), V.int r')] := rfl
      refine ⟨c, [p, p'], [((Sum.inr "x" : Key), V.int r), ((Sum.inr "y" : Key), V.int r')], rfl, SqL.of hc, .cons (SqT.of h1) (.cons (SqT.of h2) .nil), fun dd ndd => ?_⟩
      rw [em]
      have s6 : Same G5 (upd G5 dd (.dK [((Sum.inr "x" : Key), V.int r), ((Sum.inr "y" : Key), V.int r')])) := same_upd ndd
      have hdd : upd G5 dd (.dK [((Sum.inr "x" : Key), V.int r), ((Sum.inr "y" : Key), V.int r')]) dd = some (.dK [((Sum.inr "x" : Key), V.int r), ((Sum.inr "y" : Key), V.int r')]) := upd_same
      generalize upd G5 dd (.dK [((Sum.inr "x" : Key), V.int r), ((Sum.inr "y" : Key), V.int r')]) = G6 at s6 hdd ⊢
      obtain ⟨gx, rfl⟩ := Int.eq_ofNat_of_zero_le r0
      obtain ⟨gy, rfl⟩ := Int.eq_ofNat_of_zero_le r0'
      have pw : 2 ^ kk ≤ 2 ^ W := Nat.pow_le_pow_right (by decide) lkk
      have lx : gx < 2 ^ W := by rw [← p2cast kk] at r1; omega
      have ly : gy < 2 ^ W := by rw [← p2cast kk] at r1'; omega
      have s26 := ((s3.trans s4).trans s5).trans s6
      have vx : valV [((Sum.inr "x" : Key), V.int (gx : Int)), ((Sum.inr "y" : Key), V.int (gy : Int))] (Sum.inr "x" : Key) = some (.int gx) := rfl
      have vy : valV [((Sum.inr "x" : Key), V.int (gx : Int)), ((Sum.inr "y" : Key), V.int (gy : Int))] (Sum.inr "y" : Key) = some (.int gy) := rfl
      refine ⟨_, rfl, _, rfl, _, rfl, wo_good (K := K) tok tdp (hd1'.same s26) w1 w60 hdd vTwo rfl rfl lx ly fun G7 s7 => ?_⟩
      refine ⟨_, rfl, _, rfl, _, rfl, tv, dd, t, W, gx, gy, _, rfl, hd1'.same (s26.trans s7), tok, tdp, w60, s7 _ _ hdd, vx, vy, lx, ly, fun G8 s8 => ?_⟩
      refine ⟨rfl, false, congrArg V.bl (by simp), iteF ?_⟩
      have s68 := s7.trans s8
      refine ⟨_, rfl, _, rfl, _, rfl, ho_good (K := K) fok fdp (hd2.same (s26.trans s68)) w1 w60 (s68 _ _ hdd) vTwo rfl rfl lx ly fun G9 s9 => ?_⟩
      have s69 := s68.trans s9
      refine ⟨_, rfl, _, rfl, _, rfl, fv, dd, ff, W, gx, gy, _, rfl, hd2.same (s26.trans s69), fok, fdp, w1, w60, s69 _ _ hdd, vx, vy, lx, ly, fun G10 s10 => ?_⟩
      exact ⟨rfl, false, congrArg V.bl (by simp), iteF ⟨_, _, _, _, _, _, _, _, _, rfl, sG2.trans (s26.trans (s69.trans s10))⟩⟩
  · rintro σ' G ⟨o1, o2, o3, o4, o5, o6, o7, o8, o9, rfl, sG⟩
    refine rd_t2 fun px G0 s0 hpx => ?_
    have hq0 := hpx
    refine ⟨fun σ' G => ∃ o1 o2 o3 o4 o5 o7 o8 o9, σ' = [some (.ref a), o1, o2, o3, o4, o5, some (.ref px), o7, o8, o9] ∧ G px = some (.tup [.str "name", .str "x"]), ?_, ?_⟩
    · refine rd_t2 fun u1 F1 v1 w1 => ?_
      have q1 := v1 _ _ hq0
      have d1 := DAt.tup2 w1 (.s _) (.s _)
      have acc := DsAt.snoc (ds := []) (xs := []) rfl d1
      refine rd_t2 fun u2 F2 v2 w2 => ?_
      have q2 := v2 _ _ q1
      have acc := acc.same v2
      have d2 := DAt.tup2 w2 (.s _) (.i _)
      have acc := acc.snoc d2
      refine rd_t2 fun u3 F3 v3 w3 => ?_
      have q3 := v3 _ _ q2
      have acc := acc.same v3
      have d3 := DAt.tup2 w3 (.s _) (DAt.b _)
      have acc := acc.snoc d3
      refine ⟨_, rfl, ?_⟩
      refine rd_t3 fun u4 F4 v4 w4 => ?_
      have q4 := v4 _ _ q3
      have acc := acc.same v4
      have d4 := DAt.tup3 w4 (.s _) (.i _) (DAt.tup2 q4 (.s _) (.s _))
      have acc := acc.snoc d4
      refine ⟨_, rfl, ?_⟩
      refine rd_t3 fun u5 F5 v5 w5 => ?_
      have q5 := v5 _ _ q4
      have acc := acc.same v5
      have d5 := DAt.tup3 w5 (.s _) (.i _) (DAt.tup2 q5 (.s _) (.s _))
      have acc := acc.snoc d5
      refine ⟨_, rfl, ?_⟩
      refine ⟨_, rfl, ?_⟩
      refine rd_t3 fun u6 F6 v6 w6 => ?_
      have q6 := v6 _ _ q5
      have acc := acc.same v6
      have d6 := DAt.tup3 w6 (.s _) (.i _) (DAt.tup2 q6 (.s _) (.s _))
      have acc := acc.snoc d6
      refine ⟨_, rfl, ?_⟩
      refine rd_t2 fun u7 F7 v7 w7 => ?_
      have q7 := v7 _ _ q6
      have acc := acc.same v7
      have d7 := DAt.tup2 w7 (.s _) (DAt.tup2 q7 (.s _) (.s _))
      have acc := acc.snoc d7
      refine ⟨_, rfl, ?_⟩
      refine ⟨_, rfl, ?_⟩
      refine rd_t3 fun u8 F8 v8 w8 => ?_
      have q8 := v8 _ _ q7
      have acc := acc.same v8
      have d8 := DAt.tup3 w8 (.s _) (DAt.tup2 q8 (.s _) (.s _)) (DAt.tup2 q8 (.s _) (.s _))
      have acc := acc.snoc d8
      refine ⟨_, rfl, _, rfl, rd_slt q8 fun u9 F9 v9 w9 => ?_⟩
      rw [cut_one] at w9
      have q9 := v9 _ _ q8
      have acc := acc.same v9
      have d9 : DAt F9 (.ref u9) (.tup [.str "name"]) := DAt.tup1 w9 (.s _)
      have acc := acc.snoc d9
      have acc := acc.snoc DAt.n
      refine ⟨_, rfl, ?_⟩
      refine ⟨_, rfl, ?_⟩
      refine rd_t3 fun u10 F10 v10 w10 => ?_
      have q10 := v10 _ _ q9
      have acc := acc.same v10
      have d10 := DAt.tup3 w10 (.s _) (DAt.tup2 q10 (.s _) (.s _)) (DAt.tup2 q10 (.s _) (.s _))
      have acc := acc.snoc d10
      refine ⟨_, rfl, ?_⟩
      refine ⟨_, rfl, ?_⟩
      refine rd_t3 fun u11 F11 v11 w11 => ?_
      have q11 := v11 _ _ q10
      have acc := acc.same v11
      have d11 := DAt.tup3 w11 (.s _) (DAt.tup2 q11 (.s _) (.s _)) (DAt.tup2 q11 (.s _) (.s _))
      refine rd_t2 fun u12 F12 v12 w12 => ?_
      have d11 := d11.same v12
      have q12 := v12 _ _ q11
      have acc := acc.same v12
      have d12 := DAt.tup2 w12 (.s _) d11
      refine rd_t2 fun u13 F13 v13 w13 => ?_
      have d12 := d12.same v13
      have q13 := v13 _ _ q12
      have acc := acc.same v13
      have d13 := DAt.tup2 w13 (.s _) d12
      have acc := acc.snoc d13
      refine rd_tup (by show 12 ≤ 100000; decide) fun pt Gt st hpt => ?_
      have hxt := st _ _ q13
      refine ⟨pt, rfl, ⟨_, SqT.of hpt⟩, for_it (walk_tup (K := K) (a := pt)) (fun j σ' G => ∃ o1 o2 o3 o4 o5 o7 o8 o9, σ' = [some (.ref a), o1, o2, o3, o4, o5, some (.ref px), o7, o8, o9] ∧ Same Gt G) ⟨_, _, _, _, _, _, _, _, rfl, Same.refl Gt⟩ (fun j σ' G _ hh => by obtain ⟨_, _, _, _, _, _, _, _, _, h⟩ := hh; exact SqT.of (h _ _ hpt)) ?_ ?_⟩
      · rintro j y σ' G G' hj ⟨o1, o2, o3, o4, o5, o7, o8, o9, rfl, sG⟩ ⟨eH, hy⟩
        obtain rfl : G = G' := eH.symm
        obtain ⟨d, hdj, hyd⟩ := (show DsAt Gt _ toldA from acc.same st).at hy
        obtain ⟨hbad, hsh⟩ := badA (wd := .int 3) (g := gOne "x" (.int 1)) d (List.mem_of_getElem? hdj)
        refine ⟨_, rfl, rd_d1 fun pd G1 sd hpd => ?_⟩
        exact ⟨0, 0, y, .int 3, pd, d, .int 3, _, gOne "x" (.int 1), rfl, hyd.same (sG.trans sd), hsh, DAt.i _, hpd, vOne (DAt.i _), hbad, fun G2 s2 => ⟨_, rfl, iteF ⟨_, _, _, _, _, _, _, _, rfl, (sG.trans sd).trans s2⟩⟩⟩
      · rintro σ' G ⟨o1, o2, o3, o4, o5, o7, o8, o9, rfl, sG⟩
        exact ⟨_, _, _, _, _, _, _, _, rfl, sG _ _ hxt⟩
    rintro σ' G0 ⟨o1, o2, o3, o4, o5, o7, o8, o9, rfl, hq0⟩
    refine ⟨fun σ' G => ∃ o1 o2 o3 o4 o5 o7 o8 o9, σ' = [some (.ref a), o1, o2, o3, o4, o5, some (.ref px), o7, o8, o9] ∧ G px = some (.tup [.str "name", .str "x"]), ?_, ?_⟩
    · refine ⟨_, rfl, ?_⟩
      have acc := DsAt.snoc (ds := []) (xs := []) rfl (DAt.tup2 hq0 (.s _) (.s _))
      refine ⟨_, rfl, ?_⟩
      refine rd_t2 fun u1 F1 v1 w1 => ?_
      have q1 := v1 _ _ hq0
      have acc := acc.same v1
      have d1 := DAt.tup2 w1 (.s _) (DAt.tup2 q1 (.s _) (.s _))
      have acc := acc.snoc d1
      refine ⟨_, rfl, ?_⟩
      refine ⟨_, rfl, ?_⟩
      refine rd_t3 fun u2 F2 v2 w2 => ?_
      have q2 := v2 _ _ q1
      have acc := acc.same v2
      have d2 := DAt.tup3 w2 (.s _) (DAt.tup2 q2 (.s _) (.s _)) (DAt.tup2 q2 (.s _) (.s _))
      refine rd_l1 fun u3 F3 n3 v3 w3 => ?_
      have d2 := d2.same v3
      have q3 := v3 _ _ q2
      have acc := acc.same v3
      have d3 : DAt F3 (.ref u3) .lst := ⟨_, _, rfl, w3⟩
      refine rd_t2 fun u4 F4 v4 w4 => ?_
      have d3 := d3.same v4
      have q4 := v4 _ _ q3
      have acc := acc.same v4
      have d4 := DAt.tup2 w4 (.s _) d3
      have acc := acc.snoc d4
      refine ⟨_, rfl, ?_⟩
      refine rd_t1 fun u5 F5 v5 w5 => ?_
      have q5 := v5 _ _ q4
      have acc := acc.same v5
      have d5 := DAt.tup1 w5 (DAt.tup2 q5 (.s _) (.s _))
      refine rd_t2 fun u6 F6 v6 w6 => ?_
      have d5 := d5.same v6
      have q6 := v6 _ _ q5
      have acc := acc.same v6
      have d6 := DAt.tup2 w6 (.s _) d5
      have acc := acc.snoc d6
      refine ⟨_, rfl, ?_⟩
      refine rd_t2 fun u7 F7 v7 w7 => ?_
      have q7 := v7 _ _ q6
      have acc := acc.same v7
      have d7 := DAt.tup2 w7 (.s _) (DAt.tup2 q7 (.s _) (.s _))
      have acc := acc.snoc d7
      refine ⟨_, rfl, ?_⟩
      refine ⟨_, rfl, ?_⟩
      refine rd_t3 fun u8 F8 v8 w8 => ?_
      have q8 := v8 _ _ q7
      have acc := acc.same v8
      have d8 := DAt.tup3 w8 (.s _) (DAt.tup2 q8 (.s _) (.s _)) (DAt.tup2 q8 (.s _) (.s _))
      refine ⟨_, rfl, ?_⟩
      refine rd_t3 fun u9 F9 v9 w9 => ?_
      have d8 := d8.same v9
      have q9 := v9 _ _ q8
      have acc := acc.same v9
      have d9 := DAt.tup3 w9 (.s _) d8 (DAt.tup2 q9 (.s _) (.s _))
      have acc := acc.snoc d9
      have acc := acc.snoc DAt.n
      refine ⟨_, rfl, ?_⟩
      refine rd_t3 fun u10 F10 v10 w10 => ?_
      have q10 := v10 _ _ q9
      have acc := acc.same v10
      have d10 := DAt.tup3 w10 (.s _) (DAt.tup2 q10 (.s _) (.s _)) (.i _)
      have acc := acc.snoc d10
      refine rd_tup (by show 8 ≤ 100000; decide) fun pt Gt st hpt => ?_
      have hxt := st _ _ q10
      refine ⟨pt, rfl, ⟨_, SqT.of hpt⟩, for_it (walk_tup (K := K) (a := pt)) (fun j σ' G => ∃ o1 o2 o3 o4 o5 o7 o8 o9, σ' = [some (.ref a), o1, o2, o3, o4, o5, some (.ref px), o7, o8, o9] ∧ Same Gt G) ⟨_, _, _, _, _, _, _, _, rfl, Same.refl Gt⟩ (fun j σ' G _ hh => by obtain ⟨_, _, _, _, _, _, _, _, _, h⟩ := hh; exact SqT.of (h _ _ hpt)) ?_ ?_⟩
      · rintro j y σ' G G' hj ⟨o1, o2, o3, o4, o5, o7, o8, o9, rfl, sG⟩ ⟨eH, hy⟩
        obtain rfl : G = G' := eH.symm
        obtain ⟨d, hdj, hyd⟩ := (show DsAt Gt _ toldB from acc.same st).at hy
        obtain ⟨hbad, hsh⟩ := badB (wd := .int 3) (g := gOne "x" (.int 1)) d (List.mem_of_getElem? hdj)
        refine ⟨_, rfl, rd_d1 fun pd G1 sd hpd => ?_⟩
        exact ⟨1, 0, y, .int 3, pd, d, .int 3, _, gOne "x" (.int 1), rfl, hyd.same (sG.trans sd), hsh, DAt.i _, hpd, vOne (DAt.i _), hbad, fun G2 s2 => ⟨_, rfl, iteF ⟨_, _, _, _, _, _, _, _, rfl, (sG.trans sd).trans s2⟩⟩⟩
      · rintro σ' G ⟨o1, o2, o3, o4, o5, o7, o8, o9, rfl, sG⟩
        exact ⟨_, _, _, _, _, _, _, _, rfl, sG _ _ hxt⟩
    rintro σ' G0 ⟨o1, o2, o3, o4, o5, o7, o8, o9, rfl, hq0⟩
    refine ⟨fun σ' G => ∃ o1 o2 o3 o4 o5 o7 o8 o9, σ' = [some (.ref a), o1, o2, o3, o4, o5, some (.ref px), o7, o8, o9] ∧ G px = some (.tup [.str "name", .str "x"]), ?_, ?_⟩
    · refine rd_tup (by show 4 ≤ 100000; decide) fun pt Gt st hpt => ?_
      have hxt := st _ _ hq0
      have acc : DsAt Gt [.int 0, .int 201, .bl true, .non] widths := ⟨_, _, rfl, rfl, _, _, rfl, rfl, _, _, rfl, rfl, _, _, rfl, rfl, rfl⟩
      refine ⟨pt, rfl, ⟨_, SqT.of hpt⟩, for_it (walk_tup (K := K) (a := pt)) (fun j σ' G => ∃ o1 o2 o3 o4 o5 o7 o8 o9, σ' = [some (.ref a), o1, o2, o3, o4, o5, some (.ref px), o7, o8, o9] ∧ Same Gt G) ⟨_, _, _, _, _, _, _, _, rfl, Same.refl Gt⟩ (fun j σ' G _ hh => by obtain ⟨_, _, _, _, _, _, _, _, _, h⟩ := hh; exact SqT.of (h _ _ hpt)) ?_ ?_⟩
      · rintro j y σ' G G' hj ⟨o1, o2, o3, o4, o5, o7, o8, o9, rfl, sG⟩ ⟨eH, hy⟩
        obtain rfl : G = G' := eH.symm
        obtain ⟨d, hdj, hyd⟩ := acc.at hy
        obtain ⟨hb1, hb2⟩ := badW (g := gOne "x" (.int 0)) d (List.mem_of_getElem? hdj)
        have x1 := sG _ _ hxt
        refine ⟨_, rfl, _, rfl, rd_d1 fun pd G1 sd hpd => ?_⟩
        refine ⟨0, 1, .ref px, y, pd, xD, d, _, gOne "x" (.int 0), rfl, DAt.tup2 (sd _ _ x1) (.s _) (.s _), s_x, hyd.same (sG.trans sd), hpd, vOne (DAt.i _), hb1, fun G2 s2 => ⟨_, rfl, iteF ?_⟩⟩
        have x2 := s2 _ _ (sd _ _ x1)
        refine ⟨_, rfl, _, rfl, rd_t3 fun pe G3 s3 he => ?_⟩
        have x3 := s3 _ _ x2
        have de := DAt.tup3 he (.s "equal") (DAt.tup2 x3 (.s "name") (.s "x")) (DAt.tup2 x3 (.s "name") (.s "x"))
        refine ⟨_, rfl, rd_d1 fun pd2 G4 s4 hpd2 => ?_⟩
        have sAll := (((sG.trans sd).trans s2).trans s3).trans s4
        exact ⟨1, 1, .ref pe, y, pd2, eqD xD xD, d, _, gOne "x" (.int 0), rfl, de.same s4, s_eq s_x s_x, hyd.same sAll, hpd2, vOne (DAt.i _), hb2, fun G5 s5 => ⟨_, rfl, iteF ⟨_, _, _, _, _, _, _, _, rfl, sAll.trans s5⟩⟩⟩
      · rintro σ' G ⟨o1, o2, o3, o4, o5, o7, o8, o9, rfl, sG⟩
        exact ⟨_, _, _, _, _, _, _, _, rfl, sG _ _ hxt⟩
    rintro σ' G0 ⟨o1, o2, o3, o4, o5, o7, o8, o9, rfl, hq0⟩
    have f8 : oneF (gOne "x" (.int 8)) 3 "x" = false := rfl
    have fy : oneF (gOne "y" (.int 1)) 3 "x" = false := rfl
    have ft : oneF (gOne "x" (.bl true)) 3 "x" = false := rfl
    refine ⟨_, rfl, rd_d1 fun p1 G1 s1 h1 => ?_⟩
    have x1 := s1 _ _ hq0
    refine ⟨0, 0, .ref px, .int 3, p1, xD, .int 3, _, gOne "x" (.int 8), rfl, DAt.tup2 x1 (.s _) (.s _), s_x, DAt.i _, h1, vOne (DAt.i _), badV f8, fun G2 s2 => ⟨_, rfl, iteT ?_⟩⟩
    have x2 := s2 _ _ x1
    refine ⟨_, rfl, rd_d1 fun p3 G3 s3 h3 => ?_⟩
    have x3 := s3 _ _ x2
    refine ⟨0, 0, .ref px, .int 3, p3, xD, .int 3, _, gOne "y" (.int 1), rfl, DAt.tup2 x3 (.s _) (.s _), s_x, DAt.i _, h3, vOne (DAt.i _), badV fy, fun G4 s4 => ⟨_, rfl, iteT ?_⟩⟩
    have x4 := s4 _ _ x3
    refine ⟨_, rfl, _, rfl, rd_t3 fun pe G5 s5 he => rd_d1 fun p6 G6 s6 h6 => ?_⟩
    have x5 := s5 _ _ x4
    have de := DAt.tup3 he (.s "equal") (DAt.tup2 x5 (.s "name") (.s "x")) (DAt.tup2 x5 (.s "name") (.s "x"))
    exact ⟨1, 0, .ref pe, .int 3, p6, eqD xD xD, .int 3, _, gOne "x" (.bl true), rfl, de.same s6, s_eq s_x s_x, DAt.i _, h6, vOne (DAt.b _), badVE ft, fun G7 s7 => k G7⟩
end
end K8
namespace K8
open PySem PySem.Spec PyProof.Rows L2 LayT
theorem exm_ab {K : PySem.W.Frag} {A B : Addr} {r : Bool} (h1 : PySem.W.subIn K (.ref B) (.type "BaseException") = some true) (h2 : PySem.W.isClsIn K B = true) (h3 : PySem.W.typeIn K (.ref B) = some (.type "type")) (h4 : PySem.W.subIn K (.ref A) (.ref B) = some r) :
    PySem.W.exmOne K (.ref A) (.ref B) = some r := by
  have e : ((PySem.W.clsIn K B).isSome && PySem.W.typeIn K (.ref B) == some (.type "type")) = true := by
    have h2' : (PySem.W.clsIn K B).isSome = true := h2
    rw [h2', h3] <;> rfl
  unfold PySem.W.exmOne PySem.W.kitCls
  rw [if_pos (show ((PySem.W.subIn K (.ref B) (.type "BaseException") == some true) = true) by rw [h1] <;> rfl)]
  show (if ((PySem.W.clsIn K B).isSome && PySem.W.typeIn K (.ref B) == some (.type "type")) = true then PySem.W.subIn K (.ref A) (.ref B) else none) = some r
  rw [if_pos e]
  exact h4
def nameOf (K : PySem.W.Frag) (f : Addr) : Option Str := match K.lookup f with
  | some ⟨_, _, .func fd, _⟩ => some fd.name
  | _ => none
def wkG (x : Str) : Option G3 := if x = "told_number" then some gTold
  else if x = "denied" then some gDen
  else if x = "times" then some gTimes
  else if x = "moved_up" then some gUp
  else if x = "added" then some gAdd
  else if x = "lessened" then some gSub
  else if x = "both" then some gBoth
  else if x = "either" then some gEith
  else if x = "unlike" then some gUnl
  else if x = "equal" then some gEq
  else if x = "less" then some gLess
  else if x = "below" then some gBel
  else if x = "turned" then some gTurn
  else if x = "every" then some gEvery
  else if x = "some" then some gSome
  else none
def wkS (K : PySem.W.Frag) (L : List Addr) (f : Addr) : Option Sp := if f ∈ L then (nameOf K f).bind fun x => (wkG x).map spWk else none
theorem wkS_of {K : PySem.W.Frag} {L : List Addr} {f : Addr} {x : Str} {g : G3} {oc : Value} {od : Option Addr} {fd : FuncData} {sl : Array (Option Value)} (h : K.lookup f = some ⟨oc, od, .func fd, sl⟩) (hx : fd.name = x) (hg : wkG x = some g) (hf : f ∈ L) : wkS K L f = some (spWk g) := by
  unfold wkS nameOf
  rw [if_pos hf, h]
  dsimp only [Option.bind]
  rw [hx, hg]
  rfl
/-- the law's promise -/
def HasLaw (l : PySem.W.OpenLaw) (w : World) (K : PySem.W.Frag) (mg : Str → Option Value) (fa : Addr) : Prop :=
  ∃ fd : FuncData, (∀ (s : Shared) (u : Value), BindsTo s fd ⟨[u], []⟩ [("script", u)]) ∧ ∀ base : Heap, K.In base → base.Ns mainGlobals mg → FnOk l.prog w K mg base CX0 9 fa fd ["script"] (spLaw K)
set_option maxHeartbeats 0 in
theorem all_mk {l : PySem.W.OpenLaw} {w : World} {K : PySem.W.Frag} {h : Heap} {mg : Str → Option Value} {fa : Addr} (X : K.In h) (G : h.Ns mainGlobals mg) (hfa : mg "law" = some (.ref fa))
    {fNum : Addr} {odNum anNum : Option Addr} {slNum : Array (Option Value)} {ocNum kVNum dcNum pmNum cdNum ctNum : Value}
    {fWrd : Addr} {odWrd anWrd : Option Addr} {slWrd : Array (Option Value)} {ocWrd kVWrd dcWrd pmWrd cdWrd ctWrd : Value}
    {fLow : Addr} {odLow anLow : Option Addr} {slLow : Array (Option Value)} {ocLow kVLow dcLow pmLow cdLow ctLow : Value}
    {fWide : Addr} {odWide anWide : Option Addr} {slWide : Array (Option Value)} {ocWide kVWide dcWide pmWide cdWide ctWide : Value}
    {fTaken : Addr} {odTaken anTaken : Option Addr} {slTaken : Array (Option Value)} {ocTaken kVTaken dcTaken pmTaken cdTaken ctTaken : Value}
    {fTerms : Addr} {odTerms anTerms : Option Addr} {slTerms : Array (Option Value)} {ocTerms kVTerms dcTerms pmTerms cdTerms ctTerms : Value}
    {fBetw : Addr} {odBetw anBetw : Option Addr} {slBetw : Array (Option Value)} {ocBetw kVBetw dcBetw pmBetw cdBetw ctBetw : Value}
    {fParts : Addr} {odParts anParts : Option Addr} {slParts : Array (Option Value)} {ocParts kVParts dcParts pmParts cdParts ctParts : Value}
    {fOrd : Addr} {odOrd anOrd : Option Addr} {slOrd : Array (Option Value)} {ocOrd kVOrd dcOrd pmOrd cdOrd ctOrd : Value}
    {fNames : Addr} {odNames anNames : Option Addr} {slNames : Array (Option Value)} {ocNames kVNames dcNames pmNames cdNames ctNames : Value}
    {fNeedP : Addr} {odNeedP anNeedP : Option Addr} {slNeedP : Array (Option Value)} {ocNeedP kVNeedP dcNeedP pmNeedP cdNeedP ctNeedP : Value}
    {fNeedW : Addr} {odNeedW anNeedW : Option Addr} {slNeedW : Array (Option Value)} {ocNeedW kVNeedW dcNeedW pmNeedW cdNeedW ctNeedW : Value}
    {fAreV : Addr} {odAreV anAreV : Option Addr} {slAreV : Array (Option Value)} {ocAreV kVAreV dcAreV pmAreV cdAreV ctAreV : Value}
    {fNeedV : Addr} {odNeedV anNeedV : Option Addr} {slNeedV : Array (Option Value)} {ocNeedV kVNeedV dcNeedV pmNeedV cdNeedV ctNeedV : Value}
    {fWTold : Addr} {odWTold anWTold : Option Addr} {slWTold : Array (Option Value)} {ocWTold kVWTold dcWTold pmWTold cdWTold ctWTold : Value}
    {fWDen : Addr} {odWDen anWDen : Option Addr} {slWDen : Array (Option Value)} {ocWDen kVWDen dcWDen pmWDen cdWDen ctWDen : Value}
    {fWTimes : Addr} {odWTimes anWTimes : Option Addr} {slWTimes : Array (Option Value)} {ocWTimes kVWTimes dcWTimes pmWTimes cdWTimes ctWTimes : Value}
    {fWUp : Addr} {odWUp anWUp : Option Addr} {slWUp : Array (Option Value)} {ocWUp kVWUp dcWUp pmWUp cdWUp ctWUp : Value}
    {fWAdd : Addr} {odWAdd anWAdd : Option Addr} {slWAdd : Array (Option Value)} {ocWAdd kVWAdd dcWAdd pmWAdd cdWAdd ctWAdd : Value}
    {fWSub : Addr} {odWSub anWSub : Option Addr} {slWSub : Array (Option Value)} {ocWSub kVWSub dcWSub pmWSub cdWSub ctWSub : Value}
    {fWBoth : Addr} {odWBoth anWBoth : Option Addr} {slWBoth : Array (Option Value)} {ocWBoth kVWBoth dcWBoth pmWBoth cdWBoth ctWBoth : Value}
    {fWEith : Addr} {odWEith anWEith : Option Addr} {slWEith : Array (Option Value)} {ocWEith kVWEith dcWEith pmWEith cdWEith ctWEith : Value}
    {fWUnl : Addr} {odWUnl anWUnl : Option Addr} {slWUnl : Array (Option Value)} {ocWUnl kVWUnl dcWUnl pmWUnl cdWUnl ctWUnl : Value}
    {fWEq : Addr} {odWEq anWEq : Option Addr} {slWEq : Array (Option Value)} {ocWEq kVWEq dcWEq pmWEq cdWEq ctWEq : Value}
    {fWLess : Addr} {odWLess anWLess : Option Addr} {slWLess : Array (Option Value)} {ocWLess kVWLess dcWLess pmWLess cdWLess ctWLess : Value}
    {fWBel : Addr} {odWBel anWBel : Option Addr} {slWBel : Array (Option Value)} {ocWBel kVWBel dcWBel pmWBel cdWBel ctWBel : Value}
    {fWTurn : Addr} {odWTurn anWTurn : Option Addr} {slWTurn : Array (Option Value)} {ocWTurn kVWTurn dcWTurn pmWTurn cdWTurn ctWTurn : Value}
    {fWEvery : Addr} {odWEvery anWEvery : Option Addr} {slWEvery : Array (Option Value)} {ocWEvery kVWEvery dcWEvery pmWEvery cdWEvery ctWEvery : Value}
    {fWSome : Addr} {odWSome anWSome : Option Addr} {slWSome : Array (Option Value)} {ocWSome kVWSome dcWSome pmWSome cdWSome ctWSome : Value}
    {fToldAt : Addr} {odToldAt anToldAt : Option Addr} {slToldAt : Array (Option Value)} {ocToldAt kVToldAt dcToldAt pmToldAt cdToldAt ctToldAt : Value}
    {fWordOf : Addr} {odWordOf anWordOf : Option Addr} {slWordOf : Array (Option Value)} {ocWordOf kVWordOf dcWordOf pmWordOf cdWordOf ctWordOf : Value}
    {fHolds : Addr} {odHolds anHolds : Option Addr} {slHolds : Array (Option Value)} {ocHolds kVHolds dcHolds pmHolds cdHolds ctHolds : Value}
    {fDraw : Addr} {odDraw anDraw : Option Addr} {slDraw : Array (Option Value)} {ocDraw kVDraw dcDraw pmDraw cdDraw ctDraw : Value}
    {fLTerm : Addr} {odLTerm anLTerm : Option Addr} {slLTerm : Array (Option Value)} {ocLTerm kVLTerm dcLTerm pmLTerm cdLTerm ctLTerm : Value}
    {fLForm : Addr} {odLForm anLForm : Option Addr} {slLForm : Array (Option Value)} {ocLForm kVLForm dcLForm pmLForm cdLForm ctLForm : Value}
    {fLVal : Addr} {odLVal anLVal : Option Addr} {slLVal : Array (Option Value)} {ocLVal kVLVal dcLVal pmLVal cdLVal ctLVal : Value}
    {fLHolds : Addr} {odLHolds anLHolds : Option Addr} {slLHolds : Array (Option Value)} {ocLHolds kVLHolds dcLHolds pmLHolds cdLHolds ctLHolds : Value}
    {fLRef : Addr} {odLRef anLRef : Option Addr} {slLRef : Array (Option Value)} {ocLRef kVLRef dcLRef pmLRef cdLRef ctLRef : Value}
    {fLaw : Addr} {odLaw anLaw : Option Addr} {slLaw : Array (Option Value)} {ocLaw kVLaw dcLaw pmLaw cdLaw ctLaw : Value}
    {CT CW aJ aC dT dF : Addr} {ddJ ddC : Option Addr} {vsJ vsC : Array Value} {slJ slC : Array (Option Value)} {nJ nC nT nF : Nat} {esT esF : Array DictEntry}
    {tL t8 tP tG tT tU tW j1 j2 j3 j4 j5 c1 c2 c3 : Tok}
    (aNum : PySem.W.nsIn K mainGlobals "is_number" = some (some (.ref fNum)))
    (lNum : K.lookup fNum = some ⟨ocNum, odNum, .func (PySem.W.fnOf "is_number" "is_number" (defArgs sNum) (defBody sNum) (defScope sNum) .none kVNum dcNum pmNum anNum cdNum ctNum), slNum⟩)
    (cNum : PySem.W.codeIn K cdNum "is_number" = true)
    (kNum : PySem.W.keepIn K (.ref fNum) = true)
    (aWrd : PySem.W.nsIn K mainGlobals "is_word" = some (some (.ref fWrd)))
    (lWrd : K.lookup fWrd = some ⟨ocWrd, odWrd, .func (PySem.W.fnOf "is_word" "is_word" (defArgs sWord) (defBody sWord) (defScope sWord) .none kVWrd dcWrd pmWrd anWrd cdWrd ctWrd), slWrd⟩)
    (cWrd : PySem.W.codeIn K cdWrd "is_word" = true)
    (kWrd : PySem.W.keepIn K (.ref fWrd) = true)
    (aLow : PySem.W.nsIn K mainGlobals "lowest_bits" = some (some (.ref fLow)))
    (lLow : K.lookup fLow = some ⟨ocLow, odLow, .func (PySem.W.fnOf "lowest_bits" "lowest_bits" (defArgs sLow) (defBody sLow) (defScope sLow) .none kVLow dcLow pmLow anLow cdLow ctLow), slLow⟩)
    (cLow : PySem.W.codeIn K cdLow "lowest_bits" = true)
    (kLow : PySem.W.keepIn K (.ref fLow) = true)
    (aWide : PySem.W.nsIn K mainGlobals "is_wide" = some (some (.ref fWide)))
    (lWide : K.lookup fWide = some ⟨ocWide, odWide, .func (PySem.W.fnOf "is_wide" "is_wide" (defArgs sWide) (defBody sWide) (defScope sWide) .none kVWide dcWide pmWide anWide cdWide ctWide), slWide⟩)
    (cWide : PySem.W.codeIn K cdWide "is_wide" = true)
    (kWide : PySem.W.keepIn K (.ref fWide) = true)
    (aTaken : PySem.W.nsIn K mainGlobals "taken_off" = some (some (.ref fTaken)))
    (lTaken : K.lookup fTaken = some ⟨ocTaken, odTaken, .func (PySem.W.fnOf "taken_off" "taken_off" (defArgs sTaken) (defBody sTaken) (defScope sTaken) .none kVTaken dcTaken pmTaken anTaken cdTaken ctTaken), slTaken⟩)
    (cTaken : PySem.W.codeIn K cdTaken "taken_off" = true)
    (kTaken : PySem.W.keepIn K (.ref fTaken) = true)
    (aTerms : PySem.W.nsIn K mainGlobals "terms_in" = some (some (.ref fTerms)))
    (lTerms : K.lookup fTerms = some ⟨ocTerms, odTerms, .func (PySem.W.fnOf "terms_in" "terms_in" (defArgs sTerms) (defBody sTerms) (defScope sTerms) .none kVTerms dcTerms pmTerms anTerms cdTerms ctTerms), slTerms⟩)
    (cTerms : PySem.W.codeIn K cdTerms "terms_in" = true)
    (kTerms : PySem.W.keepIn K (.ref fTerms) = true)
    (aBetw : PySem.W.nsIn K mainGlobals "is_between" = some (some (.ref fBetw)))
    (lBetw : K.lookup fBetw = some ⟨ocBetw, odBetw, .func (PySem.W.fnOf "is_between" "is_between" (defArgs sBetw) (defBody sBetw) (defScope sBetw) .none kVBetw dcBetw pmBetw anBetw cdBetw ctBetw), slBetw⟩)
    (cBetw : PySem.W.codeIn K cdBetw "is_between" = true)
    (kBetw : PySem.W.keepIn K (.ref fBetw) = true)
    (aParts : PySem.W.nsIn K mainGlobals "parts_in" = some (some (.ref fParts)))
    (lParts : K.lookup fParts = some ⟨ocParts, odParts, .func (PySem.W.fnOf "parts_in" "parts_in" (defArgs sParts) (defBody sParts) (defScope sParts) .none kVParts dcParts pmParts anParts cdParts ctParts), slParts⟩)
    (cParts : PySem.W.codeIn K cdParts "parts_in" = true)
    (kParts : PySem.W.keepIn K (.ref fParts) = true)
    (aOrd : PySem.W.nsIn K mainGlobals "ordered_parts" = some (some (.ref fOrd)))
    (lOrd : K.lookup fOrd = some ⟨ocOrd, odOrd, .func (PySem.W.fnOf "ordered_parts" "ordered_parts" (defArgs sOrd) (defBody sOrd) (defScope sOrd) .none kVOrd dcOrd pmOrd anOrd cdOrd ctOrd), slOrd⟩)
    (cOrd : PySem.W.codeIn K cdOrd "ordered_parts" = true)
    (kOrd : PySem.W.keepIn K (.ref fOrd) = true)
    (aNames : PySem.W.nsIn K mainGlobals "names_in" = some (some (.ref fNames)))
    (lNames : K.lookup fNames = some ⟨ocNames, odNames, .func (PySem.W.fnOf "names_in" "names_in" (defArgs sNames) (defBody sNames) (defScope sNames) .none kVNames dcNames pmNames anNames cdNames ctNames), slNames⟩)
    (cNames : PySem.W.codeIn K cdNames "names_in" = true)
    (kNames : PySem.W.keepIn K (.ref fNames) = true)
    (aNeedP : PySem.W.nsIn K mainGlobals "need_parts" = some (some (.ref fNeedP)))
    (lNeedP : K.lookup fNeedP = some ⟨ocNeedP, odNeedP, .func (PySem.W.fnOf "need_parts" "need_parts" (defArgs sNeedP) (defBody sNeedP) (defScope sNeedP) .none kVNeedP dcNeedP pmNeedP anNeedP cdNeedP ctNeedP), slNeedP⟩)
    (cNeedP : PySem.W.codeIn K cdNeedP "need_parts" = true)
    (kNeedP : PySem.W.keepIn K (.ref fNeedP) = true)
    (aNeedW : PySem.W.nsIn K mainGlobals "need_width" = some (some (.ref fNeedW)))
    (lNeedW : K.lookup fNeedW = some ⟨ocNeedW, odNeedW, .func (PySem.W.fnOf "need_width" "need_width" (defArgs sNeedW) (defBody sNeedW) (defScope sNeedW) .none kVNeedW dcNeedW pmNeedW anNeedW cdNeedW ctNeedW), slNeedW⟩)
    (cNeedW : PySem.W.codeIn K cdNeedW "need_width" = true)
    (kNeedW : PySem.W.keepIn K (.ref fNeedW) = true)
    (aAreV : PySem.W.nsIn K mainGlobals "are_values" = some (some (.ref fAreV)))
    (lAreV : K.lookup fAreV = some ⟨ocAreV, odAreV, .func (PySem.W.fnOf "are_values" "are_values" (defArgs sAreV) (defBody sAreV) (defScope sAreV) .none kVAreV dcAreV pmAreV anAreV cdAreV ctAreV), slAreV⟩)
    (cAreV : PySem.W.codeIn K cdAreV "are_values" = true)
    (kAreV : PySem.W.keepIn K (.ref fAreV) = true)
    (aNeedV : PySem.W.nsIn K mainGlobals "need_values" = some (some (.ref fNeedV)))
    (lNeedV : K.lookup fNeedV = some ⟨ocNeedV, odNeedV, .func (PySem.W.fnOf "need_values" "need_values" (defArgs sNeedV) (defBody sNeedV) (defScope sNeedV) .none kVNeedV dcNeedV pmNeedV anNeedV cdNeedV ctNeedV), slNeedV⟩)
    (cNeedV : PySem.W.codeIn K cdNeedV "need_values" = true)
    (kNeedV : PySem.W.keepIn K (.ref fNeedV) = true)
    (aWTold : PySem.W.nsIn K mainGlobals "told_number" = some (some (.ref fWTold)))
    (lWTold : K.lookup fWTold = some ⟨ocWTold, odWTold, .func (PySem.W.fnOf "told_number" "told_number" (defArgs sWTold) (defBody sWTold) (defScope sWTold) .none kVWTold dcWTold pmWTold anWTold cdWTold ctWTold), slWTold⟩)
    (cWTold : PySem.W.codeIn K cdWTold "told_number" = true)
    (kWTold : PySem.W.keepIn K (.ref fWTold) = true)
    (aWDen : PySem.W.nsIn K mainGlobals "denied" = some (some (.ref fWDen)))
    (lWDen : K.lookup fWDen = some ⟨ocWDen, odWDen, .func (PySem.W.fnOf "denied" "denied" (defArgs sWDen) (defBody sWDen) (defScope sWDen) .none kVWDen dcWDen pmWDen anWDen cdWDen ctWDen), slWDen⟩)
    (cWDen : PySem.W.codeIn K cdWDen "denied" = true)
    (kWDen : PySem.W.keepIn K (.ref fWDen) = true)
    (aWTimes : PySem.W.nsIn K mainGlobals "times" = some (some (.ref fWTimes)))
    (lWTimes : K.lookup fWTimes = some ⟨ocWTimes, odWTimes, .func (PySem.W.fnOf "times" "times" (defArgs sWTimes) (defBody sWTimes) (defScope sWTimes) .none kVWTimes dcWTimes pmWTimes anWTimes cdWTimes ctWTimes), slWTimes⟩)
    (cWTimes : PySem.W.codeIn K cdWTimes "times" = true)
    (kWTimes : PySem.W.keepIn K (.ref fWTimes) = true)
    (aWUp : PySem.W.nsIn K mainGlobals "moved_up" = some (some (.ref fWUp)))
    (lWUp : K.lookup fWUp = some ⟨ocWUp, odWUp, .func (PySem.W.fnOf "moved_up" "moved_up" (defArgs sWUp) (defBody sWUp) (defScope sWUp) .none kVWUp dcWUp pmWUp anWUp cdWUp ctWUp), slWUp⟩)
    (cWUp : PySem.W.codeIn K cdWUp "moved_up" = true)
    (kWUp : PySem.W.keepIn K (.ref fWUp) = true)
    (aWAdd : PySem.W.nsIn K mainGlobals "added" = some (some (.ref fWAdd)))
    (lWAdd : K.lookup fWAdd = some ⟨ocWAdd, odWAdd, .func (PySem.W.fnOf "added" "added" (defArgs sWAdd) (defBody sWAdd) (defScope sWAdd) .none kVWAdd dcWAdd pmWAdd anWAdd cdWAdd ctWAdd), slWAdd⟩)
    (cWAdd : PySem.W.codeIn K cdWAdd "added" = true)
    (kWAdd : PySem.W.keepIn K (.ref fWAdd) = true)
    (aWSub : PySem.W.nsIn K mainGlobals "lessened" = some (some (.ref fWSub)))
    (lWSub : K.lookup fWSub = some ⟨ocWSub, odWSub, .func (PySem.W.fnOf "lessened" "lessened" (defArgs sWSub) (defBody sWSub) (defScope sWSub) .none kVWSub dcWSub pmWSub anWSub cdWSub ctWSub), slWSub⟩)
    (cWSub : PySem.W.codeIn K cdWSub "lessened" = true)
    (kWSub : PySem.W.keepIn K (.ref fWSub) = true)
    (aWBoth : PySem.W.nsIn K mainGlobals "both" = some (some (.ref fWBoth)))
    (lWBoth : K.lookup fWBoth = some ⟨ocWBoth, odWBoth, .func (PySem.W.fnOf "both" "both" (defArgs sWBoth) (defBody sWBoth) (defScope sWBoth) .none kVWBoth dcWBoth pmWBoth anWBoth cdWBoth ctWBoth), slWBoth⟩)
    (cWBoth : PySem.W.codeIn K cdWBoth "both" = true)
    (kWBoth : PySem.W.keepIn K (.ref fWBoth) = true)
    (aWEith : PySem.W.nsIn K mainGlobals "either" = some (some (.ref fWEith)))
    (lWEith : K.lookup fWEith = some ⟨ocWEith, odWEith, .func (PySem.W.fnOf "either" "either" (defArgs sWEith) (defBody sWEith) (defScope sWEith) .none kVWEith dcWEith pmWEith anWEith cdWEith ctWEith), slWEith⟩)
    (cWEith : PySem.W.codeIn K cdWEith "either" = true)
    (kWEith : PySem.W.keepIn K (.ref fWEith) = true)
    (aWUnl : PySem.W.nsIn K mainGlobals "unlike" = some (some (.ref fWUnl)))
    (lWUnl : K.lookup fWUnl = some ⟨ocWUnl, odWUnl, .func (PySem.W.fnOf "unlike" "unlike" (defArgs sWUnl) (defBody sWUnl) (defScope sWUnl) .none kVWUnl dcWUnl pmWUnl anWUnl cdWUnl ctWUnl), slWUnl⟩)
    (cWUnl : PySem.W.codeIn K cdWUnl "unlike" = true)
    (kWUnl : PySem.W.keepIn K (.ref fWUnl) = true)
    (aWEq : PySem.W.nsIn K mainGlobals "equal" = some (some (.ref fWEq)))
    (lWEq : K.lookup fWEq = some ⟨ocWEq, odWEq, .func (PySem.W.fnOf "equal" "equal" (defArgs sWEq) (defBody sWEq) (defScope sWEq) .none kVWEq dcWEq pmWEq anWEq cdWEq ctWEq), slWEq⟩)
    (cWEq : PySem.W.codeIn K cdWEq "equal" = true)
    (kWEq : PySem.W.keepIn K (.ref fWEq) = true)
    (aWLess : PySem.W.nsIn K mainGlobals "less" = some (some (.ref fWLess)))
    (lWLess : K.lookup fWLess = some ⟨ocWLess, odWLess, .func (PySem.W.fnOf "less" "less" (defArgs sWLess) (defBody sWLess) (defScope sWLess) .none kVWLess dcWLess pmWLess anWLess cdWLess ctWLess), slWLess⟩)
    (cWLess : PySem.W.codeIn K cdWLess "less" = true)
    (kWLess : PySem.W.keepIn K (.ref fWLess) = true)
    (aWBel : PySem.W.nsIn K mainGlobals "below" = some (some (.ref fWBel)))
    (lWBel : K.lookup fWBel = some ⟨ocWBel, odWBel, .func (PySem.W.fnOf "below" "below" (defArgs sWBel) (defBody sWBel) (defScope sWBel) .none kVWBel dcWBel pmWBel anWBel cdWBel ctWBel), slWBel⟩)
    (cWBel : PySem.W.codeIn K cdWBel "below" = true)
    (kWBel : PySem.W.keepIn K (.ref fWBel) = true)
    (aWTurn : PySem.W.nsIn K mainGlobals "turned" = some (some (.ref fWTurn)))
    (lWTurn : K.lookup fWTurn = some ⟨ocWTurn, odWTurn, .func (PySem.W.fnOf "turned" "turned" (defArgs sWTurn) (defBody sWTurn) (defScope sWTurn) .none kVWTurn dcWTurn pmWTurn anWTurn cdWTurn ctWTurn), slWTurn⟩)
    (cWTurn : PySem.W.codeIn K cdWTurn "turned" = true)
    (kWTurn : PySem.W.keepIn K (.ref fWTurn) = true)
    (aWEvery : PySem.W.nsIn K mainGlobals "every" = some (some (.ref fWEvery)))
    (lWEvery : K.lookup fWEvery = some ⟨ocWEvery, odWEvery, .func (PySem.W.fnOf "every" "every" (defArgs sWEvery) (defBody sWEvery) (defScope sWEvery) .none kVWEvery dcWEvery pmWEvery anWEvery cdWEvery ctWEvery), slWEvery⟩)
    (cWEvery : PySem.W.codeIn K cdWEvery "every" = true)
    (kWEvery : PySem.W.keepIn K (.ref fWEvery) = true)
    (aWSome : PySem.W.nsIn K mainGlobals "some" = some (some (.ref fWSome)))
    (lWSome : K.lookup fWSome = some ⟨ocWSome, odWSome, .func (PySem.W.fnOf "some" "some" (defArgs sWSome) (defBody sWSome) (defScope sWSome) .none kVWSome dcWSome pmWSome anWSome cdWSome ctWSome), slWSome⟩)
    (cWSome : PySem.W.codeIn K cdWSome "some" = true)
    (kWSome : PySem.W.keepIn K (.ref fWSome) = true)
    (aToldAt : PySem.W.nsIn K mainGlobals "told_at" = some (some (.ref fToldAt)))
    (lToldAt : K.lookup fToldAt = some ⟨ocToldAt, odToldAt, .func (PySem.W.fnOf "told_at" "told_at" (defArgs sToldAt) (defBody sToldAt) (defScope sToldAt) .none kVToldAt dcToldAt pmToldAt anToldAt cdToldAt ctToldAt), slToldAt⟩)
    (cToldAt : PySem.W.codeIn K cdToldAt "told_at" = true)
    (kToldAt : PySem.W.keepIn K (.ref fToldAt) = true)
    (aWordOf : PySem.W.nsIn K mainGlobals "word_of" = some (some (.ref fWordOf)))
    (lWordOf : K.lookup fWordOf = some ⟨ocWordOf, odWordOf, .func (PySem.W.fnOf "word_of" "word_of" (defArgs sWordOf) (defBody sWordOf) (defScope sWordOf) .none kVWordOf dcWordOf pmWordOf anWordOf cdWordOf ctWordOf), slWordOf⟩)
    (cWordOf : PySem.W.codeIn K cdWordOf "word_of" = true)
    (kWordOf : PySem.W.keepIn K (.ref fWordOf) = true)
    (aHolds : PySem.W.nsIn K mainGlobals "holds_at" = some (some (.ref fHolds)))
    (lHolds : K.lookup fHolds = some ⟨ocHolds, odHolds, .func (PySem.W.fnOf "holds_at" "holds_at" (defArgs sHolds) (defBody sHolds) (defScope sHolds) .none kVHolds dcHolds pmHolds anHolds cdHolds ctHolds), slHolds⟩)
    (cHolds : PySem.W.codeIn K cdHolds "holds_at" = true)
    (kHolds : PySem.W.keepIn K (.ref fHolds) = true)
    (aDraw : PySem.W.nsIn K mainGlobals "_law_draw" = some (some (.ref fDraw)))
    (lDraw : K.lookup fDraw = some ⟨ocDraw, odDraw, .func (PySem.W.fnOf "_law_draw" "_law_draw" (defArgs sDraw) (defBody sDraw) (defScope sDraw) .none kVDraw dcDraw pmDraw anDraw cdDraw ctDraw), slDraw⟩)
    (cDraw : PySem.W.codeIn K cdDraw "_law_draw" = true)
    (kDraw : PySem.W.keepIn K (.ref fDraw) = true)
    (aLTerm : PySem.W.nsIn K mainGlobals "_law_term" = some (some (.ref fLTerm)))
    (lLTerm : K.lookup fLTerm = some ⟨ocLTerm, odLTerm, .func (PySem.W.fnOf "_law_term" "_law_term" (defArgs sLTerm) (defBody sLTerm) (defScope sLTerm) .none kVLTerm dcLTerm pmLTerm anLTerm cdLTerm ctLTerm), slLTerm⟩)
    (cLTerm : PySem.W.codeIn K cdLTerm "_law_term" = true)
    (kLTerm : PySem.W.keepIn K (.ref fLTerm) = true)
    (aLForm : PySem.W.nsIn K mainGlobals "_law_formula" = some (some (.ref fLForm)))
    (lLForm : K.lookup fLForm = some ⟨ocLForm, odLForm, .func (PySem.W.fnOf "_law_formula" "_law_formula" (defArgs sLForm) (defBody sLForm) (defScope sLForm) .none kVLForm dcLForm pmLForm anLForm cdLForm ctLForm), slLForm⟩)
    (cLForm : PySem.W.codeIn K cdLForm "_law_formula" = true)
    (kLForm : PySem.W.keepIn K (.ref fLForm) = true)
    (aLVal : PySem.W.nsIn K mainGlobals "_law_value" = some (some (.ref fLVal)))
    (lLVal : K.lookup fLVal = some ⟨ocLVal, odLVal, .func (PySem.W.fnOf "_law_value" "_law_value" (defArgs sLVal) (defBody sLVal) (defScope sLVal) .none kVLVal dcLVal pmLVal anLVal cdLVal ctLVal), slLVal⟩)
    (cLVal : PySem.W.codeIn K cdLVal "_law_value" = true)
    (kLVal : PySem.W.keepIn K (.ref fLVal) = true)
    (aLHolds : PySem.W.nsIn K mainGlobals "_law_holds" = some (some (.ref fLHolds)))
    (lLHolds : K.lookup fLHolds = some ⟨ocLHolds, odLHolds, .func (PySem.W.fnOf "_law_holds" "_law_holds" (defArgs sLHolds) (defBody sLHolds) (defScope sLHolds) .none kVLHolds dcLHolds pmLHolds anLHolds cdLHolds ctLHolds), slLHolds⟩)
    (cLHolds : PySem.W.codeIn K cdLHolds "_law_holds" = true)
    (kLHolds : PySem.W.keepIn K (.ref fLHolds) = true)
    (aLRef : PySem.W.nsIn K mainGlobals "_law_refused" = some (some (.ref fLRef)))
    (lLRef : K.lookup fLRef = some ⟨ocLRef, odLRef, .func (PySem.W.fnOf "_law_refused" "_law_refused" (defArgs sLRef) (defBody sLRef) (defScope sLRef) .none kVLRef dcLRef pmLRef anLRef cdLRef ctLRef), slLRef⟩)
    (cLRef : PySem.W.codeIn K cdLRef "_law_refused" = true)
    (kLRef : PySem.W.keepIn K (.ref fLRef) = true)
    (aLaw : PySem.W.nsIn K mainGlobals "law" = some (some (.ref fLaw)))
    (lLaw : K.lookup fLaw = some ⟨ocLaw, odLaw, .func (PySem.W.fnOf "law" "law" (defArgs sLaw) (defBody sLaw) (defScope sLaw) .none kVLaw dcLaw pmLaw anLaw cdLaw ctLaw), slLaw⟩)
    (cLaw : PySem.W.codeIn K cdLaw "law" = true)
    (kLaw : PySem.W.keepIn K (.ref fLaw) = true)
    (aCT : PySem.W.nsIn K mainGlobals "BadTerm" = some (some (.ref CT)))
    (qCT : PySem.W.excIn K CT [.type "ValueError", .type "Exception", .type "BaseException", .type "object"] "ValueError.__new__" = true)
    (kCT : PySem.W.keepIn K (.ref CT) = true)
    (bCT : PySem.W.subIn K (.ref CT) (.type "BaseException") = some true)
    (tCT : PySem.W.typeIn K (.ref CT) = some (.type "type"))
    (iCT : PySem.W.isClsIn K CT = true)
    (sCT : PySem.W.subIn K (.ref CT) (.ref CT) = some true)
    (aCW : PySem.W.nsIn K mainGlobals "BadWidth" = some (some (.ref CW)))
    (qCW : PySem.W.excIn K CW [.type "ValueError", .type "Exception", .type "BaseException", .type "object"] "ValueError.__new__" = true)
    (kCW : PySem.W.keepIn K (.ref CW) = true)
    (bCW : PySem.W.subIn K (.ref CW) (.type "BaseException") = some true)
    (tCW : PySem.W.typeIn K (.ref CW) = some (.type "type"))
    (iCW : PySem.W.isClsIn K CW = true)
    (sCW : PySem.W.subIn K (.ref CW) (.ref CW) = some true)
    (sWT : PySem.W.subIn K (.ref CW) (.ref CT) = some false)
    (gL : PySem.W.nsIn K mainGlobals "LETTERS" = some (some (.str "abcdefghijklmnopqrstuvwxyz" tL)))
    (g8 : PySem.W.nsIn K mainGlobals "LONGEST_WORD" = some (some (.int 8 t8)))
    (gP : PySem.W.nsIn K mainGlobals "MOST_PARTS" = some (some (.int 40 tP)))
    (gG : PySem.W.nsIn K mainGlobals "GREATEST_NUMBER" = some (some (.int 1000 tG)))
    (gT_ : PySem.W.nsIn K mainGlobals "MOST_TIMES" = some (some (.int 30 tT)))
    (gU : PySem.W.nsIn K mainGlobals "MOST_UP" = some (some (.int 6 tU)))
    (gW : PySem.W.nsIn K mainGlobals "WIDEST" = some (some (.int 200 tW)))
    (aJ_ : PySem.W.nsIn K mainGlobals "JOINING" = some (some (.ref aJ)))
    (oJ : K.lookup aJ = some ⟨.type "tuple", ddJ, .seq vsJ nJ, slJ⟩)
    (vJ : vsJ = #[.str "+" j1, .str "-" j2, .str "&" j3, .str "|" j4, .str "^" j5])
    (aC_ : PySem.W.nsIn K mainGlobals "COMPARING" = some (some (.ref aC)))
    (oC : K.lookup aC = some ⟨.type "tuple", ddC, .seq vsC nC, slC⟩)
    (vC : vsC = #[.str "equal" c1, .str "less" c2, .str "below" c3])
    (aWT : PySem.W.nsIn K mainGlobals "TERM_WORKERS" = some (some (.ref dT)))
    (oWT : K.lookup dT = some ⟨.type "dict", none, .dict esT nT, #[]⟩)
    (kWT : PySem.W.KeysLit w.params esT.toList)
    (lWT : (dT == sysModules) = false)
    (aWF : PySem.W.nsIn K mainGlobals "FORMULA_WORKERS" = some (some (.ref dF)))
    (oWF : K.lookup dF = some ⟨.type "dict", none, .dict esF nF, #[]⟩)
    (kWF : PySem.W.KeysLit w.params esF.toList)
    (lWF : (dF == sysModules) = false)
    (w0 : PySem.W.nsIn K dT "number" = some (some (.ref fWTold)))
    (w1 : PySem.W.nsIn K dT "~" = some (some (.ref fWDen)))
    (w2 : PySem.W.nsIn K dT "times" = some (some (.ref fWTimes)))
    (w3 : PySem.W.nsIn K dT "up" = some (some (.ref fWUp)))
    (w4 : PySem.W.nsIn K dT "+" = some (some (.ref fWAdd)))
    (w5 : PySem.W.nsIn K dT "-" = some (some (.ref fWSub)))
    (w6 : PySem.W.nsIn K dT "&" = some (some (.ref fWBoth)))
    (w7 : PySem.W.nsIn K dT "|" = some (some (.ref fWEith)))
    (w8 : PySem.W.nsIn K dT "^" = some (some (.ref fWUnl)))
    (w9 : PySem.W.nsIn K dF "equal" = some (some (.ref fWEq)))
    (n9 : PySem.W.nsIn K dT "equal" = some none)
    (w10 : PySem.W.nsIn K dF "less" = some (some (.ref fWLess)))
    (n10 : PySem.W.nsIn K dT "less" = some none)
    (w11 : PySem.W.nsIn K dF "below" = some (some (.ref fWBel)))
    (n11 : PySem.W.nsIn K dT "below" = some none)
    (w12 : PySem.W.nsIn K dF "not" = some (some (.ref fWTurn)))
    (n12 : PySem.W.nsIn K dT "not" = some none)
    (w13 : PySem.W.nsIn K dF "and" = some (some (.ref fWEvery)))
    (n13 : PySem.W.nsIn K dT "and" = some none)
    (w14 : PySem.W.nsIn K dF "or" = some (some (.ref fWSome)))
    (n14 : PySem.W.nsIn K dT "or" = some none)
    (z0 : PySem.W.nsIn K mainGlobals "isinstance" = some none)
    (z1 : PySem.W.nsIn K mainGlobals "int" = some none)
    (z2 : PySem.W.nsIn K mainGlobals "bool" = some none)
    (z3 : PySem.W.nsIn K mainGlobals "str" = some none)
    (z4 : PySem.W.nsIn K mainGlobals "tuple" = some none)
    (z5 : PySem.W.nsIn K mainGlobals "dict" = some none)
    (z6 : PySem.W.nsIn K mainGlobals "len" = some none)
    (z7 : PySem.W.nsIn K mainGlobals "all" = some none)
    (z8 : PySem.W.nsIn K mainGlobals "any" = some none)
    (z9 : PySem.W.nsIn K mainGlobals "min" = some none)
    (z10 : PySem.W.nsIn K mainGlobals "max" = some none)
    (z11 : PySem.W.nsIn K mainGlobals "sorted" = some none)
    (z12 : PySem.W.nsIn K mainGlobals "enumerate" = some none)
    (z13 : PySem.W.nsIn K mainGlobals "range" = some none)
    : HasLaw l w K mg fa := by
  have e := hfa.symm.trans (PySem.W.mg_of X G aLaw)
  cases e
  subst vJ
  subst vC
  have T : Txt K mg := ⟨⟨_, PySem.W.mg_of X G gL, _, rfl⟩, ⟨_, PySem.W.mg_of X G g8, _, rfl⟩, ⟨_, PySem.W.mg_of X G gP, _, rfl⟩, ⟨_, PySem.W.mg_of X G gG, _, rfl⟩, ⟨_, PySem.W.mg_of X G gT_, _, rfl⟩, ⟨_, PySem.W.mg_of X G gU, _, rfl⟩, ⟨_, PySem.W.mg_of X G gW, _, rfl⟩,
    ⟨aJ, PySem.W.mg_of X G aJ_, fun H => .inr ⟨_, _, _, oJ, rfl, rfl, (by show 5 ≤ sizeLine; decide), .cons ⟨_, rfl⟩ (.cons ⟨_, rfl⟩ (.cons ⟨_, rfl⟩ (.cons ⟨_, rfl⟩ (.cons ⟨_, rfl⟩ .nil))))⟩⟩,
    ⟨aC, PySem.W.mg_of X G aC_, fun H => .inr ⟨_, _, _, oC, rfl, rfl, (by show 3 ≤ sizeLine; decide), .cons ⟨_, rfl⟩ (.cons ⟨_, rfl⟩ (.cons ⟨_, rfl⟩ .nil))⟩⟩,
    PySem.W.mg_none_of X G z0, PySem.W.mg_none_of X G z1, PySem.W.mg_none_of X G z2, PySem.W.mg_none_of X G z3, PySem.W.mg_none_of X G z4, PySem.W.mg_none_of X G z5, PySem.W.mg_none_of X G z6, PySem.W.mg_none_of X G z7, PySem.W.mg_none_of X G z8, PySem.W.mg_none_of X G z9, PySem.W.mg_none_of X G z10, PySem.W.mg_none_of X G z11, PySem.W.mg_none_of X G z12, PySem.W.mg_none_of X G z13⟩
  have TCT : ErrC K mg "BadTerm" CT := ⟨qCT, PySem.W.mg_of X G aCT, kCT, bCT, tCT⟩
  have TCW : ErrC K mg "BadWidth" CW := ⟨qCW, PySem.W.mg_of X G aCW, kCW, bCW, tCW⟩
  have e1 := exm_ab bCT iCT tCT sCT
  have e2 := exm_ab bCT iCT tCT sWT
  have e3 := exm_ab bCW iCW tCW sCW
  have FNum := fun_mk (st := sNum) lNum cNum kNum
  have FWrd := fun_mk (st := sWord) lWrd cWrd kWrd
  have FLow := fun_mk (st := sLow) lLow cLow kLow
  have FWide := fun_mk (st := sWide) lWide cWide kWide
  have FTaken := fun_mk (st := sTaken) lTaken cTaken kTaken
  have FTerms := fun_mk (st := sTerms) lTerms cTerms kTerms
  have FBetw := fun_mk (st := sBetw) lBetw cBetw kBetw
  have FParts := fun_mk (st := sParts) lParts cParts kParts
  have FOrd := fun_mk (st := sOrd) lOrd cOrd kOrd
  have FNames := fun_mk (st := sNames) lNames cNames kNames
  have FNeedP := fun_mk (st := sNeedP) lNeedP cNeedP kNeedP
  have FNeedW := fun_mk (st := sNeedW) lNeedW cNeedW kNeedW
  have FAreV := fun_mk (st := sAreV) lAreV cAreV kAreV
  have FNeedV := fun_mk (st := sNeedV) lNeedV cNeedV kNeedV
  have FWTold := fun_mk (st := sWTold) lWTold cWTold kWTold
  have FWDen := fun_mk (st := sWDen) lWDen cWDen kWDen
  have FWTimes := fun_mk (st := sWTimes) lWTimes cWTimes kWTimes
  have FWUp := fun_mk (st := sWUp) lWUp cWUp kWUp
  have FWAdd := fun_mk (st := sWAdd) lWAdd cWAdd kWAdd
  have FWSub := fun_mk (st := sWSub) lWSub cWSub kWSub
  have FWBoth := fun_mk (st := sWBoth) lWBoth cWBoth kWBoth
  have FWEith := fun_mk (st := sWEith) lWEith cWEith kWEith
  have FWUnl := fun_mk (st := sWUnl) lWUnl cWUnl kWUnl
  have FWEq := fun_mk (st := sWEq) lWEq cWEq kWEq
  have FWLess := fun_mk (st := sWLess) lWLess cWLess kWLess
  have FWBel := fun_mk (st := sWBel) lWBel cWBel kWBel
  have FWTurn := fun_mk (st := sWTurn) lWTurn cWTurn kWTurn
  have FWEvery := fun_mk (st := sWEvery) lWEvery cWEvery kWEvery
  have FWSome := fun_mk (st := sWSome) lWSome cWSome kWSome
  have FToldAt := fun_mk (st := sToldAt) lToldAt cToldAt kToldAt
  have FWordOf := fun_mk (st := sWordOf) lWordOf cWordOf kWordOf
  have FHolds := fun_mk (st := sHolds) lHolds cHolds kHolds
  have FDraw := fun_mk (st := sDraw) lDraw cDraw kDraw
  have FLTerm := fun_mk (st := sLTerm) lLTerm cLTerm kLTerm
  have FLForm := fun_mk (st := sLForm) lLForm cLForm kLForm
  have FLVal := fun_mk (st := sLVal) lLVal cLVal kLVal
  have FLHolds := fun_mk (st := sLHolds) lLHolds cLHolds kLHolds
  have FLRef := fun_mk (st := sLRef) lLRef cLRef kLRef
  have FLaw := fun_mk (st := sLaw) lLaw cLaw kLaw
  have bNum := FNum.binds (ps := ["thing"]) fun _ _ _ _ _ _ us hl => match us, hl with | [_], _ => rfl
  have gNum' := PySem.W.mg_of X G aNum
  have bWrd := FWrd.binds (ps := ["thing"]) fun _ _ _ _ _ _ us hl => match us, hl with | [_], _ => rfl
  have gWrd' := PySem.W.mg_of X G aWrd
  have bLow := FLow.binds (ps := ["number", "width"]) fun _ _ _ _ _ _ us hl => match us, hl with | [_, _], _ => rfl
  have gLow' := PySem.W.mg_of X G aLow
  have bWide := FWide.binds (ps := ["thing", "width"]) fun _ _ _ _ _ _ us hl => match us, hl with | [_, _], _ => rfl
  have gWide' := PySem.W.mg_of X G aWide
  have bTaken := FTaken.binds (ps := ["stack", "many"]) fun _ _ _ _ _ _ us hl => match us, hl with | [_, _], _ => rfl
  have gTaken' := PySem.W.mg_of X G aTaken
  have bTerms := FTerms.binds (ps := ["thing"]) fun _ _ _ _ _ _ us hl => match us, hl with | [_], _ => rfl
  have gTerms' := PySem.W.mg_of X G aTerms
  have bBetw := FBetw.binds (ps := ["thing", "least", "most"]) fun _ _ _ _ _ _ us hl => match us, hl with | [_, _, _], _ => rfl
  have gBetw' := PySem.W.mg_of X G aBetw
  have bParts := FParts.binds (ps := ["thing", "asked"]) fun _ _ _ _ _ _ us hl => match us, hl with | [_, _], _ => rfl
  have gParts' := PySem.W.mg_of X G aParts
  have bOrd := FOrd.binds (ps := ["thing", "asked"]) fun _ _ _ _ _ _ us hl => match us, hl with | [_, _], _ => rfl
  have gOrd' := PySem.W.mg_of X G aOrd
  have bNames := FNames.binds (ps := ["parts"]) fun _ _ _ _ _ _ us hl => match us, hl with | [_], _ => rfl
  have gNames' := PySem.W.mg_of X G aNames
  have bNeedP := FNeedP.binds (ps := ["thing", "asked"]) fun _ _ _ _ _ _ us hl => match us, hl with | [_, _], _ => rfl
  have gNeedP' := PySem.W.mg_of X G aNeedP
  have bNeedW := FNeedW.binds (ps := ["width"]) fun _ _ _ _ _ _ us hl => match us, hl with | [_], _ => rfl
  have gNeedW' := PySem.W.mg_of X G aNeedW
  have bAreV := FAreV.binds (ps := ["names", "width", "values"]) fun _ _ _ _ _ _ us hl => match us, hl with | [_, _, _], _ => rfl
  have gAreV' := PySem.W.mg_of X G aAreV
  have bNeedV := FNeedV.binds (ps := ["names", "width", "values"]) fun _ _ _ _ _ _ us hl => match us, hl with | [_, _, _], _ => rfl
  have gNeedV' := PySem.W.mg_of X G aNeedV
  have bWTold := FWTold.binds (ps := ["part", "taken", "width"]) fun _ _ _ _ _ _ us hl => match us, hl with | [_, _, _], _ => rfl
  have gWTold' := PySem.W.mg_of X G aWTold
  have bWDen := FWDen.binds (ps := ["part", "taken", "width"]) fun _ _ _ _ _ _ us hl => match us, hl with | [_, _, _], _ => rfl
  have gWDen' := PySem.W.mg_of X G aWDen
  have bWTimes := FWTimes.binds (ps := ["part", "taken", "width"]) fun _ _ _ _ _ _ us hl => match us, hl with | [_, _, _], _ => rfl
  have gWTimes' := PySem.W.mg_of X G aWTimes
  have bWUp := FWUp.binds (ps := ["part", "taken", "width"]) fun _ _ _ _ _ _ us hl => match us, hl with | [_, _, _], _ => rfl
  have gWUp' := PySem.W.mg_of X G aWUp
  have bWAdd := FWAdd.binds (ps := ["part", "taken", "width"]) fun _ _ _ _ _ _ us hl => match us, hl with | [_, _, _], _ => rfl
  have gWAdd' := PySem.W.mg_of X G aWAdd
  have bWSub := FWSub.binds (ps := ["part", "taken", "width"]) fun _ _ _ _ _ _ us hl => match us, hl with | [_, _, _], _ => rfl
  have gWSub' := PySem.W.mg_of X G aWSub
  have bWBoth := FWBoth.binds (ps := ["part", "taken", "width"]) fun _ _ _ _ _ _ us hl => match us, hl with | [_, _, _], _ => rfl
  have gWBoth' := PySem.W.mg_of X G aWBoth
  have bWEith := FWEith.binds (ps := ["part", "taken", "width"]) fun _ _ _ _ _ _ us hl => match us, hl with | [_, _, _], _ => rfl
  have gWEith' := PySem.W.mg_of X G aWEith
  have bWUnl := FWUnl.binds (ps := ["part", "taken", "width"]) fun _ _ _ _ _ _ us hl => match us, hl with | [_, _, _], _ => rfl
  have gWUnl' := PySem.W.mg_of X G aWUnl
  have bWEq := FWEq.binds (ps := ["part", "taken", "width"]) fun _ _ _ _ _ _ us hl => match us, hl with | [_, _, _], _ => rfl
  have gWEq' := PySem.W.mg_of X G aWEq
  have bWLess := FWLess.binds (ps := ["part", "taken", "width"]) fun _ _ _ _ _ _ us hl => match us, hl with | [_, _, _], _ => rfl
  have gWLess' := PySem.W.mg_of X G aWLess
  have bWBel := FWBel.binds (ps := ["part", "taken", "width"]) fun _ _ _ _ _ _ us hl => match us, hl with | [_, _, _], _ => rfl
  have gWBel' := PySem.W.mg_of X G aWBel
  have bWTurn := FWTurn.binds (ps := ["part", "taken", "width"]) fun _ _ _ _ _ _ us hl => match us, hl with | [_, _, _], _ => rfl
  have gWTurn' := PySem.W.mg_of X G aWTurn
  have bWEvery := FWEvery.binds (ps := ["part", "taken", "width"]) fun _ _ _ _ _ _ us hl => match us, hl with | [_, _, _], _ => rfl
  have gWEvery' := PySem.W.mg_of X G aWEvery
  have bWSome := FWSome.binds (ps := ["part", "taken", "width"]) fun _ _ _ _ _ _ us hl => match us, hl with | [_, _, _], _ => rfl
  have gWSome' := PySem.W.mg_of X G aWSome
  have bToldAt := FToldAt.binds (ps := ["parts", "width", "values"]) fun _ _ _ _ _ _ us hl => match us, hl with | [_, _, _], _ => rfl
  have gToldAt' := PySem.W.mg_of X G aToldAt
  have bWordOf := FWordOf.binds (ps := ["term", "width", "values"]) fun _ _ _ _ _ _ us hl => match us, hl with | [_, _, _], _ => rfl
  have gWordOf' := PySem.W.mg_of X G aWordOf
  have bHolds := FHolds.binds (ps := ["formula", "width", "values"]) fun _ _ _ _ _ _ us hl => match us, hl with | [_, _, _], _ => rfl
  have gHolds' := PySem.W.mg_of X G aHolds
  have bDraw := FDraw.binds (ps := ["script", "at", "many"]) fun _ _ _ _ _ _ us hl => match us, hl with | [_, _, _], _ => rfl
  have gDraw' := PySem.W.mg_of X G aDraw
  have bLTerm := FLTerm.binds (ps := ["script", "at", "depth"]) fun _ _ _ _ _ _ us hl => match us, hl with | [_, _, _], _ => rfl
  have gLTerm' := PySem.W.mg_of X G aLTerm
  have bLForm := FLForm.binds (ps := ["script", "at", "depth"]) fun _ _ _ _ _ _ us hl => match us, hl with | [_, _, _], _ => rfl
  have gLForm' := PySem.W.mg_of X G aLForm
  have bLVal := FLVal.binds (ps := ["term", "width", "values"]) fun _ _ _ _ _ _ us hl => match us, hl with | [_, _, _], _ => rfl
  have gLVal' := PySem.W.mg_of X G aLVal
  have bLHolds := FLHolds.binds (ps := ["formula", "width", "values"]) fun _ _ _ _ _ _ us hl => match us, hl with | [_, _, _], _ => rfl
  have gLHolds' := PySem.W.mg_of X G aLHolds
  have bLRef := FLRef.binds (ps := ["number", "told", "width", "values", "kind"]) fun _ _ _ _ _ _ us hl => match us, hl with | [_, _, _, _, _], _ => rfl
  have gLRef' := PySem.W.mg_of X G aLRef
  refine ⟨PySem.W.fnOf "law" "law" (defArgs sLaw) (defBody sLaw) (defScope sLaw) .none kVLaw dcLaw pmLaw anLaw cdLaw ctLaw, fun s v => .of_eq rfl, fun base _ _ => ?_⟩
  have dNum : Dfn l.prog w K mg base "is_number" 1 ["thing"] spNum fNum _ := ⟨ok_num FNum T, gNum', kNum, bNum⟩
  have dWrd : Dfn l.prog w K mg base "is_word" 1 ["thing"] spWrd fWrd _ := ⟨ok_wrd FWrd T, gWrd', kWrd, bWrd⟩
  have dLow : Dfn l.prog w K mg base "lowest_bits" 1 ["number", "width"] spLow fLow _ := ⟨ok_low FLow, gLow', kLow, bLow⟩
  have dWide : Dfn l.prog w K mg base "is_wide" 2 ["thing", "width"] spWide fWide _ := ⟨ok_wide FWide dNum, gWide', kWide, bWide⟩
  have dTaken : Dfn l.prog w K mg base "taken_off" 1 ["stack", "many"] spTaken fTaken _ := ⟨ok_taken FTaken T, gTaken', kTaken, bTaken⟩
  have dBetw : Dfn l.prog w K mg base "is_between" 2 ["thing", "least", "most"] spBet fBetw _ := ⟨ok_bet FBetw dNum, gBetw', kBetw, bBetw⟩
  have dTerms : Dfn l.prog w K mg base "terms_in" 3 ["thing"] spTerms fTerms _ := ⟨ok_terms FTerms T dWrd dBetw, gTerms', kTerms, bTerms⟩
  have dParts : Dfn l.prog w K mg base "parts_in" 4 ["thing", "asked"] spParts fParts _ := ⟨ok_parts FParts T dTerms, gParts', kParts, bParts⟩
  have dOrd : Dfn l.prog w K mg base "ordered_parts" 5 ["thing", "asked"] spOrd fOrd _ := ⟨ok_ord FOrd T dParts, gOrd', kOrd, bOrd⟩
  have dNames : Dfn l.prog w K mg base "names_in" 1 ["parts"] spNames fNames _ := ⟨ok_names FNames T, gNames', kNames, bNames⟩
  have dNeedP : DfX l.prog w K mg base "need_parts" 6 ["thing", "asked"] (spNeedP CT) fNeedP _ := ⟨ok_needP FNeedP dOrd TCT, gNeedP', kNeedP, bNeedP⟩
  have dNeedW : DfX l.prog w K mg base "need_width" 2 ["width"] (spNeedW CW) fNeedW _ := ⟨ok_needW FNeedW T dNum TCW, gNeedW', kNeedW, bNeedW⟩
  have dAreV : Dfn l.prog w K mg base "are_values" 3 ["names", "width", "values"] spAreV fAreV _ := ⟨ok_areV FAreV T dWide, gAreV', kAreV, bAreV⟩
  have dNeedV : DfX l.prog w K mg base "need_values" 4 ["names", "width", "values"] (spNeedV CT) fNeedV _ := ⟨ok_needV FNeedV dAreV TCT, gNeedV', kNeedV, bNeedV⟩
  let L : List Addr := [fWTold, fWDen, fWTimes, fWUp, fWAdd, fWSub, fWBoth, fWEith, fWUnl, fWEq, fWLess, fWBel, fWTurn, fWEvery, fWSome]
  have s0 : wkS K L fWTold = some (spWk gTold) := wkS_of lWTold rfl rfl (by simp [L])
  have s1 : wkS K L fWDen = some (spWk gDen) := wkS_of lWDen rfl rfl (by simp [L])
  have s2 : wkS K L fWTimes = some (spWk gTimes) := wkS_of lWTimes rfl rfl (by simp [L])
  have s3 : wkS K L fWUp = some (spWk gUp) := wkS_of lWUp rfl rfl (by simp [L])
  have s4 : wkS K L fWAdd = some (spWk gAdd) := wkS_of lWAdd rfl rfl (by simp [L])
  have s5 : wkS K L fWSub = some (spWk gSub) := wkS_of lWSub rfl rfl (by simp [L])
  have s6 : wkS K L fWBoth = some (spWk gBoth) := wkS_of lWBoth rfl rfl (by simp [L])
  have s7 : wkS K L fWEith = some (spWk gEith) := wkS_of lWEith rfl rfl (by simp [L])
  have s8 : wkS K L fWUnl = some (spWk gUnl) := wkS_of lWUnl rfl rfl (by simp [L])
  have s9 : wkS K L fWEq = some (spWk gEq) := wkS_of lWEq rfl rfl (by simp [L])
  have s10 : wkS K L fWLess = some (spWk gLess) := wkS_of lWLess rfl rfl (by simp [L])
  have s11 : wkS K L fWBel = some (spWk gBel) := wkS_of lWBel rfl rfl (by simp [L])
  have s12 : wkS K L fWTurn = some (spWk gTurn) := wkS_of lWTurn rfl rfl (by simp [L])
  have s13 : wkS K L fWEvery = some (spWk gEvery) := wkS_of lWEvery rfl rfl (by simp [L])
  have s14 : wkS K L fWSome = some (spWk gSome) := wkS_of lWSome rfl rfl (by simp [L])
  have A0 : ∀ f sp, wkS K L f = some sp → Held l.prog w K mg base 1 f sp := by
    intro f sp hs
    by_cases hm : f ∈ L
    · replace hm : f ∈ [fWTold, fWDen, fWTimes, fWUp, fWAdd, fWSub, fWBoth, fWEith, fWUnl, fWEq, fWLess, fWBel, fWTurn, fWEvery, fWSome] := hm
      rcases List.mem_cons.mp hm with rfl | hm
      · rw [s0] at hs; cases hs; exact ⟨_, _, ok_wTold FWTold, kWTold, bWTold⟩
      rcases List.mem_cons.mp hm with rfl | hm
      · rw [s1] at hs; cases hs; exact ⟨_, _, ok_wDen FWDen, kWDen, bWDen⟩
      rcases List.mem_cons.mp hm with rfl | hm
      · rw [s2] at hs; cases hs; exact ⟨_, _, ok_wTimes FWTimes, kWTimes, bWTimes⟩
      rcases List.mem_cons.mp hm with rfl | hm
      · rw [s3] at hs; cases hs; exact ⟨_, _, ok_wUp FWUp, kWUp, bWUp⟩
      rcases List.mem_cons.mp hm with rfl | hm
      · rw [s4] at hs; cases hs; exact ⟨_, _, ok_wAdd FWAdd, kWAdd, bWAdd⟩
      rcases List.mem_cons.mp hm with rfl | hm
      · rw [s5] at hs; cases hs; exact ⟨_, _, ok_wSub FWSub, kWSub, bWSub⟩
      rcases List.mem_cons.mp hm with rfl | hm
      · rw [s6] at hs; cases hs; exact ⟨_, _, ok_wBoth FWBoth, kWBoth, bWBoth⟩
      rcases List.mem_cons.mp hm with rfl | hm
      · rw [s7] at hs; cases hs; exact ⟨_, _, ok_wEith FWEith, kWEith, bWEith⟩
      rcases List.mem_cons.mp hm with rfl | hm
      · rw [s8] at hs; cases hs; exact ⟨_, _, ok_wUnl FWUnl, kWUnl, bWUnl⟩
      rcases List.mem_cons.mp hm with rfl | hm
      · rw [s9] at hs; cases hs; exact ⟨_, _, ok_wEq FWEq, kWEq, bWEq⟩
      rcases List.mem_cons.mp hm with rfl | hm
      · rw [s10] at hs; cases hs; exact ⟨_, _, ok_wLess FWLess, kWLess, bWLess⟩
      rcases List.mem_cons.mp hm with rfl | hm
      · rw [s11] at hs; cases hs; exact ⟨_, _, ok_wBel FWBel, kWBel, bWBel⟩
      rcases List.mem_cons.mp hm with rfl | hm
      · rw [s12] at hs; cases hs; exact ⟨_, _, ok_wTurn FWTurn, kWTurn, bWTurn⟩
      rcases List.mem_cons.mp hm with rfl | hm
      · rw [s13] at hs; cases hs; exact ⟨_, _, ok_wEvery FWEvery T, kWEvery, bWEvery⟩
      rcases List.mem_cons.mp hm with rfl | hm
      · rw [s14] at hs; cases hs; exact ⟨_, _, ok_wSome FWSome T, kWSome, bWSome⟩
      cases hm
    · unfold wkS at hs; rw [if_neg hm] at hs; cases hs
  have W : Wks w K mg (wkS K L) := by
    refine ⟨⟨dT, esT, nT, PySem.W.mg_of X G aWT, ⟨oWT, kWT, lWT⟩, fun k g hk => ?_, fun k g hk => ?_⟩, ⟨dF, esF, nF, PySem.W.mg_of X G aWF, ⟨oWF, kWF, lWF⟩, fun k g hk => ?_⟩⟩
    · unfold gT at hk
      by_cases c0 : k = "number"
      · rw [if_pos c0] at hk; cases hk; subst c0; exact ⟨_, w0, s0⟩
      rw [if_neg c0] at hk
      by_cases c1 : k = "~"
      · rw [if_pos c1] at hk; cases hk; subst c1; exact ⟨_, w1, s1⟩
      rw [if_neg c1] at hk
      by_cases c2 : k = "times"
      · rw [if_pos c2] at hk; cases hk; subst c2; exact ⟨_, w2, s2⟩
      rw [if_neg c2] at hk
      by_cases c3 : k = "up"
      · rw [if_pos c3] at hk; cases hk; subst c3; exact ⟨_, w3, s3⟩
      rw [if_neg c3] at hk
      by_cases c4 : k = "+"
      · rw [if_pos c4] at hk; cases hk; subst c4; exact ⟨_, w4, s4⟩
      rw [if_neg c4] at hk
      by_cases c5 : k = "-"
      · rw [if_pos c5] at hk; cases hk; subst c5; exact ⟨_, w5, s5⟩
      rw [if_neg c5] at hk
      by_cases c6 : k = "&"
      · rw [if_pos c6] at hk; cases hk; subst c6; exact ⟨_, w6, s6⟩
      rw [if_neg c6] at hk
      by_cases c7 : k = "|"
      · rw [if_pos c7] at hk; cases hk; subst c7; exact ⟨_, w7, s7⟩
      rw [if_neg c7] at hk
      by_cases c8 : k = "^"
      · rw [if_pos c8] at hk; cases hk; subst c8; exact ⟨_, w8, s8⟩
      rw [if_neg c8] at hk
      cases hk
    · unfold gF at hk
      by_cases c9 : k = "equal"
      · rw [if_pos c9] at hk; cases hk; subst c9; exact n9
      rw [if_neg c9] at hk
      by_cases c10 : k = "less"
      · rw [if_pos c10] at hk; cases hk; subst c10; exact n10
      rw [if_neg c10] at hk
      by_cases c11 : k = "below"
      · rw [if_pos c11] at hk; cases hk; subst c11; exact n11
      rw [if_neg c11] at hk
      by_cases c12 : k = "not"
      · rw [if_pos c12] at hk; cases hk; subst c12; exact n12
      rw [if_neg c12] at hk
      by_cases c13 : k = "and"
      · rw [if_pos c13] at hk; cases hk; subst c13; exact n13
      rw [if_neg c13] at hk
      by_cases c14 : k = "or"
      · rw [if_pos c14] at hk; cases hk; subst c14; exact n14
      rw [if_neg c14] at hk
      cases hk
    · unfold gF at hk
      by_cases c9 : k = "equal"
      · rw [if_pos c9] at hk; cases hk; subst c9; exact ⟨_, w9, s9⟩
      rw [if_neg c9] at hk
      by_cases c10 : k = "less"
      · rw [if_pos c10] at hk; cases hk; subst c10; exact ⟨_, w10, s10⟩
      rw [if_neg c10] at hk
      by_cases c11 : k = "below"
      · rw [if_pos c11] at hk; cases hk; subst c11; exact ⟨_, w11, s11⟩
      rw [if_neg c11] at hk
      by_cases c12 : k = "not"
      · rw [if_pos c12] at hk; cases hk; subst c12; exact ⟨_, w12, s12⟩
      rw [if_neg c12] at hk
      by_cases c13 : k = "and"
      · rw [if_pos c13] at hk; cases hk; subst c13; exact ⟨_, w13, s13⟩
      rw [if_neg c13] at hk
      by_cases c14 : k = "or"
      · rw [if_pos c14] at hk; cases hk; subst c14; exact ⟨_, w14, s14⟩
      rw [if_neg c14] at hk
      cases hk
  have dToldAt : Dfn l.prog w K mg base "told_at" 2 ["parts", "width", "values"] spTold fToldAt _ := ⟨ok_told FToldAt T W A0 dTaken dLow, gToldAt', kToldAt, bToldAt⟩
  have dWordOf : DfX l.prog w K mg base "word_of" 7 ["term", "width", "values"] (spWO false CT CW) fWordOf _ := ⟨ok_wordOf FWordOf dNeedP dNeedW dNeedV dNames dToldAt, gWordOf', kWordOf, bWordOf⟩
  have dHolds : DfX l.prog w K mg base "holds_at" 7 ["formula", "width", "values"] (spWO true CT CW) fHolds _ := ⟨ok_holds FHolds dNeedP dNeedW dNeedV dNames dToldAt, gHolds', kHolds, bHolds⟩
  have dDraw : Dfn l.prog w K mg base "_law_draw" 1 ["script", "at", "many"] (spDraw K) fDraw _ := ⟨ok_draw FDraw T, gDraw', kDraw, bDraw⟩
  have dLTerm : Dfn l.prog w K mg base "_law_term" 5 ["script", "at", "depth"] (spLT K 3) fLTerm _ := ⟨ok_lt FLTerm gLTerm' kLTerm bLTerm dDraw 3, gLTerm', kLTerm, bLTerm⟩
  have dLTerm2 : Dfn l.prog w K mg base "_law_term" 4 ["script", "at", "depth"] (spLT K 2) fLTerm _ := ⟨ok_lt FLTerm gLTerm' kLTerm bLTerm dDraw 2, gLTerm', kLTerm, bLTerm⟩
  have dLForm : Dfn l.prog w K mg base "_law_formula" 6 ["script", "at", "depth"] (spLF K 1) fLForm _ := ⟨ok_lf1 FLForm gLForm' kLForm bLForm dDraw dLTerm2, gLForm', kLForm, bLForm⟩
  have dLVal : Dfn l.prog w K mg base "_law_value" 4 ["term", "width", "values"] (spLV 3) fLVal _ := ⟨ok_lv FLVal T gLVal' kLVal bLVal 3, gLVal', kLVal, bLVal⟩
  have dLVal2 : Dfn l.prog w K mg base "_law_value" 3 ["term", "width", "values"] (spLV 2) fLVal _ := ⟨ok_lv FLVal T gLVal' kLVal bLVal 2, gLVal', kLVal, bLVal⟩
  have dLHolds0 : Dfn l.prog w K mg base "_law_holds" 4 ["formula", "width", "values"] (spLH 0) fLHolds _ := ⟨ok_lh0 FLHolds dLVal2, gLHolds', kLHolds, bLHolds⟩
  have dLHolds : Dfn l.prog w K mg base "_law_holds" 5 ["formula", "width", "values"] (spLH 1) fLHolds _ := ⟨ok_lh1 FLHolds T dLHolds0 dLVal2, gLHolds', kLHolds, bLHolds⟩
  have dLRef : Dfn l.prog w K mg base "_law_refused" 8 ["number", "told", "width", "values", "kind"] spRef fLRef _ := ⟨ok_ref FLRef dWordOf dHolds TCT TCW e1 e2 e3, gLRef', kLRef, bLRef⟩
  exact ok_law FLaw T dDraw dLTerm dLForm dLVal dLHolds dWordOf dHolds dLRef
theorem walk {l : PySem.W.OpenLaw} {q : Program} {loose : List Str} {XP : (Str → Option Value) → Heap → Prop} {YP : World → Heap → Prop} {d : DefRec} {K : Params → PySem.W.Frag} (hn : l.most = some 63) (hdf : d.params.defaults = [])
    (hY : ∀ (w : World) (h : Heap), YP w h → (K w.params).In h)
    (F : ∀ (w : World) (mg : Str → Option Value) (fa : Addr) (h : Heap), (K w.params).In h → h.Ns mainGlobals mg → mg d.name = some (.ref fa) → HasLaw l w (K w.params) mg fa) :
    PySem.W.WalkO q loose XP YP l.row.toRowW d [] (fun f vs => PySem.call f vs) :=
  L2.walk_of (n := 63) (k := 9) (x := "script") (CX := fun _ => CX0) (sp := fun w => spLaw (K w.params)) hn (by decide) hdf ⟨rfl, by decide, by decide⟩ hY F (fun _ _ a ns hl _ hS => ⟨a, ns, rfl, hS, hl, fun _ => rfl⟩) fun _ _ _ _ _ z => z
end K8
open PySem PySem.W PyProof.Rows
set_option maxRecDepth 100000 in
set_option maxHeartbeats 0 in
theorem PySem.Challenge.cw_beatwires_k08_whole_words_holds : PySem.Challenge.rw_beatwires_k08_whole_words.Holds := by
  w_on; o_law; k_head; (case hw => w_witness2)
  k_fill
  refine K8.walk (l := PySem.Challenge.rw_beatwires_k08_whole_words) rfl rfl (fun w h Y => PySem.W.kIn_of Y) ?F
  case F =>
    intro w mg fa h KX G hmg
    refine' K8.all_mk KX G hmg ?aNum ?lNum ?cNum ?kNum ?aWrd ?lWrd ?cWrd ?kWrd ?aLow ?lLow ?cLow ?kLow ?aWide ?lWide ?cWide ?kWide ?aTaken ?lTaken ?cTaken ?kTaken ?aTerms ?lTerms ?cTerms ?kTerms ?aBetw ?lBetw ?cBetw ?kBetw ?aParts ?lParts ?cParts ?kParts ?aOrd ?lOrd ?cOrd ?kOrd ?aNames ?lNames ?cNames ?kNames ?aNeedP ?lNeedP ?cNeedP ?kNeedP ?aNeedW ?lNeedW ?cNeedW ?kNeedW ?aAreV ?lAreV ?cAreV ?kAreV ?aNeedV ?lNeedV ?cNeedV ?kNeedV ?aWTold ?lWTold ?cWTold ?kWTold ?aWDen ?lWDen ?cWDen ?kWDen ?aWTimes ?lWTimes ?cWTimes ?kWTimes ?aWUp ?lWUp ?cWUp ?kWUp ?aWAdd ?lWAdd ?cWAdd ?kWAdd ?aWSub ?lWSub ?cWSub ?kWSub ?aWBoth ?lWBoth ?cWBoth ?kWBoth ?aWEith ?lWEith ?cWEith ?kWEith ?aWUnl ?lWUnl ?cWUnl ?kWUnl ?aWEq ?lWEq ?cWEq ?kWEq ?aWLess ?lWLess ?cWLess ?kWLess ?aWBel ?lWBel ?cWBel ?kWBel ?aWTurn ?lWTurn ?cWTurn ?kWTurn ?aWEvery ?lWEvery ?cWEvery ?kWEvery ?aWSome ?lWSome ?cWSome ?kWSome ?aToldAt ?lToldAt ?cToldAt ?kToldAt ?aWordOf ?lWordOf ?cWordOf ?kWordOf ?aHolds ?lHolds ?cHolds ?kHolds ?aDraw ?lDraw ?cDraw ?kDraw ?aLTerm ?lLTerm ?cLTerm ?kLTerm ?aLForm ?lLForm ?cLForm ?kLForm ?aLVal ?lLVal ?cLVal ?kLVal ?aLHolds ?lLHolds ?cLHolds ?kLHolds ?aLRef ?lLRef ?cLRef ?kLRef ?aLaw ?lLaw ?cLaw ?kLaw ?aCT ?qCT ?kCT ?bCT ?tCT ?iCT ?sCT ?aCW ?qCW ?kCW ?bCW ?tCW ?iCW ?sCW ?sWT ?gL ?g8 ?gP ?gG ?gT_ ?gU ?gW ?aJ_ ?oJ ?vJ ?aC_ ?oC ?vC ?aWT ?oWT ?kWT ?lWT ?aWF ?oWF ?kWF ?lWF ?w0 ?w1 ?w2 ?w3 ?w4 ?w5 ?w6 ?w7 ?w8 ?w9 ?n9 ?w10 ?n10 ?w11 ?n11 ?w12 ?n12 ?w13 ?n13 ?w14 ?n14 ?z0 ?z1 ?z2 ?z3 ?z4 ?z5 ?z6 ?z7 ?z8 ?z9 ?z10 ?z11 ?z12 ?z13
    (case aNum => k_is); (case lNum => k_is); (case cNum => k_is); (case kNum => k_is); (case aWrd => k_is); (case lWrd => k_is)
    (case cWrd => k_is); (case kWrd => k_is); (case aLow => k_is); (case lLow => k_is); (case cLow => k_is); (case kLow => k_is)
    (case aWide => k_is); (case lWide => k_is); (case cWide => k_is); (case kWide => k_is); (case aTaken => k_is); (case lTaken => k_is)
    (case cTaken => k_is); (case kTaken => k_is); (case aTerms => k_is); (case lTerms => k_is); (case cTerms => k_is); (case kTerms => k_is)
    (case aBetw => k_is); (case lBetw => k_is); (case cBetw => k_is); (case kBetw => k_is); (case aParts => k_is); (case lParts => k_is)
    (case cParts => k_is); (case kParts => k_is); (case aOrd => k_is); (case lOrd => k_is); (case cOrd => k_is); (case kOrd => k_is)
    (case aNames => k_is); (case lNames => k_is); (case cNames => k_is); (case kNames => k_is); (case aNeedP => k_is); (case lNeedP => k_is)
    (case cNeedP => k_is); (case kNeedP => k_is); (case aNeedW => k_is); (case lNeedW => k_is); (case cNeedW => k_is); (case kNeedW => k_is)
    (case aAreV => k_is); (case lAreV => k_is); (case cAreV => k_is); (case kAreV => k_is); (case aNeedV => k_is); (case lNeedV => k_is)
    (case cNeedV => k_is); (case kNeedV => k_is); (case aWTold => k_is); (case lWTold => k_is); (case cWTold => k_is); (case kWTold => k_is)
    (case aWDen => k_is); (case lWDen => k_is); (case cWDen => k_is); (case kWDen => k_is); (case aWTimes => k_is); (case lWTimes => k_is)
    (case cWTimes => k_is); (case kWTimes => k_is); (case aWUp => k_is); (case lWUp => k_is); (case cWUp => k_is); (case kWUp => k_is)
    (case aWAdd => k_is); (case lWAdd => k_is); (case cWAdd => k_is); (case kWAdd => k_is); (case aWSub => k_is); (case lWSub => k_is)
    (case cWSub => k_is); (case kWSub => k_is); (case aWBoth => k_is); (case lWBoth => k_is); (case cWBoth => k_is); (case kWBoth => k_is)
    (case aWEith => k_is); (case lWEith => k_is); (case cWEith => k_is); (case kWEith => k_is); (case aWUnl => k_is); (case lWUnl => k_is)
    (case cWUnl => k_is); (case kWUnl => k_is); (case aWEq => k_is); (case lWEq => k_is); (case cWEq => k_is); (case kWEq => k_is)
    (case aWLess => k_is); (case lWLess => k_is); (case cWLess => k_is); (case kWLess => k_is); (case aWBel => k_is); (case lWBel => k_is)
    (case cWBel => k_is); (case kWBel => k_is); (case aWTurn => k_is); (case lWTurn => k_is); (case cWTurn => k_is); (case kWTurn => k_is)
    (case aWEvery => k_is); (case lWEvery => k_is); (case cWEvery => k_is); (case kWEvery => k_is); (case aWSome => k_is); (case lWSome => k_is)
    (case cWSome => k_is); (case kWSome => k_is); (case aToldAt => k_is); (case lToldAt => k_is); (case cToldAt => k_is); (case kToldAt => k_is)
    (case aWordOf => k_is); (case lWordOf => k_is); (case cWordOf => k_is); (case kWordOf => k_is); (case aHolds => k_is); (case lHolds => k_is)
    (case cHolds => k_is); (case kHolds => k_is); (case aDraw => k_is); (case lDraw => k_is); (case cDraw => k_is); (case kDraw => k_is)
    (case aLTerm => k_is); (case lLTerm => k_is); (case cLTerm => k_is); (case kLTerm => k_is); (case aLForm => k_is); (case lLForm => k_is)
    (case cLForm => k_is); (case kLForm => k_is); (case aLVal => k_is); (case lLVal => k_is); (case cLVal => k_is); (case kLVal => k_is)
    (case aLHolds => k_is); (case lLHolds => k_is); (case cLHolds => k_is); (case kLHolds => k_is); (case aLRef => k_is); (case lLRef => k_is)
    (case cLRef => k_is); (case kLRef => k_is); (case aLaw => k_is); (case lLaw => k_is); (case cLaw => k_is); (case kLaw => k_is)
    (case aCT => k_is); (case qCT => k_exc); (case kCT => k_is); (case bCT => k_is); (case tCT => k_is); (case iCT => k_is)
    (case sCT => k_is); (case aCW => k_is); (case qCW => k_exc); (case kCW => k_is); (case bCW => k_is); (case tCW => k_is)
    (case iCW => k_is); (case sCW => k_is); (case sWT => k_is); (case gL => k_is); (case g8 => k_is); (case gP => k_is)
    (case gG => k_is); (case gT_ => k_is); (case gU => k_is); (case gW => k_is); (case aJ_ => k_is); (case oJ => k_is)
    (case vJ => rfl); (case aC_ => k_is); (case oC => k_is); (case vC => rfl); (case aWT => k_is); (case oWT => k_is)
    (case kWT => k_keys); (case lWT => rfl); (case aWF => k_is); (case oWF => k_is); (case kWF => k_keys); (case lWF => rfl)
    (case w0 => k_is); (case w1 => k_is); (case w2 => k_is); (case w3 => k_is); (case w4 => k_is); (case w5 => k_is)
    (case w6 => k_is); (case w7 => k_is); (case w8 => k_is); (case w9 => k_is); (case n9 => k_is); (case w10 => k_is)
    (case n10 => k_is); (case w11 => k_is); (case n11 => k_is); (case w12 => k_is); (case n12 => k_is); (case w13 => k_is)
    (case n13 => k_is); (case w14 => k_is); (case n14 => k_is); (case z0 => k_is); (case z1 => k_is); (case z2 => k_is)
    (case z3 => k_is); (case z4 => k_is); (case z5 => k_is); (case z6 => k_is); (case z7 => k_is); (case z8 => k_is)
    (case z9 => k_is); (case z10 => k_is); (case z11 => k_is); (case z12 => k_is); (case z13 => k_is)
