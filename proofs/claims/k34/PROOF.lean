import PyProof.Rows.All
import Wide.All
import OpenK.AllK
import Wide.FinOn
import HandS.ForMost
import HandS.Deep
import HandS.ForExc
import HandS.TupSets
import HandS.Zip
import HandS.TupAny
import HandS.TupMul
import HandS.IsInst
import HandS.SortInts
import HandS.Conv
import HandS.DictTup
import HandS.Small
import HandS.ExcIs
import HandS.ExcField
import HandS.Iter
import KE.GoesEnum
import PyProof.WalksEnum
import PyProof.EnumMake
import HandS.Strs
import KE.SortData
import HandS.SetFor
import HandS.DictComp
import HandS.WordsDict
import HandS.Style
import HandS.SortKw
import HandS.RevRange
import PyProof.CollectIter
import HandS.NoneIn
import KE.KeyNested
import PySem.Challenge.RW_twoways_k34_deeds_in_stretches
set_option Elab.async false
set_option linter.all false
set_option maxRecDepth 100000
set_option maxHeartbeats 4000000
/-! DL: a layer of data over HandS: the defs' meaning as plain functions on data. Part 1: cells, the relation, steps. -/
namespace DL
open PySem PySem.Spec PyProof.Rows L2

abbrev St := L2.St
/-- a key: a pair of pairs of whole numbers -/
abbrev PK := (Int × Int) × (Int × Int)
/-- what an owned object holds: a list of frozen data, a dict -/
inductive OD where
  | lst (ds : List PyData)
  | dk (kvs : List (Key × PyData))
  | dt (kvs : List (List Key × PyData))
  | ins (c : Str) (fs : List (Str × PyData))
  | dn (kvs : List (PK × Bool))
  | ts (P : Program) (w : World) (ks : List (List Key))
/-- a slot: unknown, frozen data, an object that this def alone holds, an object that the caller lent -/
inductive Cell where
  | un
  | val (d : PyData)
  | own (o : OD)
  | io (o : OD)
abbrev DEnv := List Cell
/-- an exception: its class's name, its fields -/
structure Exn where
  cls : Str
  fs : List (Str × PyData)
inductive Res (α : Type) where
  | ok (a : α) (ρ : DEnv)
  | err (x : Exn) (ρ : DEnv)
  | bad
def Res.bind {α β : Type} (r : Res α) (f : α → DEnv → Res β) : Res β := match r with
  | .ok a ρ => f a ρ
  | .err x ρ => .err x ρ
  | .bad => .bad
@[simp] theorem Res.bind_ok {α β : Type} (a : α) (ρ : DEnv) (f : α → DEnv → Res β) : (Res.ok a ρ).bind f = f a ρ := rfl
@[simp] theorem Res.bind_err {α β : Type} (x : Exn) (ρ : DEnv) (f : α → DEnv → Res β) : (Res.err x ρ : Res α).bind f = .err x ρ := rfl
@[simp] theorem Res.bind_bad {α β : Type} (f : α → DEnv → Res β) : (Res.bad : Res α).bind f = .bad := rfl

/-- the script, and any other list of ints that is only read: no list that may be added to -/
def keyDat : Key → PyData
  | .inl i => .int i
  | .inr x => .str x
/-- a frozen dict; the first pair is a mark -/
def dkD (kvs : List (Key × PyData)) : PyData := .dict ((.bool true, .none) :: kvs.map fun kv => (keyDat kv.1, kv.2))
def scrD (ns : List Int) : PyData := .dict ((.none, .none) :: ns.map fun i => (.int i, .none))
mutual
/-- v is the data d in the heap G -/
inductive Rp (K : PySem.W.Frag) (G : Hp) : V → PyData → Prop where
  | non : Rp K G .non .none
  | bl (b : Bool) : Rp K G (.bl b) (.bool b)
  | int (i : Int) : Rp K G (.int i) (.int i)
  | str (x : Str) : Rp K G (.str x) (.str x)
  | lst {a : Addr} {xs : List V} {ds : List PyData} : G a = some (.lst xs) → RpAll K G xs ds → Rp K G (.ref a) (.list ds)
  | tup {a : Addr} {xs : List V} {ds : List PyData} : SqT K G a xs → RpAll K G xs ds → Rp K G (.ref a) (.tuple ds)
  | scr {a : Addr} {ns : List Int} : SqL K G a (ns.map V.int) → Rp K G (.ref a) (scrD ns)
  | dic {a : Addr} {ks : List Key} {vs : List V} {ds : List PyData} : G a = some (.dK (ks.zip vs)) → ks.length = vs.length → RpAll K G vs ds → Rp K G (.ref a) (dkD (ks.zip ds))
inductive RpAll (K : PySem.W.Frag) (G : Hp) : List V → List PyData → Prop where
  | nil : RpAll K G [] []
  | cons {v : V} {vs : List V} {d : PyData} {ds : List PyData} : Rp K G v d → RpAll K G vs ds → RpAll K G (v :: vs) (d :: ds)
end
def OwnL (σ : St) (ρ : DEnv) (b : Addr) : Prop := ∃ (i : Nat) (o : OD), ρ[i]? = some (Cell.own o) ∧ σ[i]? = some (some (V.ref b))
def OwnI (σ : St) (ρ : DEnv) (b : Addr) : Prop := ∃ (i : Nat) (o : OD), ρ[i]? = some (Cell.io o) ∧ σ[i]? = some (some (V.ref b))
def KvAll {κ : Type} (K : PySem.W.Frag) (G : Hp) : List (κ × V) → List (κ × PyData) → Prop := Paired fun a b => a.1 = b.1 ∧ Rp K G a.2 b.2
def phash (p : PK) : Int := reduceHash (Builtin.Tuple.tupleHashOf [reduceHash (Builtin.Tuple.tupleHashOf [hashInt p.1.1, hashInt p.1.2]), reduceHash (Builtin.Tuple.tupleHashOf [hashInt p.2.1, hashInt p.2.2])])
def pent (x : PK × Addr × Bool) : DictEntry := ⟨phash x.1, .ref x.2.1, .bool x.2.2⟩
def NDR (h : Heap) (a : Addr) (L : List (PK × Addr × Bool)) : Prop := (L.length ≤ sizeLine ∧ (a == sysModules) = false ∧ (L.map (·.1)).Nodup) ∧ ∃ o es ep, h.get? a = some o ∧ o.ExactDict ∧ o.data = .dict es ep ∧ es.toList = L.map pent
def NDO (a : Addr) (L : List (PK × Addr × Bool)) : HO := .ext fun h => NDR h a L
def KeyT (K : PySem.W.Frag) (H : Hp) (p : PK) (b : Addr) : Prop := ∃ b1 b2, SqT K H b [.ref b1, .ref b2] ∧ SqT K H b1 [.int p.1.1, .int p.1.2] ∧ SqT K H b2 [.int p.2.1, .int p.2.2]
/-- a set of tuples of ints and texts at a: the rows in the order of the table -/
abbrev khash (P : Program) (w : World) (k : List Key) : Int := tupleKeyHash (mixKind P w) k
def krows (P : Program) (w : World) (L : List (Addr × List Key)) : List (Int × Value) := L.map fun p => (khash P w p.2, Value.ref p.1)
structure SK0 (P : Program) (w : World) (h : Heap) (a : Addr) (L : List (Addr × List Key)) (o : Obj) (es : Array (Int × Value)) (ep : Nat) (t : SetTable) : Prop where
  at_ : h.get? a = some o
  exact_ : o.ExactSet
  dat : o.data = .set es ep t
  rows : es.toList = krows P w L
  tab : TabOk t (L.map fun p => khash P w p.2)
  nd : (L.map (·.2)).Nodup
  led : w.params.followText "set-order" = true ∨ t.led = true
  room : L.length * 5 < t.mask * 3
  few : L.length < 64
def SKO (P : Program) (w : World) (a : Addr) (L : List (Addr × List Key)) : HO := .ext fun h => ∃ o es ep t, SK0 P w h a L o es ep t
def OwnAt (K : PySem.W.Frag) (G H : Hp) (p : Addr) : OD → Prop
  | .lst ds => ∃ vs, H p = some (.lst vs) ∧ RpAll K G vs ds
  | .dk kvs => ∃ vs, H p = some (.dK vs) ∧ KvAll K G vs kvs
  | .dt kvs => ∃ vs, H p = some (.dT vs) ∧ KvAll K G vs kvs
  | .ins c fs => ∃ (C dx : Addr) (vs : List (Str × V)), PySem.W.nsIn K mainGlobals c = some (some (.ref C)) ∧ H p = some (.ins C dx vs) ∧ KvAll K G vs fs
  | .dn kvs => ∃ L : List (PK × Addr × Bool), H p = some (NDO p L) ∧ (L.map fun x => (x.1, x.2.2)) = kvs ∧ ∀ x ∈ L, KeyT K G x.1 x.2.1
  | .ts P w ks => ∃ L : List (Addr × List Key), H p = some (SKO P w p L) ∧ (L.map (·.2)).Perm ks ∧ ∀ x ∈ L, SqT K G x.1 (x.2.map kV)
def CellOk (K : PySem.W.Frag) (G H : Hp) (v : Option V) : Cell → Prop
  | .un => True
  | .val d => ∃ x, v = some x ∧ Rp K G x d
  | .own o => ∃ p, v = some (.ref p) ∧ G p = none ∧ OwnAt K G H p o
  | .io o => ∃ p, v = some (.ref p) ∧ G p = none ∧ OwnAt K G H p o
def Cell.isOwn : Cell → Bool
  | .own _ => true
  | .io _ => true
  | _ => false
def At (σ : St) (ρ : DEnv) (i : Nat) (p : Addr) : Prop := σ[i]? = some (some (.ref p)) ∧ ∃ c, ρ[i]? = some c ∧ c.isOwn = true
structure Rel (K : PySem.W.Frag) (G : Hp) (σ : St) (H : Hp) (ρ : DEnv) : Prop where
  gh : Same G H
  len : σ.length = ρ.length
  cell : ∀ (i : Nat) (c : Cell), ρ[i]? = some c → ∃ v, σ[i]? = some v ∧ CellOk K G H v c
  sep : ∀ (i j : Nat) (p : Addr), i ≠ j → At σ ρ i p → At σ ρ j p → False

/-- what a step leaves as it was -/
structure Stp (G H : Hp) (σ : St) (ρ : DEnv) (G' H' : Hp) (σ' : St) (ρ' : DEnv) : Prop where
  same : Same G G'
  frame : ∀ b o, H b = some o → ¬ OwnL σ ρ b → ¬ OwnI σ ρ b → H' b = some o
  keep : ∀ b, H' b = none → H b = none
  fresh : ∀ b o, G' b = some o → G b = some o ∨ H b = none ∨ OwnL σ ρ b
  ownl : ∀ b, OwnL σ' ρ' b → OwnL σ ρ b ∨ H b = none
  io : ∀ (i : Nat) (o : OD), ρ[i]? = some (.io o) → σ'[i]? = σ[i]? ∧ ∃ o', ρ'[i]? = some (.io o')
  oi : ∀ (i : Nat) (o : OD), ρ'[i]? = some (.io o) → ∃ o', ρ[i]? = some (.io o')
  len : σ'.length = σ.length

theorem Stp.owni {G H G' H' : Hp} {σ σ' : St} {ρ ρ' : DEnv} (s : Stp G H σ ρ G' H' σ' ρ') (b : Addr) : OwnI σ' ρ' b ↔ OwnI σ ρ b := by
  constructor
  · rintro ⟨i, o, h1, h2⟩
    obtain ⟨o', h3⟩ := s.oi i o h1
    obtain ⟨e, _⟩ := s.io i o' h3
    exact ⟨i, o', h3, e ▸ h2⟩
  · rintro ⟨i, o, h1, h2⟩
    obtain ⟨e, o', h3⟩ := s.io i o h1
    exact ⟨i, o', h3, e.trans h2⟩
theorem Stp.refl {G H : Hp} {σ : St} {ρ : DEnv} : Stp G H σ ρ G H σ ρ :=
  ⟨Same.refl _, fun _ _ h _ _ => h, fun _ h => h, fun _ _ h => .inl h, fun _ h => .inl h, fun _ o h => ⟨rfl, o, h⟩, fun _ o h => ⟨o, h⟩, rfl⟩
theorem Stp.trans {G H G1 H1 G2 H2 : Hp} {σ σ1 σ2 : St} {ρ ρ1 ρ2 : DEnv} (a : Stp G H σ ρ G1 H1 σ1 ρ1) (b : Stp G1 H1 σ1 ρ1 G2 H2 σ2 ρ2) : Stp G H σ ρ G2 H2 σ2 ρ2 where
  same := a.same.trans b.same
  frame := fun c o h n1 n2 => b.frame c o (a.frame c o h n1 n2) (fun z => (a.ownl c z).elim n1 fun q => by rw [h] at q; cases q) fun z => n2 ((a.owni c).mp z)
  keep := fun c h => a.keep c (b.keep c h)
  fresh := fun c o h => (b.fresh c o h).elim (fun h1 => a.fresh c o h1) fun h1 => h1.elim (fun h2 => .inr (.inl (a.keep c h2))) fun h2 => (a.ownl c h2).elim (fun z => .inr (.inr z)) fun z => .inr (.inl z)
  ownl := fun c h => (b.ownl c h).elim (fun h1 => a.ownl c h1) fun h1 => .inr (a.keep c h1)
  io := fun i o h => by
    obtain ⟨e1, o1, h1⟩ := a.io i o h
    obtain ⟨e2, o2, h2⟩ := b.io i o1 h1
    exact ⟨e2.trans e1, o2, h2⟩
  oi := fun i o h => by
    obtain ⟨o1, h1⟩ := b.oi i o h
    exact a.oi i o1 h1
  len := b.len.trans a.len

/-! ### data in a growing heap -/
theorem Same.seqT {K : PySem.W.Frag} {H H' : Hp} {a : Addr} {xs : List V} (e : Same H H') (h : SqT K H a xs) : SqT K H' a xs := by
  rcases h with (h | ⟨o, h⟩) | h
  · exact .inl (.inl (e _ _ h))
  · exact .inl (.inr ⟨o, e _ _ h⟩)
  · exact .inr h
mutual
theorem Rp.mono {K : PySem.W.Frag} {G G' : Hp} (e : Same G G') : ∀ {v : V} {d : PyData}, Rp K G v d → Rp K G' v d
  | _, _, .non => .non
  | _, _, .bl b => .bl b
  | _, _, .int i => .int i
  | _, _, .str x => .str x
  | _, _, .lst h a => .lst (e _ _ h) (RpAll.mono e a)
  | _, _, .tup h a => .tup (Same.seqT e h) (RpAll.mono e a)
  | _, _, .scr h => .scr (e.seq h)
  | _, _, .dic h n a => .dic (e _ _ h) n (RpAll.mono e a)
theorem RpAll.mono {K : PySem.W.Frag} {G G' : Hp} (e : Same G G') : ∀ {vs : List V} {ds : List PyData}, RpAll K G vs ds → RpAll K G' vs ds
  | _, _, .nil => .nil
  | _, _, .cons h t => .cons (Rp.mono e h) (RpAll.mono e t)
end
mutual
theorem Rp.toDp {K : PySem.W.Frag} {G : Hp} : ∀ {v : V} {d : PyData}, Rp K G v d → d.canLay0 = true → Dp K G v d
  | _, _, .non, _ => .non
  | _, _, .bl b, _ => .bl b
  | _, _, .int i, _ => .int i
  | _, _, .str x, _ => .str x
  | _, _, .lst h a, c => .lst (SqL.of h) (RpAll.toDp a c)
  | _, _, .tup h a, c => .tup h (RpAll.toDp a c)
  | _, _, .scr h, c => nomatch (show false = true from c)
  | _, _, .dic h n a, c => nomatch (show false = true from c)
theorem RpAll.toDp {K : PySem.W.Frag} {G : Hp} : ∀ {vs : List V} {ds : List PyData}, RpAll K G vs ds → PyData.canLayAll0 ds = true → DpAll K G vs ds
  | _, _, .nil, _ => .nil
  | _, _, .cons h t, c => by
    have c' : (PyData.canLay0 _ && PyData.canLayAll0 _) = true := c
    exact .cons (Rp.toDp h (Bool.and_eq_true_iff.mp c').1) (RpAll.toDp t (Bool.and_eq_true_iff.mp c').2)
end
theorem RpAll.len {K : PySem.W.Frag} {G : Hp} : ∀ {vs : List V} {ds : List PyData}, RpAll K G vs ds → vs.length = ds.length
  | _, _, .nil => rfl
  | _, _, .cons _ t => congrArg (· + 1) (RpAll.len t)
theorem RpAll.get {K : PySem.W.Frag} {G : Hp} : ∀ {vs : List V} {ds : List PyData} {i : Nat} {d : PyData}, RpAll K G vs ds → ds[i]? = some d → ∃ v, vs[i]? = some v ∧ Rp K G v d
  | _, _, _, _, .nil, h => by simp at h
  | _, _, 0, _, .cons h _, e => by simp at e; subst e; exact ⟨_, rfl, h⟩
  | _, _, i + 1, _, .cons _ t, e => by
    obtain ⟨v, h1, h2⟩ := RpAll.get (i := i) t (by simpa using e)
    exact ⟨v, by simpa using h1, h2⟩
theorem RpAll.app {K : PySem.W.Frag} {G : Hp} : ∀ {vs : List V} {ds : List PyData} {ws : List V} {es : List PyData}, RpAll K G vs ds → RpAll K G ws es → RpAll K G (vs ++ ws) (ds ++ es)
  | _, _, _, _, .nil, h => h
  | _, _, _, _, .cons h t, h' => .cons h (RpAll.app t h')
theorem RpAll.drop {K : PySem.W.Frag} {G : Hp} : ∀ {vs : List V} {ds : List PyData} (n : Nat), RpAll K G vs ds → RpAll K G (vs.drop n) (ds.drop n)
  | _, _, 0, h => h
  | _, _, _ + 1, .nil => .nil
  | _, _, n + 1, .cons _ t => RpAll.drop n t
theorem RpAll.take {K : PySem.W.Frag} {G : Hp} : ∀ {vs : List V} {ds : List PyData} (n : Nat), RpAll K G vs ds → RpAll K G (vs.take n) (ds.take n)
  | _, _, 0, _ => .nil
  | _, _, _ + 1, .nil => .nil
  | _, _, n + 1, .cons h t => .cons h (RpAll.take n t)
theorem RpAll.set {K : PySem.W.Frag} {G : Hp} {v : V} {d : PyData} (q : Rp K G v d) : ∀ {vs : List V} {ds : List PyData} (n : Nat), RpAll K G vs ds → RpAll K G (vs.set n v) (ds.set n d)
  | _, _, _, .nil => .nil
  | _, _, 0, .cons _ t => .cons q t
  | _, _, n + 1, .cons h t => .cons h (RpAll.set q n t)
theorem RpAll.erase {K : PySem.W.Frag} {G : Hp} : ∀ {vs : List V} {ds : List PyData} (n : Nat), RpAll K G vs ds → RpAll K G (vs.eraseIdx n) (ds.eraseIdx n)
  | _, _, _, .nil => .nil
  | _, _, 0, .cons _ t => t
  | _, _, n + 1, .cons h t => .cons h (RpAll.erase n t)
theorem RpAll.one {K : PySem.W.Frag} {G : Hp} {v : V} {d : PyData} (h : Rp K G v d) : RpAll K G [v] [d] := .cons h .nil
theorem RpAll.one_inv {K : PySem.W.Frag} {G : Hp} {v : V} {d : PyData} (h : RpAll K G [v] [d]) : Rp K G v d := by cases h; assumption
theorem KvAll.mono {κ : Type} {K : PySem.W.Frag} {G G' : Hp} (e : Same G G') {xs : List (κ × V)} {ys : List (κ × PyData)} (h : KvAll K G xs ys) : KvAll K G' xs ys :=
  Paired.mapP h fun _ _ q => ⟨q.1, Rp.mono e q.2⟩
theorem KeyT.mono {K : PySem.W.Frag} {G G' : Hp} (e : Same G G') {p : PK} {b : Addr} (h : KeyT K G p b) : KeyT K G' p b := by
  obtain ⟨b1, b2, h0, h1, h2⟩ := h
  exact ⟨b1, b2, Same.seqT e h0, Same.seqT e h1, Same.seqT e h2⟩
theorem OwnAt.mono {K : PySem.W.Frag} {G G' H H' : Hp} {p : Addr} {o : OD} (e : Same G G') (h : ∀ u, H p = some u → H' p = some u) (q : OwnAt K G H p o) : OwnAt K G' H' p o := by
  cases o with
  | lst ds => obtain ⟨vs, a, b⟩ := q; exact ⟨vs, h _ a, RpAll.mono e b⟩
  | dk kvs => obtain ⟨vs, a, b⟩ := q; exact ⟨vs, h _ a, KvAll.mono e b⟩
  | dt kvs => obtain ⟨vs, a, b⟩ := q; exact ⟨vs, h _ a, KvAll.mono e b⟩
  | ins c fs => obtain ⟨C, dx, vs, n, a, b⟩ := q; exact ⟨C, dx, vs, n, h _ a, KvAll.mono e b⟩
  | dn kvs => obtain ⟨L, a, b, c⟩ := q; exact ⟨L, h _ a, b, fun x hx => KeyT.mono e (c x hx)⟩
  | ts P w ks => obtain ⟨L, a, b, c⟩ := q; exact ⟨L, h _ a, b, fun x hx => Same.seqT e (c x hx)⟩
theorem OwnAt.ex {K : PySem.W.Frag} {G H : Hp} {p : Addr} {o : OD} (q : OwnAt K G H p o) : ∃ u, H p = some u := by
  cases o with
  | lst ds => obtain ⟨vs, a, b⟩ := q; exact ⟨_, a⟩
  | dk kvs => obtain ⟨vs, a, b⟩ := q; exact ⟨_, a⟩
  | dt kvs => obtain ⟨vs, a, b⟩ := q; exact ⟨_, a⟩
  | ins c fs => obtain ⟨C, dx, vs, n, a, b⟩ := q; exact ⟨_, a⟩
  | dn kvs => obtain ⟨L, a, _⟩ := q; exact ⟨_, a⟩
  | ts P w ks => obtain ⟨L, a, _⟩ := q; exact ⟨_, a⟩
theorem same_upd {H : Hp} {p : Addr} {o : HO} (h : H p = none) : Same H (upd H p o) := fun b x e => by
  rw [upd_ne (ne_of_none e h)]
  exact e
theorem Rel.noneG {K : PySem.W.Frag} {G H : Hp} {σ : St} {ρ : DEnv} (R : Rel K G σ H ρ) {p : Addr} (h : H p = none) : G p = none := R.gh.free h
theorem Rel.ownG {K : PySem.W.Frag} {G H : Hp} {σ : St} {ρ : DEnv} (R : Rel K G σ H ρ) {b : Addr} (h : OwnL σ ρ b) : G b = none := by
  obtain ⟨i, o, h1, h2⟩ := h
  obtain ⟨v, e, p, rfl, g, _⟩ := R.cell i _ h1
  rw [h2] at e
  cases e
  exact g
theorem Rel.ownGI {K : PySem.W.Frag} {G H : Hp} {σ : St} {ρ : DEnv} (R : Rel K G σ H ρ) {b : Addr} (h : OwnI σ ρ b) : G b = none := by
  obtain ⟨i, o, h1, h2⟩ := h
  obtain ⟨v, e, p, rfl, g, _⟩ := R.cell i _ h1
  rw [h2] at e
  cases e
  exact g
theorem Rel.ownH {K : PySem.W.Frag} {G H : Hp} {σ : St} {ρ : DEnv} (R : Rel K G σ H ρ) {b : Addr} (h : OwnL σ ρ b) : ∃ u, H b = some u := by
  obtain ⟨i, o, h1, h2⟩ := h
  obtain ⟨v, e, p, rfl, g, q⟩ := R.cell i _ h1
  rw [h2] at e
  cases e
  exact q.ex
theorem Rel.ownHI {K : PySem.W.Frag} {G H : Hp} {σ : St} {ρ : DEnv} (R : Rel K G σ H ρ) {b : Addr} (h : OwnI σ ρ b) : ∃ u, H b = some u := by
  obtain ⟨i, o, h1, h2⟩ := h
  obtain ⟨v, e, p, rfl, g, q⟩ := R.cell i _ h1
  rw [h2] at e
  cases e
  exact q.ex
/-- a new frozen object -/
theorem Rel.alloc {K : PySem.W.Frag} {G H : Hp} {σ : St} {ρ : DEnv} (R : Rel K G σ H ρ) {p : Addr} (h : H p = none) (o : HO) : Rel K (upd G p o) σ (upd H p o) ρ := by
  have hg := R.noneG h
  refine ⟨fun b u e => ?_, R.len, fun i c e => ?_, R.sep⟩
  · by_cases hb : b = p
    · subst hb
      rw [upd_same] at e ⊢
      exact e
    · rw [upd_ne hb] at e ⊢
      exact R.gh b u e
  · obtain ⟨v, e1, q⟩ := R.cell i c e
    refine ⟨v, e1, ?_⟩
    cases c with
    | un => trivial
    | val d => obtain ⟨x, e2, q⟩ := q; exact ⟨x, e2, Rp.mono (same_upd hg) q⟩
    | own o' =>
      obtain ⟨b, e2, g, q⟩ := q
      have hb : b ≠ p := by
        obtain ⟨u, hu⟩ := q.ex
        exact ne_of_none hu h
      exact ⟨b, e2, by rw [upd_ne hb]; exact g, q.mono (same_upd hg) fun u hu => by rw [upd_ne hb]; exact hu⟩
    | io o' =>
      obtain ⟨b, e2, g, q⟩ := q
      have hb : b ≠ p := by
        obtain ⟨u, hu⟩ := q.ex
        exact ne_of_none hu h
      exact ⟨b, e2, by rw [upd_ne hb]; exact g, q.mono (same_upd hg) fun u hu => by rw [upd_ne hb]; exact hu⟩
theorem Stp.alloc {G H : Hp} {σ : St} {ρ : DEnv} {p : Addr} (h : H p = none) (hg : G p = none) (o : HO) : Stp G H σ ρ (upd G p o) (upd H p o) σ ρ := by
  refine ⟨same_upd hg, fun b u e _ _ => same_upd h b u e, fun b e => ?_, fun b u e => ?_, fun _ h => .inl h, fun _ o h => ⟨rfl, o, h⟩, fun _ o h => ⟨o, h⟩, rfl⟩
  · by_cases hb : b = p
    · subst hb; exact h
    · rw [upd_ne hb] at e; exact e
  · by_cases hb : b = p
    · subst hb; exact .inr (.inl h)
    · rw [upd_ne hb] at e; exact .inl e
/-- a new object beside -/
theorem Rel.beside {K : PySem.W.Frag} {G H : Hp} {σ : St} {ρ : DEnv} (R : Rel K G σ H ρ) {p : Addr} (hg : G p = none) (h1 : ¬ OwnL σ ρ p) (h2 : ¬ OwnI σ ρ p) (o : HO) : Rel K G σ (upd H p o) ρ := by
  refine ⟨fun b u e => ?_, R.len, fun i c e => ?_, R.sep⟩
  · rw [upd_ne (ne_of_none e hg)]
    exact R.gh b u e
  · obtain ⟨v, e1, q⟩ := R.cell i c e
    refine ⟨v, e1, ?_⟩
    cases c with
    | un => trivial
    | val d => exact q
    | own o' =>
      obtain ⟨b, e2, g, q⟩ := q
      have hb : b ≠ p := fun z => h1 ⟨i, o', e, by rw [e1, e2, z]⟩
      exact ⟨b, e2, g, q.mono (Same.refl _) fun u hu => by rw [upd_ne hb]; exact hu⟩
    | io o' =>
      obtain ⟨b, e2, g, q⟩ := q
      have hb : b ≠ p := fun z => h2 ⟨i, o', e, by rw [e1, e2, z]⟩
      exact ⟨b, e2, g, q.mono (Same.refl _) fun u hu => by rw [upd_ne hb]; exact hu⟩
end DL

set_option Elab.async false
set_option linter.all false
set_option maxRecDepth 100000
set_option maxHeartbeats 4000000
/-! DL part 2: judgements, expressions. -/
namespace DL
open PySem PySem.Spec PyProof.Rows L2

/-- no exception -/
abbrev W0 : WX := fun _ _ _ _ => False
/-- what a caller is told of an exception, seen in the callee -/
abbrev upE (E : XK) : WX := fun c d _ H => E c d H
def ErrAt (K : PySem.W.Frag) (mg : Str → Option Value) (G H : Hp) (x : Exn) (c : Value) (od : Option Addr) : Prop :=
  ∃ C, mg x.cls = some (.ref C) ∧ c = .ref C ∧ match x.fs with
    | [] => od = none
    | fs => ∃ d vs, od = some d ∧ H d = some (.xd vs) ∧ KvAll K G vs fs
/-- what is wanted behind an expression, told by its meaning r -/
def Post {α β : Type} (K : PySem.W.Frag) (mg : Str → Option Value) (E : WX) (rep : Hp → β → α → Prop) (σ : St) (G H : Hp) (ρ : DEnv) (Q : β → Hp → Prop) : Res α → Prop
  | .ok a ρ' => ∀ G' H' v, Rel K G' σ H' ρ' → Stp G H σ ρ G' H' σ ρ' → rep G' v a → Q v H'
  | .err x ρ' => ∀ G' H' c od, Rel K G' σ H' ρ' → Stp G H σ ρ G' H' σ ρ' → ErrAt K mg G' H' x c od → E c od σ H'
  | .bad => False
theorem Post.from {α β : Type} {K : PySem.W.Frag} {mg : Str → Option Value} {E : WX} {rep : Hp → β → α → Prop} {σ : St} {G H G1 H1 : Hp} {ρ ρ1 : DEnv} {Q : β → Hp → Prop} {r : Res α}
    (s : Stp G H σ ρ G1 H1 σ ρ1) (h : Post K mg E rep σ G H ρ Q r) : Post K mg E rep σ G1 H1 ρ1 Q r := by
  cases r with
  | ok a ρ' => exact fun G' H' v R S q => h G' H' v R (s.trans S) q
  | err x ρ' => exact fun G' H' c od R S q => h G' H' c od R (s.trans S) q
  | bad => exact h
theorem Post.bind {α β γ δ : Type} {K : PySem.W.Frag} {mg : Str → Option Value} {E : WX} {rep1 : Hp → γ → α → Prop} {rep2 : Hp → δ → β → Prop} {σ : St} {G H : Hp} {ρ : DEnv} {Q : δ → Hp → Prop} {Q1 : γ → Hp → Prop} {r : Res α} {k : α → DEnv → Res β}
    (h : Post K mg E rep2 σ G H ρ Q (r.bind k))
    (f : ∀ G1 H1 x a ρ1, Rel K G1 σ H1 ρ1 → Stp G H σ ρ G1 H1 σ ρ1 → rep1 G1 x a → Post K mg E rep2 σ G1 H1 ρ1 Q (k a ρ1) → Q1 x H1) : Post K mg E rep1 σ G H ρ Q1 r := by
  cases r with
  | ok a ρ' => exact fun G' H' v R S q => f G' H' v a ρ' R S q (Post.from S h)
  | err x ρ' => exact h
  | bad => exact h
theorem Post.done {α β : Type} {K : PySem.W.Frag} {mg : Str → Option Value} {E : WX} {rep : Hp → β → α → Prop} {σ : St} {G H : Hp} {ρ : DEnv} {Q : β → Hp → Prop} {a : α} {v : β} (R : Rel K G σ H ρ) (h : Post K mg E rep σ G H ρ Q (.ok a ρ)) (q : rep G v a) : Q v H :=
  h G H v R Stp.refl q
/-- .. with a new frozen object -/
theorem Post.new {α β : Type} {K : PySem.W.Frag} {mg : Str → Option Value} {E : WX} {rep : Hp → β → α → Prop} {σ : St} {G H : Hp} {ρ : DEnv} {Q : β → Hp → Prop} {a : α} {v : β} {p : Addr} {o : HO} (R : Rel K G σ H ρ) (h : Post K mg E rep σ G H ρ Q (.ok a ρ)) (hp : H p = none)
    (q : rep (upd G p o) v a) : Q v (upd H p o) :=
  h _ _ v (R.alloc hp o) (Stp.alloc hp (R.noneG hp) o) q

section
variable (X : Cx) (E : WX)
abbrev EPost (σ : St) (G H : Hp) (ρ : DEnv) (Q : VK) (r : Res PyData) : Prop := Post X.K X.mg E (Rp X.K) σ G H ρ Q r
abbrev TPost (σ : St) (G H : Hp) (ρ : DEnv) (Q : Bool → Hp → Prop) (r : Res Bool) : Prop := Post X.K X.mg E (fun _ b c => b = c) σ G H ρ Q r
abbrev APost (σ : St) (G H : Hp) (ρ : DEnv) (Q : List V → Hp → Prop) (r : Res (List PyData)) : Prop := Post X.K X.mg E (RpAll X.K) σ G H ρ Q r
/-- a fresh object that nobody else holds -/
def FPost (K : PySem.W.Frag) (mg : Str → Option Value) (E : WX) (σ : St) (G H : Hp) (ρ : DEnv) (Q : VK) : Res OD → Prop
  | .ok o ρ' => ∀ G' H' p, Rel K G' σ H' ρ' → Stp G H σ ρ G' H' σ ρ' → G' p = none → OwnAt K G' H' p o → H p = none → ¬ OwnL σ ρ' p → ¬ OwnI σ ρ' p → Q (.ref p) H'
  | .err x ρ' => ∀ G' H' c od, Rel K G' σ H' ρ' → Stp G H σ ρ G' H' σ ρ' → ErrAt K mg G' H' x c od → E c od σ H'
  | .bad => False
structure EJ (e : Expr) (f : DEnv → Res PyData) : Prop where
  ex : ∃ t : TE, PE X e t ∧ ∀ σ G H ρ Q, Rel X.K G σ H ρ → EPost X E σ G H ρ Q (f ρ) → t σ H Q
structure TJ (e : Expr) (f : DEnv → Res Bool) : Prop where
  ex : ∃ t : TT, PT X e t ∧ ∀ σ G H ρ Q, Rel X.K G σ H ρ → TPost X E σ G H ρ Q (f ρ) → t σ H Q
structure WJ (e : Expr) (f : DEnv → Res Bool) : Prop where
  ex : ∃ t : TT, PW X e t ∧ ∀ σ G H ρ Q, Rel X.K G σ H ρ → TPost X E σ G H ρ Q (f ρ) → t σ H Q
structure AJ (es : List Expr) (f : DEnv → Res (List PyData)) : Prop where
  len : ∀ (ρ : DEnv) (ds : List PyData) (ρ' : DEnv), f ρ = .ok ds ρ' → ds.length = es.length
  ex : ∃ t : TA, PA X es t ∧ ∀ σ G H ρ Q, Rel X.K G σ H ρ → APost X E σ G H ρ Q (f ρ) → t σ H Q
structure FJ (e : Expr) (f : DEnv → Res OD) : Prop where
  ex : ∃ t : TE, PE X e t ∧ ∀ σ G H ρ Q, Rel X.K G σ H ρ → FPost X.K X.mg E σ G H ρ Q (f ρ) → t σ H Q
/-- an operation on values and its meaning -/
def OpD (r : R2) (op : PyData → PyData → Option PyData) : Prop :=
  ∀ (σ : St) (G H : Hp) (ρ : DEnv) (x y : V) (d e c : PyData) (Q : VK), Rel X.K G σ H ρ → Rp X.K G x d → Rp X.K G y e → op d e = some c → EPost X E σ G H ρ Q (.ok c ρ) → r x y H Q
def UnD (r : V → Hp → VK → Prop) (op : PyData → Option PyData) : Prop :=
  ∀ (σ : St) (G H : Hp) (ρ : DEnv) (x : V) (d c : PyData) (Q : VK), Rel X.K G σ H ρ → Rp X.K G x d → op d = some c → EPost X E σ G H ρ Q (.ok c ρ) → r x H Q
def CaD (r : List V → Hp → VK → Prop) (op : List PyData → Option PyData) : Prop :=
  ∀ (σ : St) (G H : Hp) (ρ : DEnv) (xs : List V) (ds : List PyData) (c : PyData) (Q : VK), Rel X.K G σ H ρ → RpAll X.K G xs ds → op ds = some c → EPost X E σ G H ρ Q (.ok c ρ) → r xs H Q
end
def Res.of {α : Type} (o : Option α) (ρ : DEnv) : Res α := match o with
  | some a => .ok a ρ
  | none => .bad
@[simp] theorem Res.of_some {α : Type} (a : α) (ρ : DEnv) : Res.of (some a) ρ = .ok a ρ := rfl
@[simp] theorem Res.of_none {α : Type} (ρ : DEnv) : (Res.of none ρ : Res α) = .bad := rfl

/-! ### the meanings -/
def dC (d : PyData) : DEnv → Res PyData := fun ρ => .ok d ρ
def dVar (i : Nat) : DEnv → Res PyData := fun ρ => match ρ[i]? with
  | some (.val d) => .ok d ρ
  | _ => .bad
def dOp (op : PyData → PyData → Option PyData) (f g : DEnv → Res PyData) : DEnv → Res PyData := fun ρ => (f ρ).bind fun x ρ1 => (g ρ1).bind fun y ρ2 => Res.of (op x y) ρ2
def dUn (op : PyData → Option PyData) (f : DEnv → Res PyData) : DEnv → Res PyData := fun ρ => (f ρ).bind fun x ρ1 => Res.of (op x) ρ1
def dNil : DEnv → Res (List PyData) := fun ρ => .ok [] ρ
def dCons (f : DEnv → Res PyData) (g : DEnv → Res (List PyData)) : DEnv → Res (List PyData) := fun ρ => (f ρ).bind fun x ρ1 => (g ρ1).bind fun xs ρ2 => .ok (x :: xs) ρ2
def dCall (op : List PyData → Option PyData) (f : DEnv → Res (List PyData)) : DEnv → Res PyData := fun ρ => (f ρ).bind fun xs ρ1 => Res.of (op xs) ρ1
def oTup (xs : List PyData) : Option PyData := if xs.length ≤ sizeLine then some (.tuple xs) else none
def oLst (xs : List PyData) : Option OD := if xs.length ≤ sizeLine then some (.lst xs) else none
def dTup (f : DEnv → Res (List PyData)) : DEnv → Res PyData := fun ρ => (f ρ).bind fun xs ρ1 => Res.of (oTup xs) ρ1
def fLst (f : DEnv → Res (List PyData)) : DEnv → Res OD := fun ρ => (f ρ).bind fun xs ρ1 => Res.of (oLst xs) ρ1
def OD.frz : OD → Option PyData
  | .lst ds => some (.list ds)
  | _ => none
def dFrz (f : DEnv → Res OD) : DEnv → Res PyData := fun ρ => (f ρ).bind fun o ρ1 => Res.of o.frz ρ1
def tOf (f : DEnv → Res PyData) : DEnv → Res Bool := fun ρ => (f ρ).bind fun x ρ1 => match x with
  | .bool b => .ok b ρ1
  | _ => .bad
def tru : PyData → Option Bool
  | .none => some false
  | .bool b => some b
  | .int i => some (i != 0)
  | .list xs => some (!xs.isEmpty)
  | .tuple xs => some (!xs.isEmpty)
  | _ => none
def tTru (f : DEnv → Res PyData) : DEnv → Res Bool := fun ρ => (f ρ).bind fun x ρ1 => Res.of (tru x) ρ1
def tNotD (f : DEnv → Res Bool) : DEnv → Res Bool := fun ρ => (f ρ).bind fun b ρ1 => .ok (!b) ρ1
def tAndD (f g : DEnv → Res Bool) : DEnv → Res Bool := fun ρ => (f ρ).bind fun b ρ1 => if b = true then g ρ1 else .ok false ρ1
def tOrD (f g : DEnv → Res Bool) : DEnv → Res Bool := fun ρ => (f ρ).bind fun b ρ1 => if b = true then .ok true ρ1 else g ρ1
def dAndD (f g : DEnv → Res PyData) : DEnv → Res PyData := fun ρ => (tOf f ρ).bind fun b ρ1 => if b = true then g ρ1 else .ok (.bool false) ρ1
def dOrD (f g : DEnv → Res PyData) : DEnv → Res PyData := fun ρ => (tOf f ρ).bind fun b ρ1 => if b = true then .ok (.bool true) ρ1 else g ρ1
def dNotD (f : DEnv → Res PyData) : DEnv → Res PyData := fun ρ => (tOf f ρ).bind fun b ρ1 => .ok (.bool (!b)) ρ1
def dIf (c : DEnv → Res Bool) (f g : DEnv → Res PyData) : DEnv → Res PyData := fun ρ => (c ρ).bind fun b ρ1 => if b = true then f ρ1 else g ρ1
def dChain (op1 op2 : PyData → PyData → Option PyData) (f g h : DEnv → Res PyData) : DEnv → Res PyData := fun ρ => (f ρ).bind fun x ρ1 => (g ρ1).bind fun y ρ2 => match op1 x y with
  | some (.bool b) => if b = true then (h ρ2).bind fun z ρ3 => Res.of (op2 y z) ρ3 else .ok (.bool false) ρ2
  | _ => .bad

section
variable {X : Cx} {E : WX} {a b c : Expr} {es : List Expr} {fa fb fc : DEnv → Res PyData} {ff : DEnv → Res OD} {tA tB : DEnv → Res Bool} {fs : DEnv → Res (List PyData)} {pos : Pos}

/-! ### the rules -/
theorem e_int {i : Int} {j : Nat} : EJ X E (.Constant (.int i) j pos) (dC (.int i)) := ⟨_, pe_int, fun _ _ _ _ _ R h => Post.done R h (.int i)⟩
theorem e_bl {v : Bool} {j : Nat} : EJ X E (.Constant (.bool v) j pos) (dC (.bool v)) := ⟨_, pe_bl, fun _ _ _ _ _ R h => Post.done R h (.bl v)⟩
theorem e_non {j : Nat} : EJ X E (.Constant .none j pos) (dC .none) := ⟨_, pe_non, fun _ _ _ _ _ R h => Post.done R h .non⟩
theorem e_str {x : Str} {j : Nat} : EJ X E (.Constant (.str x) j pos) (dC (.str x)) := ⟨_, pe_str, fun _ _ _ _ _ R h => Post.done R h (.str x)⟩
theorem e_var {x : Str} (i : Nat) (h : PE X (.Name x pos) (tVar i)) : EJ X E (.Name x pos) (dVar i) := by
  refine ⟨_, h, fun σ G H ρ Q R h => ?_⟩
  unfold dVar at h
  cases q : ρ[i]? with
  | none => rw [q] at h; exact h.elim
  | some cl =>
    rw [q] at h
    cases cl with
    | val d =>
      obtain ⟨v, e1, x, rfl, hd⟩ := R.cell i _ q
      exact ⟨x, e1, Post.done R h hd⟩
    | un => exact h.elim
    | own o => exact h.elim
    | io o => exact h.elim
/-- a module's constant, a class, a def: by its value -/
theorem e_glob {x : Str} {v : V} {d : PyData} (h : PE X (.Name x pos) (tC v)) (hd : ∀ G, Rp X.K G v d) : EJ X E (.Name x pos) (dC d) := ⟨_, h, fun _ _ _ _ _ R h => Post.done R h (hd _)⟩
theorem two {ta tb : TE} {σ : St} {G H : Hp} {ρ : DEnv} {op : PyData → PyData → Option PyData} {Q : VK} {r : R2} (pa : ∀ σ G H ρ Q, Rel X.K G σ H ρ → EPost X E σ G H ρ Q (fa ρ) → ta σ H Q) (pb : ∀ σ G H ρ Q, Rel X.K G σ H ρ → EPost X E σ G H ρ Q (fb ρ) → tb σ H Q)
    (o : OpD X E r op) (R : Rel X.K G σ H ρ) (h : EPost X E σ G H ρ Q (dOp op fa fb ρ)) : tOp r ta tb σ H Q := by
  refine pa σ G H ρ _ R (Post.bind h fun G1 H1 x d ρ1 R1 S1 hx h1 => ?_)
  refine pb σ G1 H1 ρ1 _ R1 (Post.bind h1 fun G2 H2 y e ρ2 R2 S2 hy h2 => ?_)
  cases q : op d e with
  | none => rw [q] at h2; exact h2.elim
  | some cc => rw [q] at h2; exact o σ G2 H2 ρ2 x y d e cc Q R2 (Rp.mono S2.same hx) hy q h2
theorem e_op {op : Operator} {r : R2} {o : PyData → PyData → Option PyData} (ho : OpR X (binaryOp op) r) (hd : OpD X E r o) (ha : EJ X E a fa) (hb : EJ X E b fb) : EJ X E (.BinOp a op b pos) (dOp o fa fb) := by
  obtain ⟨ta, qa, pa⟩ := ha
  obtain ⟨tb, qb, pb⟩ := hb
  exact ⟨_, pe_op ho qa qb, fun σ G H ρ Q R h => two pa pb hd R h⟩
theorem e_cmp {op : CmpOp} {r : R2} {o : PyData → PyData → Option PyData} (ho : OpR X (compareOp op) r) (hd : OpD X E r o) (ha : EJ X E a fa) (hb : EJ X E b fb) (hm : behindInMarks op b = false) : EJ X E (.Compare a [op] [b] pos) (dOp o fa fb) := by
  obtain ⟨ta, qa, pa⟩ := ha
  obtain ⟨tb, qb, pb⟩ := hb
  exact ⟨_, pe_cmpR ho qa qb hm, fun σ G H ρ Q R h => two pa pb hd R h⟩
theorem t_cmp {op : CmpOp} {r : R2} {o : PyData → PyData → Option PyData} (ho : OpR X (compareOp op) r) (hd : OpD X E r o) (ha : EJ X E a fa) (hb : EJ X E b fb) (hm : behindInMarks op b = false) : TJ X E (.Compare a [op] [b] pos) (tOf (dOp o fa fb)) := by
  obtain ⟨ta, qa, pa⟩ := ha
  obtain ⟨tb, qb, pb⟩ := hb
  refine ⟨_, pt_cmpR ho qa qb hm, fun σ G H ρ Q R h => two pa pb hd R (Post.bind h fun G1 H1 x d ρ1 R1 S1 hx h1 => ?_)⟩
  cases d with
  | bool k => cases hx; exact ⟨k, rfl, Post.done R1 h1 rfl⟩
  | _ => exact h1.elim
theorem e_ix {r : R2} {o : PyData → PyData → Option PyData} (ho : IxR X r) (hd : OpD X E r o) (ha : EJ X E a fa) (hb : EJ X E b fb) (hs : PlainIx b) : EJ X E (.Subscript a b pos) (dOp o fa fb) := by
  obtain ⟨ta, qa, pa⟩ := ha
  obtain ⟨tb, qb, pb⟩ := hb
  exact ⟨_, pe_ix ho qa qb hs, fun σ G H ρ Q R h => two pa pb hd R h⟩
theorem e_un {op : UnaryOp} {r : V → Hp → VK → Prop} {o : PyData → Option PyData} (ho : UnR X (unaryOp op) r) (hd : UnD X E r o) (ha : EJ X E a fa) : EJ X E (.UnaryOp op a pos) (dUn o fa) := by
  obtain ⟨ta, qa, pa⟩ := ha
  refine ⟨_, pe_un ho qa, fun σ G H ρ Q R h => pa σ G H ρ _ R (Post.bind h fun G1 H1 x d ρ1 R1 S1 hx h1 => ?_)⟩
  cases q : o d with
  | none => rw [q] at h1; exact h1.elim
  | some cc => rw [q] at h1; exact hd σ G1 H1 ρ1 x d cc Q R1 hx q h1
theorem a_nil : AJ X E [] dNil := ⟨fun _ _ _ h => by cases h; rfl, _, pa_nil, fun _ _ _ _ _ R h => Post.done R h .nil⟩
theorem a_cons (ha : EJ X E a fa) (hr : AJ X E es fs) (hs : starEach (a :: es) X.env = (false, eval a X.env) :: starEach es X.env := by rfl) : AJ X E (a :: es) (dCons fa fs) := by
  obtain ⟨ta, qa, pa⟩ := ha
  obtain ⟨lr, tr, qr, pr⟩ := hr
  refine ⟨fun ρ ds ρ' h => ?_, _, pa_cons qa qr hs, fun σ G H ρ Q R h => ?_⟩
  · unfold dCons at h
    cases r : fa ρ with
    | bad => rw [r] at h; cases h
    | err x c => rw [r] at h; cases h
    | ok d ρ1 =>
      rw [r, Res.bind_ok] at h
      cases r2 : fs ρ1 with
      | bad => rw [r2] at h; cases h
      | err x c => rw [r2] at h; cases h
      | ok ds2 ρ2 =>
        rw [r2, Res.bind_ok] at h
        cases h
        exact congrArg (· + 1) (lr ρ1 ds2 _ r2)
  refine pa σ G H ρ _ R (Post.bind h fun G1 H1 x d ρ1 R1 S1 hx h1 => ?_)
  exact pr σ G1 H1 ρ1 _ R1 (Post.bind h1 fun G2 H2 xs ds ρ2 R2 S2 hxs h2 => Post.done R2 h2 (.cons (Rp.mono S2.same hx) hxs))
theorem e_tup {x1} (h : AJ X E es fs) : EJ X E (.Tuple es x1 pos) (dTup fs) := by
  obtain ⟨_, t, q, p⟩ := h
  refine ⟨_, pe_tup q, fun σ G H ρ Q R h => p σ G H ρ _ R (Post.bind h fun G1 H1 xs ds ρ1 R1 S1 hxs h1 => ?_)⟩
  have hl := RpAll.len hxs
  unfold oTup at h1
  by_cases hz : ds.length ≤ sizeLine
  · rw [if_pos hz] at h1
    exact ⟨by omega, fun p hp => Post.new R1 h1 hp (.tup (SqT.of upd_same) (RpAll.mono (same_upd (R1.noneG hp)) hxs))⟩
  · rw [if_neg hz] at h1
    exact h1.elim
theorem FPost.from {K : PySem.W.Frag} {mg : Str → Option Value} {E : WX} {σ : St} {G H G1 H1 : Hp} {ρ ρ1 : DEnv} {Q : VK} {r : Res OD}
    (s : Stp G H σ ρ G1 H1 σ ρ1) (h : FPost K mg E σ G H ρ Q r) : FPost K mg E σ G1 H1 ρ1 Q r := by
  cases r with
  | ok a ρ' => exact fun G' H' v R S q q1 q2 => h G' H' v R (s.trans S) q q1 (s.keep v q2)
  | err x ρ' => exact fun G' H' c od R S q => h G' H' c od R (s.trans S) q
  | bad => exact h
theorem FPost.bind {α γ : Type} {K : PySem.W.Frag} {mg : Str → Option Value} {E : WX} {rep1 : Hp → γ → α → Prop} {σ : St} {G H : Hp} {ρ : DEnv} {Q : VK} {Q1 : γ → Hp → Prop} {r : Res α} {k : α → DEnv → Res OD}
    (h : FPost K mg E σ G H ρ Q (r.bind k))
    (f : ∀ G1 H1 x a ρ1, Rel K G1 σ H1 ρ1 → Stp G H σ ρ G1 H1 σ ρ1 → rep1 G1 x a → FPost K mg E σ G1 H1 ρ1 Q (k a ρ1) → Q1 x H1) : Post K mg E rep1 σ G H ρ Q1 r := by
  cases r with
  | ok a ρ' => exact fun G' H' v R S q => f G' H' v a ρ' R S q (FPost.from S h)
  | err x ρ' => exact h
  | bad => exact h
theorem FPost.new {K : PySem.W.Frag} {mg : Str → Option Value} {E : WX} {σ : St} {G H : Hp} {ρ : DEnv} {Q : VK} {o : OD} {p : Addr} {u : HO} (R : Rel K G σ H ρ) (h : FPost K mg E σ G H ρ Q (.ok o ρ)) (hp : H p = none)
    (q : OwnAt K G (upd H p u) p o) : Q (.ref p) (upd H p u) := by
  have n1 : ¬ OwnL σ ρ p := fun z => by obtain ⟨w, e⟩ := R.ownH z; rw [hp] at e; cases e
  have n2 : ¬ OwnI σ ρ p := fun z => by obtain ⟨w, e⟩ := R.ownHI z; rw [hp] at e; cases e
  refine h G _ p (R.beside (R.noneG hp) n1 n2 u) ⟨Same.refl _, fun b w e _ _ => same_upd hp b w e, fun b e => ?_, fun b w e => .inl e, fun _ z => .inl z, fun _ o z => ⟨rfl, o, z⟩, fun _ o z => ⟨o, z⟩, rfl⟩ (R.noneG hp) q hp n1 n2
  by_cases hb : b = p
  · subst hb; exact hp
  · rw [upd_ne hb] at e; exact e
theorem f_lst (h : AJ X E es fs) : FJ X E (.List es pos) (fLst fs) := by
  obtain ⟨_, t, q, p⟩ := h
  refine ⟨_, pe_lst q, fun σ G H ρ Q R h => p σ G H ρ _ R (FPost.bind h fun G1 H1 xs ds ρ1 R1 S1 hxs h1 => ?_)⟩
  have hl := RpAll.len hxs
  unfold oLst at h1
  by_cases hz : ds.length ≤ sizeLine
  · rw [if_pos hz] at h1
    exact ⟨by omega, fun p hp => FPost.new R1 h1 hp ⟨xs, upd_same, hxs⟩⟩
  · rw [if_neg hz] at h1
    exact h1.elim
/-- a fresh list as frozen data -/
theorem e_frz (h : FJ X E a ff) : EJ X E a (dFrz ff) := by
  obtain ⟨t, q, p⟩ := h
  refine ⟨t, q, fun σ G H ρ Q R h => p σ G H ρ Q R ?_⟩
  unfold dFrz at h
  cases e : ff ρ with
  | bad => rw [e] at h; exact h
  | err x ρ' => rw [e] at h; exact h
  | ok o ρ' =>
    rw [e] at h
    intro G' H' p R1 S1 g1 o1 hp n1 n2
    cases o with
    | dk _ => exact h.elim
    | dt _ => exact h.elim
    | ins _ _ => exact h.elim
    | dn _ => exact h.elim
    | ts _ _ _ => exact h.elim
    | lst ds =>
      obtain ⟨vs, hv, hd⟩ := o1
      have s1 : Same G' (upd G' p (.lst vs)) := same_upd g1
      refine h (upd G' p (.lst vs)) H' (.ref p) ⟨fun b u z => ?_, R1.len, fun i cl z => ?_, R1.sep⟩ ⟨S1.same.trans s1, S1.frame, S1.keep, fun b u z => ?_, S1.ownl, S1.io, S1.oi, S1.len⟩ (.lst upd_same (RpAll.mono s1 hd))
      · by_cases hb : b = p
        · subst hb; rw [upd_same] at z; cases z; exact hv
        · rw [upd_ne hb] at z; exact R1.gh b u z
      · obtain ⟨v, e1, w⟩ := R1.cell i cl z
        refine ⟨v, e1, ?_⟩
        cases cl with
        | un => trivial
        | val d => obtain ⟨x, e2, w⟩ := w; exact ⟨x, e2, Rp.mono s1 w⟩
        | own o =>
          obtain ⟨b, e2, g, w⟩ := w
          have hb : b ≠ p := fun y => n1 ⟨i, o, z, by rw [e1, e2, y]⟩
          exact ⟨b, e2, by rw [upd_ne hb]; exact g, w.mono s1 fun _ y => y⟩
        | io o =>
          obtain ⟨b, e2, g, w⟩ := w
          have hb : b ≠ p := fun y => n2 ⟨i, o, z, by rw [e1, e2, y]⟩
          exact ⟨b, e2, by rw [upd_ne hb]; exact g, w.mono s1 fun _ y => y⟩
      · by_cases hb : b = p
        · subst hb; exact .inr (.inl hp)
        · rw [upd_ne hb] at z; exact S1.fresh b u z
/-! ### tests -/
theorem t_val (ha : EJ X E a fa) (he : ∀ whole, isTrue a X.env whole = (do let v ← whole; standAt a.pos; holding [v] (truthy v)) := by intro _; rfl) : TJ X E a (tOf fa) := by
  obtain ⟨ta, qa, pa⟩ := ha
  refine ⟨_, pt_val qa he, fun σ G H ρ Q R h => pa σ G H ρ _ R (Post.bind h fun G1 H1 x d ρ1 R1 S1 hx h1 => ?_)⟩
  cases d with
  | bool k => cases hx; exact ⟨k, rfl, Post.done R1 h1 rfl⟩
  | _ => exact h1.elim
theorem t_truth (ha : EJ X E a fa) (he : ∀ whole, isTrue a X.env whole = (do let v ← whole; standAt a.pos; holding [v] (truthy v)) := by intro _; rfl) : TJ X E a (tTru fa) := by
  obtain ⟨ta, qa, pa⟩ := ha
  refine ⟨_, pt_truth qa he, fun σ G H ρ Q R h => pa σ G H ρ _ R (Post.bind h fun G1 H1 x d ρ1 R1 S1 hx h1 => ?_)⟩
  have le : ∀ (vs : List V) (ds : List PyData), RpAll X.K G1 vs ds → (!ds.isEmpty) = !vs.isEmpty := fun vs ds w => by cases w <;> rfl
  cases hx with
  | non => exact ⟨false, rfl, Post.done R1 h1 rfl⟩
  | bl k => exact ⟨k, rfl, Post.done R1 h1 rfl⟩
  | int i => exact ⟨i != 0, rfl, Post.done R1 h1 rfl⟩
  | str _ => exact h1.elim
  | lst w1 w2 => exact ⟨_, .inl ⟨_, SqL.of (R1.gh _ _ w1), rfl⟩, Post.done R1 h1 (le _ _ w2).symm⟩
  | tup w1 w2 => exact ⟨_, .inr (.inl ⟨_, Same.seqT R1.gh w1, rfl⟩), Post.done R1 h1 (le _ _ w2).symm⟩
  | scr _ => exact h1.elim
  | dic _ _ _ => exact h1.elim
theorem t_not (ha : TJ X E a tA) : TJ X E (.UnaryOp .Not a pos) (tNotD tA) := by
  obtain ⟨ta, qa, pa⟩ := ha
  exact ⟨_, pt_not qa, fun σ G H ρ Q R h => pa σ G H ρ _ R (Post.bind h fun G1 H1 x d ρ1 R1 S1 hx h1 => Post.done R1 h1 (by rw [hx]))⟩
theorem w_pt (h : WJ X E a tA) : TJ X E a tA := by
  obtain ⟨t, q, p⟩ := h
  exact ⟨t, q.pt, p⟩
theorem w_and1 (ha : TJ X E a tA) : WJ X E (.BoolOp .And [a] pos) tA := by
  obtain ⟨ta, qa, pa⟩ := ha
  exact ⟨_, pw_and1 qa, pa⟩
theorem w_or1 (ha : TJ X E a tA) : WJ X E (.BoolOp .Or [a] pos) tA := by
  obtain ⟨ta, qa, pa⟩ := ha
  exact ⟨_, pw_or1 qa, pa⟩
theorem w_and (ha : TJ X E a tA) (hb : WJ X E (.BoolOp .And (b :: es) pos) tB) : WJ X E (.BoolOp .And (a :: b :: es) pos) (tAndD tA tB) := by
  obtain ⟨ta, qa, pa⟩ := ha
  obtain ⟨tb, qb, pb⟩ := hb
  refine ⟨_, pw_and qa qb, fun σ G H ρ Q R h => pa σ G H ρ _ R (Post.bind h fun G1 H1 x d ρ1 R1 S1 hx h1 => ?_)⟩
  subst hx
  cases x with
  | true => exact iteT (pb σ G1 H1 ρ1 Q R1 h1)
  | false => exact iteF (Post.done R1 h1 rfl)
theorem w_or (ha : TJ X E a tA) (hb : WJ X E (.BoolOp .Or (b :: es) pos) tB) : WJ X E (.BoolOp .Or (a :: b :: es) pos) (tOrD tA tB) := by
  obtain ⟨ta, qa, pa⟩ := ha
  obtain ⟨tb, qb, pb⟩ := hb
  refine ⟨_, pw_or qa qb, fun σ G H ρ Q R h => pa σ G H ρ _ R (Post.bind h fun G1 H1 x d ρ1 R1 S1 hx h1 => ?_)⟩
  subst hx
  cases x with
  | true => exact iteT (Post.done R1 h1 rfl)
  | false => exact iteF (pb σ G1 H1 ρ1 Q R1 h1)
theorem bool_of {ta : TE} {σ : St} {G H : Hp} {ρ : DEnv} {β δ : Type} {rep : Hp → δ → β → Prop} {Q : δ → Hp → Prop} {k : Bool → DEnv → Res β} {Q1 : Bool → Hp → Prop} (pa : ∀ σ G H ρ Q, Rel X.K G σ H ρ → EPost X E σ G H ρ Q (fa ρ) → ta σ H Q) (R : Rel X.K G σ H ρ)
    (h : Post X.K X.mg E rep σ G H ρ Q ((tOf fa ρ).bind k)) (f : ∀ G1 H1 ρ1 b, Rel X.K G1 σ H1 ρ1 → Stp G H σ ρ G1 H1 σ ρ1 → Post X.K X.mg E rep σ G1 H1 ρ1 Q (k b ρ1) → Q1 b H1) : ta σ H (fun x H1 => ∃ c, x = .bl c ∧ Q1 c H1) := by
  refine pa σ G H ρ _ R ?_
  unfold tOf at h
  cases e : fa ρ with
  | bad => rw [e] at h; exact h
  | err x ρ' => rw [e] at h; exact h
  | ok d ρ' =>
    rw [e] at h
    intro G1 H1 x R1 S1 hx
    cases d with
    | bool c => cases hx; exact ⟨c, rfl, f G1 H1 ρ' c R1 S1 (Post.from S1 h)⟩
    | _ => exact h.elim
theorem e_one {op} (h : EJ X E a fa) : EJ X E (.BoolOp op [a] pos) fa := by
  obtain ⟨t, q, p⟩ := h
  exact ⟨_, pe_one q, p⟩
theorem e_and (ha : EJ X E a fa) (hb : EJ X E (.BoolOp .And (b :: es) pos) fb) : EJ X E (.BoolOp .And (a :: b :: es) pos) (dAndD fa fb) := by
  obtain ⟨ta, qa, pa⟩ := ha
  obtain ⟨tb, qb, pb⟩ := hb
  refine ⟨_, pe_and qa qb, fun σ G H ρ Q R h => bool_of pa R h fun G1 H1 ρ1 k R1 S1 h1 => ?_⟩
  cases k with
  | true => exact iteT (pb σ G1 H1 ρ1 Q R1 h1)
  | false => exact iteF (Post.done R1 h1 (.bl false))
theorem e_or (ha : EJ X E a fa) (hb : EJ X E (.BoolOp .Or (b :: es) pos) fb) : EJ X E (.BoolOp .Or (a :: b :: es) pos) (dOrD fa fb) := by
  obtain ⟨ta, qa, pa⟩ := ha
  obtain ⟨tb, qb, pb⟩ := hb
  refine ⟨_, pe_or qa qb, fun σ G H ρ Q R h => bool_of pa R h fun G1 H1 ρ1 k R1 S1 h1 => ?_⟩
  cases k with
  | true => exact iteT (Post.done R1 h1 (.bl true))
  | false => exact iteF (pb σ G1 H1 ρ1 Q R1 h1)
theorem e_not (ha : EJ X E a fa) : EJ X E (.UnaryOp .Not a pos) (dNotD fa) := by
  obtain ⟨ta, qa, pa⟩ := ha
  exact ⟨_, pe_not qa, fun σ G H ρ Q R h => bool_of pa R h fun G1 H1 ρ1 k R1 S1 h1 => Post.done R1 h1 (.bl _)⟩
theorem e_ifExp (hc : TJ X E c tA) (ha : EJ X E a fa) (hb : EJ X E b fb) : EJ X E (.IfExp c a b pos) (dIf tA fa fb) := by
  obtain ⟨tc, qc, pc⟩ := hc
  obtain ⟨ta, qa, pa⟩ := ha
  obtain ⟨tb, qb, pb⟩ := hb
  refine ⟨_, pe_ifExp qc qa qb, fun σ G H ρ Q R h => pc σ G H ρ _ R (Post.bind h fun G1 H1 x d ρ1 R1 S1 hx h1 => ?_)⟩
  subst hx
  cases x with
  | true => exact iteT (pa σ G1 H1 ρ1 Q R1 h1)
  | false => exact iteF (pb σ G1 H1 ρ1 Q R1 h1)
end
end DL

set_option Elab.async false
set_option linter.all false
set_option maxRecDepth 100000
set_option maxHeartbeats 4000000
/-! DL part 3: statements, loops. -/
namespace DL
open PySem PySem.Spec PyProof.Rows L2

inductive Out where
  | nx | bk | ct
  | rt (d : PyData)
def SPost (K : PySem.W.Frag) (mg : Str → Option Value) (E : WX) (D : Ends) (σ : St) (G H : Hp) (ρ : DEnv) : Res Out → Prop
  | .ok .nx ρ' => ∀ G' H' σ', Rel K G' σ' H' ρ' → Stp G H σ ρ G' H' σ' ρ' → D.nx σ' H'
  | .ok .bk ρ' => ∀ G' H' σ', Rel K G' σ' H' ρ' → Stp G H σ ρ G' H' σ' ρ' → D.bk σ' H'
  | .ok .ct ρ' => ∀ G' H' σ', Rel K G' σ' H' ρ' → Stp G H σ ρ G' H' σ' ρ' → D.ct σ' H'
  | .ok (.rt d) ρ' => ∀ G' H' σ' v, Rel K G' σ' H' ρ' → Stp G H σ ρ G' H' σ' ρ' → Rp K G' v d → D.rt v H'
  | .err x ρ' => ∀ G' H' σ' c od, Rel K G' σ' H' ρ' → Stp G H σ ρ G' H' σ' ρ' → ErrAt K mg G' H' x c od → E c od σ' H'
  | .bad => False
theorem SPost.from {K : PySem.W.Frag} {mg : Str → Option Value} {E : WX} {D : Ends} {σ σ1 : St} {G H G1 H1 : Hp} {ρ ρ1 : DEnv} {r : Res Out} (s : Stp G H σ ρ G1 H1 σ1 ρ1) (h : SPost K mg E D σ G H ρ r) : SPost K mg E D σ1 G1 H1 ρ1 r := by
  cases r with
  | ok a ρ' =>
    cases a with
    | nx => exact fun G' H' σ' R S => h G' H' σ' R (s.trans S)
    | bk => exact fun G' H' σ' R S => h G' H' σ' R (s.trans S)
    | ct => exact fun G' H' σ' R S => h G' H' σ' R (s.trans S)
    | rt d => exact fun G' H' σ' v R S q => h G' H' σ' v R (s.trans S) q
  | err x ρ' => exact fun G' H' σ' c od R S q => h G' H' σ' c od R (s.trans S) q
  | bad => exact h
/-- an expression, then what follows -/
theorem SPost.bind {α γ : Type} {K : PySem.W.Frag} {mg : Str → Option Value} {E : WX} {rep1 : Hp → γ → α → Prop} {D : Ends} {σ : St} {G H : Hp} {ρ : DEnv} {Q1 : γ → Hp → Prop} {r : Res α} {k : α → DEnv → Res Out}
    (h : SPost K mg E D σ G H ρ (r.bind k))
    (f : ∀ G1 H1 x a ρ1, Rel K G1 σ H1 ρ1 → Stp G H σ ρ G1 H1 σ ρ1 → rep1 G1 x a → SPost K mg E D σ G1 H1 ρ1 (k a ρ1) → Q1 x H1) : Post K mg E rep1 σ G H ρ Q1 r := by
  cases r with
  | ok a ρ' => exact fun G' H' v R S q => f G' H' v a ρ' R S q (SPost.from S h)
  | err x ρ' => exact fun G' H' c od R S q => h G' H' σ c od R S q
  | bad => exact h
theorem SPost.bindF {K : PySem.W.Frag} {mg : Str → Option Value} {E : WX} {D : Ends} {σ : St} {G H : Hp} {ρ : DEnv} {Q1 : VK} {r : Res OD} {k : OD → DEnv → Res Out}
    (h : SPost K mg E D σ G H ρ (r.bind k))
    (f : ∀ G1 H1 p o ρ1, Rel K G1 σ H1 ρ1 → Stp G H σ ρ G1 H1 σ ρ1 → G1 p = none → OwnAt K G1 H1 p o → H p = none → ¬ OwnL σ ρ1 p → ¬ OwnI σ ρ1 p → SPost K mg E D σ G1 H1 ρ1 (k o ρ1) → Q1 (.ref p) H1) : FPost K mg E σ G H ρ Q1 r := by
  cases r with
  | ok a ρ' => exact fun G' H' p R S q1 q2 q3 q4 q5 => f G' H' p a ρ' R S q1 q2 q3 q4 q5 (SPost.from S h)
  | err x ρ' => exact fun G' H' c od R S q => h G' H' σ c od R S q
  | bad => exact h
section
variable (X : Cx) (E : WX)
structure SJ (st : Stmt) (f : DEnv → Res Out) : Prop where
  ex : ∃ t : TS, PS X st t ∧ ∀ (σ : St) (G H : Hp) (ρ : DEnv) (D : Ends), Rel X.K G σ H ρ → SPost X.K X.mg E D σ G H ρ (f ρ) → t D σ H
structure BJ (sts : List Stmt) (f : DEnv → Res Out) : Prop where
  ex : ∃ t : TS, PSs X sts t ∧ ∀ (σ : St) (G H : Hp) (ρ : DEnv) (D : Ends), Rel X.K G σ H ρ → SPost X.K X.mg E D σ G H ρ (f ρ) → t D σ H
/-- what is wanted behind a target's store -/
def GPost (K : PySem.W.Frag) (σ : St) (G H : Hp) (ρ : DEnv) (is : List Nat) (Q : St → Hp → Prop) : Option DEnv → Prop
  | some ρ' => ∀ G' H' σ', Rel K G' σ' H' ρ' → Stp G H σ ρ G' H' σ' ρ' → (∀ j, j ∉ is → σ'[j]? = σ[j]?) → Q σ' H'
  | none => False
structure GJ (tg : Expr) (is : List Nat) (f : PyData → DEnv → Option DEnv) : Prop where
  ex : ∃ g : TG, PG X tg g ∧ ∀ (σ : St) (G H : Hp) (ρ : DEnv) (x : V) (d : PyData) (Q : St → Hp → Prop), Rel X.K G σ H ρ → Rp X.K G x d → GPost X.K σ G H ρ is Q (f d ρ) → g x σ H Q
structure GsJ (tgs : List Expr) (is : List Nat) (f : List PyData → DEnv → Option DEnv) : Prop where
  ex : ∃ g : TGs, PGs X tgs g ∧ ∀ (σ : St) (G H : Hp) (ρ : DEnv) (xs : List V) (ds : List PyData) (Q : St → Hp → Prop), Rel X.K G σ H ρ → RpAll X.K G xs ds → GPost X.K σ G H ρ is Q (f ds ρ) → g xs σ H Q
/-- new objects alone -/
def Grow (K : PySem.W.Frag) (G H G' H' : Hp) : Prop := ∀ (σ : St) (ρ : DEnv), Rel K G σ H ρ → Rel K G' σ H' ρ ∧ Stp G H σ ρ G' H' σ ρ
def Walks (K : PySem.W.Frag) (J : It) (G : Hp) (ds : List PyData) : Prop := ∀ (i : Nat) (G1 H1 : Hp), Same G G1 → Same G1 H1 →
  (∀ d, ds[i]? = some d → J.go i H1 ∧ ∀ x H2, J.yld i H1 x H2 → ∃ G2, Grow K G1 H1 G2 H2 ∧ Rp K G2 x d) ∧ (ds.length ≤ i → J.stop i H1)
def IPost (K : PySem.W.Frag) (mg : Str → Option Value) (E : WX) (σ : St) (G H : Hp) (ρ : DEnv) (R : It → Hp → Prop) : Res (List PyData) → Prop
  | .ok ds ρ' => ∀ G' H' J, Rel K G' σ H' ρ' → Stp G H σ ρ G' H' σ ρ' → Walks K J G' ds → R J H'
  | .err x ρ' => ∀ G' H' c od, Rel K G' σ H' ρ' → Stp G H σ ρ G' H' σ ρ' → ErrAt K mg G' H' x c od → E c od σ H'
  | .bad => False
structure IJ (tg iter : Expr) (f : DEnv → Res (List PyData)) : Prop where
  ex : ∃ wi : TI, PI X tg iter wi ∧ ∀ (σ : St) (G H : Hp) (ρ : DEnv) (R : It → Hp → Prop), Rel X.K G σ H ρ → IPost X.K X.mg E σ G H ρ R (f ρ) → wi σ H R
end
theorem Grow.refl {K : PySem.W.Frag} {G H : Hp} : Grow K G H G H := fun _ _ R => ⟨R, Stp.refl⟩

/-! ### the meanings -/
def sSeq (f g : DEnv → Res Out) : DEnv → Res Out := fun ρ => match f ρ with
  | .ok .nx ρ1 => g ρ1
  | r => r
def sNx : DEnv → Res Out := fun ρ => .ok .nx ρ
def sBk : DEnv → Res Out := fun ρ => .ok .bk ρ
def sCt : DEnv → Res Out := fun ρ => .ok .ct ρ
def sRet (f : DEnv → Res PyData) : DEnv → Res Out := fun ρ => (f ρ).bind fun d ρ1 => .ok (.rt d) ρ1
def sRetN : DEnv → Res Out := fun ρ => .ok (.rt .none) ρ
def sDrop (f : DEnv → Res PyData) : DEnv → Res Out := fun ρ => (f ρ).bind fun _ ρ1 => .ok .nx ρ1
def sIf (c : DEnv → Res Bool) (f g : DEnv → Res Out) : DEnv → Res Out := fun ρ => (c ρ).bind fun b ρ1 => if b = true then f ρ1 else g ρ1
/-- x = d -/
def setV (i : Nat) (d : PyData) (ρ : DEnv) : Option DEnv := match ρ[i]? with
  | some (.io _) => none
  | some _ => some (ρ.set i (.val d))
  | none => none
def setO (i : Nat) (o : OD) (ρ : DEnv) : Option DEnv := match ρ[i]? with
  | some (.io _) => none
  | some _ => some (ρ.set i (.own o))
  | none => none
def nxOf (o : Option DEnv) : Res Out := match o with
  | some ρ => .ok .nx ρ
  | none => .bad
@[simp] theorem nxOf_some (ρ : DEnv) : nxOf (some ρ) = .ok .nx ρ := rfl
def sAsg (f : DEnv → Res PyData) (g : PyData → DEnv → Option DEnv) : DEnv → Res Out := fun ρ => (f ρ).bind fun d ρ1 => nxOf (g d ρ1)
def sNew (i : Nat) (f : DEnv → Res OD) : DEnv → Res Out := fun ρ => (f ρ).bind fun o ρ1 => nxOf (setO i o ρ1)
def gNilD : List PyData → DEnv → Option DEnv := fun ds ρ => match ds with
  | [] => some ρ
  | _ => none
def gConsD (g : PyData → DEnv → Option DEnv) (gs : List PyData → DEnv → Option DEnv) : List PyData → DEnv → Option DEnv := fun ds ρ => match ds with
  | d :: r => (g d ρ).bind fun ρ1 => gs r ρ1
  | [] => none
def gTupD (n : Nat) (gs : List PyData → DEnv → Option DEnv) : PyData → DEnv → Option DEnv := fun d ρ => match d with
  | .tuple ds => if ds.length = n then gs ds ρ else none
  | _ => none
/-- a list that is held is given away -/
def frzC (i : Nat) (ρ : DEnv) : DEnv := match ρ[i]? with
  | some (.own (.lst ds)) => ρ.set i (.val (.list ds))
  | _ => ρ
def sFrz (i : Nat) (f : DEnv → Res Out) : DEnv → Res Out := fun ρ => f (frzC i ρ)
def forL (g : PyData → DEnv → Option DEnv) (fb : DEnv → Res Out) : List PyData → DEnv → Res Out
  | [], ρ => .ok .nx ρ
  | d :: ds, ρ => match g d ρ with
    | none => .bad
    | some ρ1 => match fb ρ1 with
      | .ok .nx ρ2 => forL g fb ds ρ2
      | .ok .ct ρ2 => forL g fb ds ρ2
      | .ok .bk ρ2 => .ok .nx ρ2
      | r => r
def sFor (fi : DEnv → Res (List PyData)) (g : PyData → DEnv → Option DEnv) (fb : DEnv → Res Out) : DEnv → Res Out := fun ρ => (fi ρ).bind fun ds ρ1 => forL g fb ds ρ1
def whileN (c : DEnv → Res Bool) (fb : DEnv → Res Out) : Nat → DEnv → Res Out
  | 0, _ => .bad
  | n + 1, ρ => (c ρ).bind fun b ρ1 => if b = true then match fb ρ1 with
      | .ok .nx ρ2 => whileN c fb n ρ2
      | .ok .ct ρ2 => whileN c fb n ρ2
      | .ok .bk ρ2 => .ok .nx ρ2
      | r => r else .ok .nx ρ1
/-- the most turns of a while -/
def manyTurns : Nat := 2 ^ 40
def sWhile (c : DEnv → Res Bool) (fb : DEnv → Res Out) : DEnv → Res Out := whileN c fb manyTurns

/-! ### stores to a name -/
theorem getset {α : Type} {l : List α} {i j : Nat} {x : α} {y : α} (h : (l.set i x)[j]? = some y) : (j = i ∧ y = x ∧ i < l.length) ∨ (j ≠ i ∧ l[j]? = some y) := by
  by_cases e : j = i
  · subst e
    have hl : j < (l.set j x).length := (List.getElem?_eq_some_iff.mp h).1
    rw [List.length_set] at hl
    rw [List.getElem?_set_self hl] at h
    exact .inl ⟨rfl, (Option.some.inj h).symm, hl⟩
  · rw [List.getElem?_set_ne (Ne.symm e)] at h
    exact .inr ⟨e, h⟩
theorem setself {α : Type} {l : List α} {i : Nat} {x y : α} (h : l[i]? = some y) : (l.set i x)[i]? = some x := List.getElem?_set_self (List.getElem?_eq_some_iff.mp h).1
section
variable {K : PySem.W.Frag} {G H : Hp} {σ : St} {ρ : DEnv} {i : Nat} {c0 : Cell}
theorem Rel.setVal (R : Rel K G σ H ρ) (h0 : ρ[i]? = some c0) (hio : ∀ o, c0 ≠ .io o) {x : V} {d : PyData} (hx : Rp K G x d) :
    Rel K G (σ.set i (some x)) H (ρ.set i (.val d)) ∧ Stp G H σ ρ G H (σ.set i (some x)) (ρ.set i (.val d)) := by
  obtain ⟨v0, hv0, _⟩ := R.cell i c0 h0
  refine ⟨⟨R.gh, by rw [List.length_set, List.length_set]; exact R.len, fun j c e => ?_, fun j k p hjk a b => ?_⟩, ⟨Same.refl _, fun _ _ h _ _ => h, fun _ h => h, fun _ _ h => .inl h, fun b => ?_, fun j o e => ?_, fun j o e => ?_, by first | rfl | simp⟩⟩
  · rcases getset e with ⟨rfl, rfl, _⟩ | ⟨ne, e⟩
    · exact ⟨some x, setself hv0, x, rfl, hx⟩
    · rw [List.getElem?_set_ne (Ne.symm ne)]
      exact R.cell j c e
  · obtain ⟨a1, c1, a2, a3⟩ := a
    obtain ⟨b1, c2, b2, b3⟩ := b
    rcases getset a2 with ⟨rfl, rfl, _⟩ | ⟨ne, e⟩
    · cases a3
    · rcases getset b2 with ⟨rfl, rfl, _⟩ | ⟨ne2, e2⟩
      · cases b3
      · rw [List.getElem?_set_ne (Ne.symm ne)] at a1
        rw [List.getElem?_set_ne (Ne.symm ne2)] at b1
        exact R.sep j k p hjk ⟨a1, c1, e, a3⟩ ⟨b1, c2, e2, b3⟩
  · rintro ⟨j, o, e, w⟩
    rcases getset e with ⟨rfl, z, _⟩ | ⟨ne, e⟩
    · cases z
    · rw [List.getElem?_set_ne (Ne.symm ne)] at w
      exact .inl ⟨j, o, e, w⟩
  · by_cases hj : j = i
    · subst hj
      rw [h0] at e
      exact absurd (Option.some.inj e) (hio o)
    · rw [List.getElem?_set_ne (Ne.symm hj), List.getElem?_set_ne (Ne.symm hj)]
      exact ⟨rfl, o, e⟩
  · rcases getset e with ⟨rfl, z, _⟩ | ⟨ne, e⟩
    · cases z
    · exact ⟨o, e⟩
theorem Rel.setOwn (R : Rel K G σ H ρ) (h0 : ρ[i]? = some c0) (hio : ∀ o, c0 ≠ .io o) {p : Addr} {o : OD} (hg : G p = none) (ho : OwnAt K G H p o) (n1 : ¬ OwnL σ ρ p) (n2 : ¬ OwnI σ ρ p) :
    Rel K G (σ.set i (some (.ref p))) H (ρ.set i (.own o)) := by
  obtain ⟨v0, hv0, _⟩ := R.cell i c0 h0
  have nat : ∀ j, ¬ At σ ρ j p := fun j ⟨a, c, e, w⟩ => by
    cases c with
    | own o => exact n1 ⟨j, o, e, a⟩
    | io o => exact n2 ⟨j, o, e, a⟩
    | val _ => cases w
    | un => cases w
  refine ⟨R.gh, by rw [List.length_set, List.length_set]; exact R.len, fun j c e => ?_, fun j k q hjk a b => ?_⟩
  · rcases getset e with ⟨rfl, rfl, _⟩ | ⟨ne, e⟩
    · exact ⟨_, setself hv0, p, rfl, hg, ho⟩
    · rw [List.getElem?_set_ne (Ne.symm ne)]
      exact R.cell j c e
  · obtain ⟨a1, c1, a2, a3⟩ := a
    obtain ⟨b1, c2, b2, b3⟩ := b
    rcases getset a2 with ⟨rfl, rfl, _⟩ | ⟨ne, e⟩
    · rcases getset b2 with ⟨rfl, rfl, _⟩ | ⟨ne2, e2⟩
      · exact hjk rfl
      · rw [setself hv0] at a1
        cases a1
        rw [List.getElem?_set_ne (Ne.symm ne2)] at b1
        exact nat k ⟨b1, c2, e2, b3⟩
    · rw [List.getElem?_set_ne (Ne.symm ne)] at a1
      rcases getset b2 with ⟨rfl, rfl, _⟩ | ⟨ne2, e2⟩
      · rw [setself hv0] at b1
        cases b1
        exact nat j ⟨a1, c1, e, a3⟩
      · rw [List.getElem?_set_ne (Ne.symm ne2)] at b1
        exact R.sep j k q hjk ⟨a1, c1, e, a3⟩ ⟨b1, c2, e2, b3⟩
theorem Stp.setOwn {G0 H0 : Hp} {ρ0 : DEnv} (S : Stp G0 H0 σ ρ0 G H σ ρ) (h0 : ρ[i]? = some c0) (hv : ∃ v0, σ[i]? = some v0) (hio : ∀ o, c0 ≠ .io o) {p : Addr} {o : OD} (hp : H0 p = none) :
    Stp G0 H0 σ ρ0 G H (σ.set i (some (.ref p))) (ρ.set i (.own o)) := by
  obtain ⟨v0, hv0⟩ := hv
  refine ⟨S.same, S.frame, S.keep, S.fresh, fun b => ?_, fun j o' e => ?_, fun j o' e => ?_, by rw [List.length_set]⟩
  · rintro ⟨j, o', e, w⟩
    rcases getset e with ⟨rfl, z, _⟩ | ⟨ne, e⟩
    · rw [setself hv0] at w
      cases w
      exact .inr hp
    · rw [List.getElem?_set_ne (Ne.symm ne)] at w
      exact S.ownl b ⟨j, o', e, w⟩
  · obtain ⟨e1, o2, e2⟩ := S.io j o' e
    by_cases hj : j = i
    · subst hj
      rw [h0] at e2
      exact absurd (Option.some.inj e2) (hio o2)
    · rw [List.getElem?_set_ne (Ne.symm hj), List.getElem?_set_ne (Ne.symm hj)]
      exact ⟨e1, o2, e2⟩
  · rcases getset e with ⟨rfl, z, _⟩ | ⟨ne, e⟩
    · cases z
    · exact S.oi j o' e
/-- what a list that is held becomes when it is given away -/
theorem Rel.frz (R : Rel K G σ H ρ) {ds : List PyData} (h0 : ρ[i]? = some (.own (.lst ds))) : ∃ G', Rel K G' σ H (ρ.set i (.val (.list ds))) ∧ Stp G H σ ρ G' H σ (ρ.set i (.val (.list ds))) := by
  obtain ⟨v0, hv0, p, rfl, hg, vs, hv, hd⟩ := R.cell i _ h0
  have s1 : Same G (upd G p (.lst vs)) := same_upd hg
  have apart : ∀ j c b, j ≠ i → ρ[j]? = some c → c.isOwn = true → σ[j]? = some (some (.ref b)) → b ≠ p := fun j c b ne e w a z => R.sep j i p ne ⟨by rw [a, z], c, e, w⟩ ⟨hv0, _, h0, rfl⟩
  refine ⟨upd G p (.lst vs), ⟨fun b u z => ?_, by rw [List.length_set]; exact R.len, fun j c e => ?_, fun j k q hjk a b => ?_⟩, ⟨s1, fun _ _ h _ _ => h, fun _ h => h, fun b u z => ?_, fun b => ?_, fun j o e => ?_, fun j o e => ?_, by first | rfl | simp⟩⟩
  · by_cases hb : b = p
    · subst hb; rw [upd_same] at z; cases z; exact hv
    · rw [upd_ne hb] at z; exact R.gh b u z
  · rcases getset e with ⟨rfl, rfl, _⟩ | ⟨ne, e⟩
    · exact ⟨_, hv0, _, rfl, .lst upd_same (RpAll.mono s1 hd)⟩
    · obtain ⟨v, e1, q⟩ := R.cell j c e
      refine ⟨v, e1, ?_⟩
      cases c with
      | un => trivial
      | val d => obtain ⟨x, e2, q⟩ := q; exact ⟨x, e2, Rp.mono s1 q⟩
      | own o => obtain ⟨b, e2, g, q⟩ := q; exact ⟨b, e2, by rw [upd_ne (apart j _ b ne e rfl (e2 ▸ e1))]; exact g, q.mono s1 fun _ y => y⟩
      | io o => obtain ⟨b, e2, g, q⟩ := q; exact ⟨b, e2, by rw [upd_ne (apart j _ b ne e rfl (e2 ▸ e1))]; exact g, q.mono s1 fun _ y => y⟩
  · obtain ⟨a1, c1, a2, a3⟩ := a
    obtain ⟨b1, c2, b2, b3⟩ := b
    rcases getset a2 with ⟨rfl, rfl, _⟩ | ⟨ne, e⟩
    · cases a3
    · rcases getset b2 with ⟨rfl, rfl, _⟩ | ⟨ne2, e2⟩
      · cases b3
      · exact R.sep j k q hjk ⟨a1, c1, e, a3⟩ ⟨b1, c2, e2, b3⟩
  · by_cases hb : b = p
    · subst hb; exact .inr (.inr ⟨i, _, h0, hv0⟩)
    · rw [upd_ne hb] at z; exact .inl z
  · rintro ⟨j, o, e, w⟩
    rcases getset e with ⟨rfl, z, _⟩ | ⟨ne, e⟩
    · cases z
    · exact .inl ⟨j, o, e, w⟩
  · by_cases hj : j = i
    · subst hj; rw [h0] at e; cases e
    · rw [List.getElem?_set_ne (Ne.symm hj)]; exact ⟨rfl, o, e⟩
  · rcases getset e with ⟨rfl, z, _⟩ | ⟨ne, e⟩
    · cases z
    · exact ⟨o, e⟩
end

section
variable {X : Cx} {E : WX} {a b c e : Expr} {es : List Expr} {st : Stmt} {rest sts sts2 : List Stmt} {fa fb : DEnv → Res PyData} {ff : DEnv → Res OD} {tA : DEnv → Res Bool} {fs fi : DEnv → Res (List PyData)} {f g : DEnv → Res Out} {gd : PyData → DEnv → Option DEnv} {pos : Pos} {is js : List Nat}
theorem b_nil : BJ X E [] sNx := ⟨_, pss_nil, fun σ G H ρ D R h => h G H σ R Stp.refl⟩
theorem b_one (h : SJ X E st f) : BJ X E [st] f := by
  obtain ⟨t, q, p⟩ := h
  exact ⟨t, pss_one q, p⟩
theorem b_cons (h : SJ X E st f) (h2 : BJ X E rest g) : BJ X E (st :: rest) (sSeq f g) := by
  obtain ⟨t, q, p⟩ := h
  obtain ⟨t2, q2, p2⟩ := h2
  refine ⟨_, pss_cons q q2, fun σ G H ρ D R h => p σ G H ρ _ R ?_⟩
  unfold sSeq at h
  cases r : f ρ with
  | bad => rw [r] at h; exact h
  | err x ρ' => rw [r] at h; exact h
  | ok o ρ' =>
    rw [r] at h
    cases o with
    | nx => exact fun G' H' σ' R' S' => p2 σ' G' H' ρ' D R' (SPost.from S' h)
    | bk => exact h
    | ct => exact h
    | rt d => exact h
theorem s_pass : SJ X E (.Pass pos) sNx := ⟨_, ps_pass, fun σ G H ρ D R h => h G H σ R Stp.refl⟩
theorem s_break : SJ X E (.Break pos) sBk := ⟨_, ps_break, fun σ G H ρ D R h => h G H σ R Stp.refl⟩
theorem s_continue : SJ X E (.Continue pos) sCt := ⟨_, ps_continue, fun σ G H ρ D R h => h G H σ R Stp.refl⟩
theorem s_ret (h : EJ X E e fa) : SJ X E (.Return (some e) pos) (sRet fa) := by
  obtain ⟨t, q, p⟩ := h
  exact ⟨_, ps_ret q, fun σ G H ρ D R h => p σ G H ρ _ R (SPost.bind h fun G1 H1 x d ρ1 R1 S1 hx h1 => h1 G1 H1 σ x R1 Stp.refl hx)⟩
theorem s_retN : SJ X E (.Return none pos) sRetN := ⟨_, ps_retN, fun σ G H ρ D R h => h G H σ .non R Stp.refl .non⟩
theorem s_expr (h : EJ X E e fa) (hs : swapsWith e none pos.line X.env = pure false := by rfl) : SJ X E (.Expr e pos) (sDrop fa) := by
  obtain ⟨t, q, p⟩ := h
  exact ⟨_, ps_expr q hs, fun σ G H ρ D R h => p σ G H ρ _ R (SPost.bind h fun G1 H1 x d ρ1 R1 S1 hx h1 => h1 G1 H1 σ R1 Stp.refl)⟩
theorem s_if (hc : TJ X E c tA) (ha : BJ X E sts f) (hb : BJ X E sts2 g) : SJ X E (.If c sts sts2 pos) (sIf tA f g) := by
  obtain ⟨tc, qc, pc⟩ := hc
  obtain ⟨ta, qa, pa⟩ := ha
  obtain ⟨tb, qb, pb⟩ := hb
  refine ⟨_, ps_if qc qa qb, fun σ G H ρ D R h => pc σ G H ρ _ R (SPost.bind h fun G1 H1 x d ρ1 R1 S1 hx h1 => ?_)⟩
  subst hx
  cases x with
  | true => exact iteT (pa σ G1 H1 ρ1 D R1 h1)
  | false => exact iteF (pb σ G1 H1 ρ1 D R1 h1)
/-! targets -/
theorem setoff {σ : St} (i : Nat) (v : Option V) : ∀ j, j ∉ [i] → (σ.set i v)[j]? = σ[j]? := fun j hj => List.getElem?_set_ne fun z => hj (by simp [z])
theorem g_name {x : Str} (i : Nat) (h : PG X (.Name x pos) (gName i)) : GJ X (.Name x pos) [i] (setV i) := by
  refine ⟨_, h, fun σ G H ρ x d Q R hx h => ?_⟩
  unfold setV at h
  cases q : ρ[i]? with
  | none => rw [q] at h; exact h.elim
  | some cl =>
    rw [q] at h
    cases cl with
    | io o => exact h.elim
    | un => obtain ⟨r, s⟩ := R.setVal q (fun _ z => nomatch z) hx; exact h G H _ r s (setoff i _)
    | val _ => obtain ⟨r, s⟩ := R.setVal q (fun _ z => nomatch z) hx; exact h G H _ r s (setoff i _)
    | own _ => obtain ⟨r, s⟩ := R.setVal q (fun _ z => nomatch z) hx; exact h G H _ r s (setoff i _)
theorem gs_nil (h : PGs X [] gNil := by exact pgs_nil) : GsJ X [] [] gNilD := by
  refine ⟨_, h, fun σ G H ρ xs ds Q R hx h => ?_⟩
  cases hx with
  | nil => exact ⟨rfl, h G H σ R Stp.refl fun _ _ => rfl⟩
  | cons _ _ => exact h.elim
theorem gs_cons {gs : List PyData → DEnv → Option DEnv} (hp : ∀ t u, PG X a t → PGs X es u → PGs X (a :: es) (gCons t u)) (ha : GJ X a is gd) (hb : GsJ X es js gs) : GsJ X (a :: es) (is ++ js) (gConsD gd gs) := by
  obtain ⟨ta, qa, pa⟩ := ha
  obtain ⟨tb, qb, pb⟩ := hb
  refine ⟨_, hp _ _ qa qb, fun σ G H ρ xs ds Q R hx h => ?_⟩
  cases hx with
  | nil => exact h.elim
  | cons h1 h2 =>
    rename_i v vs d ds
    refine ⟨v, vs, rfl, pa σ G H ρ v d _ R h1 ?_⟩
    have h : GPost X.K σ G H ρ (is ++ js) Q ((gd d ρ).bind fun ρ1 => gs ds ρ1) := h
    cases r : gd d ρ with
    | none => rw [r] at h; exact h
    | some ρ1 =>
      rw [r] at h
      intro G' H' σ' R' S' O'
      refine pb σ' G' H' ρ1 vs ds Q R' (RpAll.mono S'.same h2) ?_
      have h : GPost X.K σ G H ρ (is ++ js) Q (gs ds ρ1) := h
      cases r2 : gs ds ρ1 with
      | none => rw [r2] at h; exact h
      | some ρ2 => rw [r2] at h; exact fun G2 H2 σ2 R2 S2 O2 => h G2 H2 σ2 R2 (S'.trans S2) fun j hj => (O2 j fun z => hj (List.mem_append_right _ z)).trans (O' j fun z => hj (List.mem_append_left _ z))
theorem g_tup {gs : List PyData → DEnv → Option DEnv} {k n : Nat} (hl : es.length = n) (hp : ∀ t, PGs X es t → PG X (.Tuple es k pos) (gTup X.K n t)) (h : GsJ X es is gs) : GJ X (.Tuple es k pos) is (gTupD n gs) := by
  obtain ⟨t, q, p⟩ := h
  refine ⟨_, hp t q, fun σ G H ρ x d Q R hx h => ?_⟩
  unfold gTupD at h
  cases hx with
  | tup h1 h2 =>
    rename_i a xs ds
    have h : GPost X.K σ G H ρ is Q (if ds.length = n then gs ds ρ else none) := h
    by_cases e : ds.length = n
    · rw [if_pos e] at h
      exact ⟨a, xs, rfl, Same.seqT R.gh h1, by rw [h2.len]; exact e, p σ G H ρ xs ds Q R h2 h⟩
    · rw [if_neg e] at h
      exact h.elim
  | _ => exact h.elim
theorem s_asg (he : EJ X E e fa) (hg : GJ X a is gd) (hp : ∀ (te : TE) (g : TG), PE X e te → PG X a g → PS X (.Assign [a] e pos) (tAsg te g)) : SJ X E (.Assign [a] e pos) (sAsg fa gd) := by
  obtain ⟨t, q, p⟩ := he
  obtain ⟨t2, q2, p2⟩ := hg
  refine ⟨_, hp t t2 q q2, fun σ G H ρ D R h => p σ G H ρ _ R (SPost.bind h fun G1 H1 x d ρ1 R1 S1 hx h1 => p2 σ G1 H1 ρ1 x d _ R1 hx ?_)⟩
  cases r : gd d ρ1 with
  | none => rw [r] at h1; exact h1
  | some ρ2 => rw [r] at h1; exact fun G' H' σ' R' S' _ => h1 G' H' σ' R' S'
/-- x = a new object: the reading -/
theorem new_read {K : PySem.W.Frag} {mg : Str → Option Value} {t : TE} (i : Nat) (p : ∀ (σ : St) (G H : Hp) (ρ : DEnv) (Q : VK), Rel K G σ H ρ → FPost K mg E σ G H ρ Q (ff ρ) → t σ H Q) {σ : St} {G H : Hp} {ρ : DEnv} {D : Ends} (R : Rel K G σ H ρ)
    (h : SPost K mg E D σ G H ρ (sNew i ff ρ)) : tAsg t (gName i) D σ H := by
  refine p σ G H ρ _ R ?_
  have h : SPost K mg E D σ G H ρ ((ff ρ).bind fun o ρ1 => nxOf (setO i o ρ1)) := h
  cases r : ff ρ with
  | bad => rw [r] at h; exact h
  | err x ρ' => rw [r] at h; exact fun G' H' c od R S q => h G' H' σ c od R S q
  | ok o ρ1 =>
    rw [r] at h
    intro G1 H1 p R1 S1 hg ho hp n1 n2
    show D.nx (σ.set i (some (.ref p))) H1
    have h : SPost K mg E D σ G H ρ (nxOf (setO i o ρ1)) := h
    unfold setO at h
    cases q : ρ1[i]? with
    | none => rw [q] at h; exact h.elim
    | some cl =>
      rw [q] at h
      have hv : ∃ v0, σ[i]? = some v0 := by obtain ⟨v0, e0, _⟩ := R1.cell i cl q; exact ⟨v0, e0⟩
      cases cl with
      | io o => exact h.elim
      | un => exact h G1 H1 _ (R1.setOwn q (fun _ z => nomatch z) hg ho n1 n2) (S1.setOwn q hv (fun _ z => nomatch z) hp)
      | val _ => exact h G1 H1 _ (R1.setOwn q (fun _ z => nomatch z) hg ho n1 n2) (S1.setOwn q hv (fun _ z => nomatch z) hp)
      | own _ => exact h G1 H1 _ (R1.setOwn q (fun _ z => nomatch z) hg ho n1 n2) (S1.setOwn q hv (fun _ z => nomatch z) hp)
theorem s_new {x : Str} {p1 : Pos} (i : Nat) (he : FJ X E e ff) (hp : ∀ te : TE, PE X e te → PS X (.Assign [.Name x p1] e pos) (tAsg te (gName i))) : SJ X E (.Assign [.Name x p1] e pos) (sNew i ff) := by
  obtain ⟨t, q, p⟩ := he
  exact ⟨_, hp t q, fun σ G H ρ D R h => new_read i p R h⟩
theorem s_frz (i : Nat) (h : SJ X E st f) : SJ X E st (sFrz i f) := by
  obtain ⟨t, q, p⟩ := h
  refine ⟨t, q, fun σ G H ρ D R h => ?_⟩
  have h : SPost X.K X.mg E D σ G H ρ (f (frzC i ρ)) := h
  unfold frzC at h
  cases e : ρ[i]? with
  | none => rw [e] at h; exact p σ G H ρ D R h
  | some c =>
    cases c with
    | un => rw [e] at h; exact p σ G H ρ D R h
    | val _ => rw [e] at h; exact p σ G H ρ D R h
    | io _ => rw [e] at h; exact p σ G H ρ D R h
    | own o =>
      cases o with
      | dk _ => rw [e] at h; exact p σ G H ρ D R h
      | dt _ => rw [e] at h; exact p σ G H ρ D R h
      | ins _ _ => rw [e] at h; exact p σ G H ρ D R h
      | dn _ => rw [e] at h; exact p σ G H ρ D R h
      | ts _ _ _ => rw [e] at h; exact p σ G H ρ D R h
      | lst ds =>
        rw [e] at h
        obtain ⟨G', R', S'⟩ := R.frz e
        exact p σ G' H _ D R' (SPost.from S' h)
/-! ### loops -/
theorem s_for {tg iter : Expr} {body : List Stmt} (hp : ∀ wi gt tb, PI X tg iter wi → PG X tg gt → PSs X body tb → PS X (.For tg iter body [] pos) (tFor wi gt tb)) (hi : IJ X E tg iter fi) (hg : GJ X tg is gd) (hb : BJ X E body f) : SJ X E (.For tg iter body [] pos) (sFor fi gd f) := by
  obtain ⟨wi, qi, pi⟩ := hi
  obtain ⟨gt, qg, pg⟩ := hg
  obtain ⟨tb, qb, pb⟩ := hb
  refine ⟨_, hp _ _ _ qi qg qb, fun σ0 G0 H0 ρ0 D R h => pi σ0 G0 H0 ρ0 _ R ?_⟩
  have h : SPost X.K X.mg E D σ0 G0 H0 ρ0 ((fi ρ0).bind fun ds ρ1 => forL gd f ds ρ1) := h
  cases r : fi ρ0 with
  | bad => rw [r] at h; exact h
  | err x ρ' => rw [r] at h; exact fun G' H' c od R S q => h G' H' σ0 c od R S q
  | ok ds ρ1 =>
    rw [r] at h
    intro G1 H1 J R1 S1 hw
    have h : SPost X.K X.mg E D σ0 G0 H0 ρ0 (forL gd f ds ρ1) := h
    refine ⟨fun i m σ H => ∃ G ρ, Rel X.K G σ H ρ ∧ Same G1 G ∧ m = ds.length - i ∧ i ≤ ds.length ∧ SPost X.K X.mg E D σ G H ρ (forL gd f (ds.drop i) ρ),
      ⟨ds.length, G1, ρ1, R1, Same.refl _, by omega, Nat.zero_le _, SPost.from S1 (by rw [List.drop_zero]; exact h)⟩, fun i m σ H hW => ?_⟩
    obtain ⟨G, ρ, R2, s2, rfl, hle, h2⟩ := hW
    obtain ⟨w1, w2⟩ := hw i G H s2 R2.gh
    by_cases hi : i < ds.length
    · have hd : ds.drop i = ds[i] :: ds.drop (i + 1) := List.drop_eq_getElem_cons hi
      rw [hd] at h2
      obtain ⟨go, yl⟩ := w1 ds[i] (List.getElem?_eq_getElem hi)
      refine .inr ⟨go, fun σ' H' => ∃ G ρ, Rel X.K G σ' H' ρ ∧ Same G1 G ∧ SPost X.K X.mg E D σ' G H' ρ (forL gd f (ds.drop (i + 1)) ρ), fun σ' H' hN => ?_, fun x H' hy => ?_⟩
      · obtain ⟨G', ρ', R', s', h'⟩ := hN
        exact ⟨ds.length - (i + 1), by omega, G', ρ', R', s', rfl, hi, h'⟩
      · obtain ⟨G3, gr, hx⟩ := yl x H' hy
        obtain ⟨R3, S3⟩ := gr σ ρ R2
        refine pg σ G3 H' ρ x ds[i] _ R3 hx ?_
        have h3 : SPost X.K X.mg E D σ G3 H' ρ (forL gd f (ds[i] :: ds.drop (i + 1)) ρ) := SPost.from S3 h2
        unfold forL at h3
        cases q : gd ds[i] ρ with
        | none => rw [q] at h3; exact h3
        | some ρ4 =>
          rw [q] at h3
          intro G4 H4 σ4 R4 S4 _
          refine pb σ4 G4 H4 ρ4 _ R4 ?_
          cases q5 : f ρ4 with
          | bad => simp only [q5] at h3; exact h3
          | err x ρ5 => simp only [q5] at h3; exact SPost.from S4 h3
          | ok o ρ5 =>
            cases o with
            | nx => simp only [q5] at h3; exact fun G5 H5 σ5 R5 S5 => ⟨G5, ρ5, R5, ((s2.trans S3.same).trans S4.same).trans S5.same, SPost.from (S4.trans S5) h3⟩
            | ct => simp only [q5] at h3; exact fun G5 H5 σ5 R5 S5 => ⟨G5, ρ5, R5, ((s2.trans S3.same).trans S4.same).trans S5.same, SPost.from (S4.trans S5) h3⟩
            | bk => simp only [q5] at h3; exact fun G5 H5 σ5 R5 S5 => h3 G5 H5 σ5 R5 (S4.trans S5)
            | rt d => simp only [q5] at h3; exact SPost.from S4 h3
    · have e : ds.drop i = [] := List.drop_eq_nil_of_le (by omega)
      rw [e] at h2
      exact .inl ⟨w2 (by omega), h2 G H σ R2 Stp.refl⟩
theorem s_while {body : List Stmt} (hp : ∀ tc tb, PT X c tc → PSs X body tb → PS X (.While c body [] pos) (tWhile tc tb)) (hc : TJ X E c tA) (hb : BJ X E body f) : SJ X E (.While c body [] pos) (sWhile tA f) := by
  obtain ⟨tc, qc, pc⟩ := hc
  obtain ⟨tb, qb, pb⟩ := hb
  refine ⟨_, hp _ _ qc qb, fun σ0 G0 H0 ρ0 D R h => ?_⟩
  refine ⟨fun m σ H => ∃ G ρ, Rel X.K G σ H ρ ∧ SPost X.K X.mg E D σ G H ρ (whileN tA f m ρ), ⟨manyTurns, G0, ρ0, R, h⟩, fun m σ H hW => ?_⟩
  obtain ⟨G, ρ, R1, h1⟩ := hW
  cases m with
  | zero => exact h1.elim
  | succ n =>
    unfold whileN at h1
    refine pc σ G H ρ _ R1 (SPost.bind h1 fun G1 H1 x d ρ1 R1 S1 hx h2 => ?_)
    subst hx
    cases x with
    | false => exact iteF (h2 G1 H1 σ R1 Stp.refl)
    | true =>
      refine iteT ?_
      rw [if_pos rfl] at h2
      refine ⟨fun σ' H' => ∃ G ρ, Rel X.K G σ' H' ρ ∧ SPost X.K X.mg E D σ' G H' ρ (whileN tA f n ρ), fun σ' H' hN => ⟨n, Nat.lt_succ_self n, hN⟩, ?_⟩
      refine pb σ G1 H1 ρ1 _ R1 ?_
      cases q5 : f ρ1 with
      | bad => simp only [q5] at h2; exact h2
      | err x ρ5 => simp only [q5] at h2; exact h2
      | ok o ρ5 =>
        cases o with
        | nx => simp only [q5] at h2; exact fun G5 H5 σ5 R5 S5 => ⟨G5, ρ5, R5, SPost.from S5 h2⟩
        | ct => simp only [q5] at h2; exact fun G5 H5 σ5 R5 S5 => ⟨G5, ρ5, R5, SPost.from S5 h2⟩
        | bk => simp only [q5] at h2; exact h2
        | rt d => simp only [q5] at h2; exact h2
end
end DL

set_option Elab.async false
set_option linter.all false
set_option maxRecDepth 100000
set_option maxHeartbeats 4000000
/-! DL part 4: defs, calls. -/
namespace DL
open PySem PySem.Spec PyProof.Rows L2

def Cell.isArg : Cell → Bool
  | .val _ => true
  | .io _ => true
  | _ => false
/-- what a def promises: its meaning on its arguments' cells -/
def spD (K : PySem.W.Frag) (mg : Str → Option Value) (n : Nat) (den : DEnv → Res PyData) : Sp := fun vs H Q E => ∃ (G : Hp) (cs : DEnv), vs.length = n ∧ cs.all Cell.isArg = true ∧ Rel K G (vs.map some) H cs ∧ Post K mg (upE E) (Rp K) (vs.map some) G H cs Q (den cs)
def backIO : DEnv → DEnv → DEnv
  | .io _ :: cs, c :: ρ => c :: backIO cs ρ
  | c :: cs, _ :: ρ => c :: backIO cs ρ
  | cs, [] => cs
  | [], _ => []
def defD (m : Nat) (body : DEnv → Res Out) : DEnv → Res PyData := fun cs => match body (cs ++ List.replicate m .un) with
  | .ok (.rt d) ρ => .ok d (backIO cs ρ)
  | .ok .nx ρ => .ok .none (backIO cs ρ)
  | .err x ρ => .err x (backIO cs ρ)
  | _ => .bad
theorem backIO_get : ∀ (cs ρ : DEnv) (i : Nat) (c : Cell), cs.length ≤ ρ.length → (backIO cs ρ)[i]? = some c → ((∃ o, cs[i]? = some (.io o)) ∧ ρ[i]? = some c) ∨ ((∀ o, c ≠ .io o) ∧ cs[i]? = some c)
  | [], ρ, i, c, _, h => by
    cases ρ <;> simp [backIO] at h
  | c0 :: cs, [], i, c, hl, h => by simp at hl
  | c0 :: cs, r :: ρ, 0, c, hl, h => by
    cases c0 with
    | io o =>
      simp only [backIO, List.getElem?_cons_zero, Option.some.injEq] at h
      subst h
      exact .inl ⟨⟨o, rfl⟩, rfl⟩
    | un => simp only [backIO, List.getElem?_cons_zero, Option.some.injEq] at h; subst h; exact .inr ⟨fun o z => (nomatch z), rfl⟩
    | val d => simp only [backIO, List.getElem?_cons_zero, Option.some.injEq] at h; subst h; exact .inr ⟨fun o z => (nomatch z), rfl⟩
    | own d => simp only [backIO, List.getElem?_cons_zero, Option.some.injEq] at h; subst h; exact .inr ⟨fun o z => (nomatch z), rfl⟩
  | c0 :: cs, r :: ρ, i + 1, c, hl, h => by
    have hl' : cs.length ≤ ρ.length := by simpa using hl
    have h' : (backIO cs ρ)[i]? = some c := by
      cases c0 <;> simpa [backIO] using h
    simpa using backIO_get cs ρ i c hl' h'
theorem backIO_io : ∀ (cs ρ : DEnv) (i : Nat) (o : OD), cs.length ≤ ρ.length → cs[i]? = some (.io o) → (backIO cs ρ)[i]? = ρ[i]?
  | [], _, _, _, _, h => by simp at h
  | c0 :: cs, [], i, o, hl, h => by simp at hl
  | c0 :: cs, r :: ρ, 0, o, hl, h => by
    simp only [List.getElem?_cons_zero, Option.some.injEq] at h
    subst h
    rfl
  | c0 :: cs, r :: ρ, i + 1, o, hl, h => by
    have hl' : cs.length ≤ ρ.length := by simpa using hl
    have := backIO_io cs ρ i o hl' (by simpa using h)
    cases c0 <;> simpa [backIO] using this
theorem backIO_len : ∀ (cs ρ : DEnv), cs.length ≤ ρ.length → (backIO cs ρ).length = cs.length
  | [], ρ, _ => by cases ρ <;> rfl
  | c0 :: cs, [], hl => by simp at hl
  | c0 :: cs, r :: ρ, hl => by
    have := backIO_len cs ρ (by simpa using hl)
    cases c0 <;> simpa [backIO] using this
theorem arg_noown {cs : DEnv} (h : cs.all Cell.isArg = true) {i : Nat} {o : OD} : cs[i]? ≠ some (.own o) := fun e => by
  have := List.all_eq_true.mp h _ (List.mem_of_getElem? e)
  cases this
/-- from the body's end to the call's -/
theorem back_ok {K : PySem.W.Frag} {vs : List V} {G H G' H' : Hp} {cs ρ' : DEnv} {σ' : St} {m : Nat} (ha : cs.all Cell.isArg = true) (R : Rel K G (vs.map some) H cs) (R' : Rel K G' σ' H' ρ')
    (S : Stp G H (vs.map some ++ List.replicate m none) (cs ++ List.replicate m .un) G' H' σ' ρ') :
    Rel K G' (vs.map some) H' (backIO cs ρ') ∧ Stp G H (vs.map some) cs G' H' (vs.map some) (backIO cs ρ') := by
  have hvl : (vs.map some).length = cs.length := R.len
  have hcs : cs.length ≤ ρ'.length := by
    rw [← R'.len, S.len, List.length_append, hvl]
    omega
  have app : ∀ {i : Nat} {o : OD}, cs[i]? = some (.io o) → (cs ++ List.replicate m Cell.un)[i]? = some (.io o) ∧ (vs.map some ++ List.replicate m none)[i]? = (vs.map some)[i]? := fun {i o} e => by
    have hi : i < cs.length := (List.getElem?_eq_some_iff.mp e).1
    exact ⟨by rw [List.getElem?_append_left hi]; exact e, List.getElem?_append_left (by omega)⟩
  have ioS : ∀ {i : Nat} {o : OD}, cs[i]? = some (.io o) → σ'[i]? = (vs.map some)[i]? ∧ ∃ o', ρ'[i]? = some (.io o') := fun {i o} e => by
    obtain ⟨a1, a2⟩ := app e
    obtain ⟨b1, b2⟩ := S.io i o a1
    exact ⟨b1.trans a2, b2⟩
  have inner : ∀ {i : Nat} {c : Cell}, (cs ++ List.replicate m Cell.un)[i]? = some c → (cs[i]? = some c) ∨ c = .un := fun {i c} e => by
    by_cases hi : i < cs.length
    · rw [List.getElem?_append_left hi] at e; exact .inl e
    · rw [List.getElem?_append_right (by omega)] at e
      exact .inr (List.eq_of_mem_replicate (List.mem_of_getElem? e))
  have noL : ∀ b, ¬ OwnL (vs.map some ++ List.replicate m none) (cs ++ List.replicate m .un) b := fun b ⟨i, o, e, _⟩ => by
    rcases inner e with z | z
    · exact arg_noown ha z
    · cases z
  have iOld : ∀ b, OwnI (vs.map some ++ List.replicate m none) (cs ++ List.replicate m .un) b → OwnI (vs.map some) cs b := fun b ⟨i, o, e, w⟩ => by
    rcases inner e with z | z
    · exact ⟨i, o, z, by rw [← (app z).2]; exact w⟩
    · cases z
  refine ⟨⟨R'.gh, by rw [backIO_len cs ρ' hcs]; exact hvl, fun i c e => ?_, fun i j p hij a b => ?_⟩, ⟨S.same, fun b o e n1 n2 => S.frame b o e (noL b) (fun z => n2 (iOld b z)), S.keep, fun b o e => ?_, fun b => ?_, fun i o e => ?_, fun i o e => ?_, rfl⟩⟩
  · rcases backIO_get cs ρ' i c hcs e with ⟨⟨o, z⟩, w⟩ | ⟨nio, z⟩
    · obtain ⟨v, e1, q⟩ := R'.cell i c w
      exact ⟨v, by rw [← (ioS z).1]; exact e1, q⟩
    · obtain ⟨v, e1, q⟩ := R.cell i c z
      refine ⟨v, e1, ?_⟩
      cases c with
      | un => trivial
      | val d => obtain ⟨x, e2, q⟩ := q; exact ⟨x, e2, Rp.mono S.same q⟩
      | own o => exact absurd z (arg_noown ha)
      | io o => exact absurd rfl (nio o)
  · have up : ∀ {i : Nat}, At (vs.map some) (backIO cs ρ') i p → At σ' ρ' i p := fun {i} ⟨a1, c, a2, a3⟩ => by
      rcases backIO_get cs ρ' i c hcs a2 with ⟨⟨o, z⟩, w⟩ | ⟨nio, z⟩
      · exact ⟨by rw [(ioS z).1]; exact a1, c, w, a3⟩
      · cases c with
        | io o => exact absurd rfl (nio o)
        | own o => exact absurd z (arg_noown ha)
        | un => cases a3
        | val _ => cases a3
    exact R'.sep i j p hij (up a) (up b)
  · rcases S.fresh b o e with z | z | z
    · exact .inl z
    · exact .inr (.inl z)
    · exact absurd z (noL b)
  · rintro ⟨i, o, e, w⟩
    rcases backIO_get cs ρ' i _ hcs e with ⟨⟨o1, z⟩, w2⟩ | ⟨nio, z⟩
    · obtain ⟨o', e'⟩ := (ioS z).2
      rw [w2] at e'
      cases e'
    · exact absurd z (arg_noown ha)
  · refine ⟨rfl, ?_⟩
    rw [backIO_io cs ρ' i o hcs e]
    exact (ioS e).2
  · rcases backIO_get cs ρ' i _ hcs e with ⟨⟨o1, z⟩, w2⟩ | ⟨nio, z⟩
    · exact ⟨o1, z⟩
    · exact absurd rfl (nio o)
theorem Rel.ext {K : PySem.W.Frag} {G H : Hp} {σ : St} {cs : DEnv} (R : Rel K G σ H cs) (m : Nat) : Rel K G (σ ++ List.replicate m none) H (cs ++ List.replicate m .un) := by
  have inner : ∀ {i : Nat} {c : Cell}, (cs ++ List.replicate m Cell.un)[i]? = some c → (cs[i]? = some c) ∨ (c = .un ∧ ∃ v, (σ ++ List.replicate m none)[i]? = some v) := fun {i c} e => by
    by_cases hi : i < cs.length
    · rw [List.getElem?_append_left hi] at e; exact .inl e
    · have hlt : i < (σ ++ List.replicate m none).length := by
        have := (List.getElem?_eq_some_iff.mp e).1
        rw [List.length_append, List.length_replicate] at this ⊢
        rw [R.len]; exact this
      rw [List.getElem?_append_right (by omega)] at e
      exact .inr ⟨List.eq_of_mem_replicate (List.mem_of_getElem? e), _, List.getElem?_eq_getElem hlt⟩
  have inσ : ∀ {i : Nat} {c : Cell}, cs[i]? = some c → (σ ++ List.replicate m none)[i]? = σ[i]? := fun {i c} e => by
    have := (List.getElem?_eq_some_iff.mp e).1
    exact List.getElem?_append_left (by rw [R.len]; exact this)
  refine ⟨R.gh, by rw [List.length_append, List.length_append, List.length_replicate, List.length_replicate, R.len], fun i c e => ?_, fun i j p hij a b => ?_⟩
  · rcases inner e with z | ⟨rfl, v, z⟩
    · rw [inσ z]; exact R.cell i c z
    · exact ⟨v, z, trivial⟩
  · have down : ∀ {i : Nat}, At (σ ++ List.replicate m none) (cs ++ List.replicate m .un) i p → At σ cs i p := fun {i} ⟨a1, c, a2, a3⟩ => by
      rcases inner a2 with z | ⟨rfl, _, _⟩
      · exact ⟨by rw [← inσ z]; exact a1, c, z, a3⟩
      · cases a3
    exact R.sep i j p hij (down a) (down b)
/-- how a def stands behind the top, and its promise -/
structure IsDef (K : PySem.W.Frag) (mg : Str → Option Value) (x qual : Str) (st : Stmt) (ps : List Str) (f : Addr) (fd : FuncData) : Prop where
  fn : Fun K x qual st f fd
  gl : mg x = some (.ref f)
  bi : Binds K fd ps []
structure Kept (P : Program) (w : World) (K : PySem.W.Frag) (mg : Str → Option Value) (base : Heap) (CX : CXT) (k : Nat) (x : Str) (ps : List Str) (den : DEnv → Res PyData) : Prop where
  ex : ∃ (f : Addr) (fd : FuncData), mg x = some (.ref f) ∧ PySem.W.keepIn K (.ref f) = true ∧ Binds K fd ps [] ∧ FnOk P w K mg base CX k f fd ps (spD K mg ps.length den)
section
variable {P : Program} {w : World} {K : PySem.W.Frag} {mg : Str → Option Value} {base : Heap}
theorem fnok_of {x qual : Str} {st : Stmt} {f : Addr} {fd : FuncData} {N ps : List Str} {k m : Nat} {body : DEnv → Res Out} (D : IsDef K mg x qual st ps f fd) (S : FnScope N ps (defScope st)) (hN : N.length = ps.length + m)
    (hb : ∀ (cdv : Value) (A : Around) (outer : List Env) (s : Shared) (H : Hp) (E : XK), Room k (A.deeper (envOfC qual (defScope st) s.heap.objs.size f cdv)) → BJ (cxOf CX0 P w K mg base N qual (defScope st) f cdv A outer s H E).nox (upE E) (defBody st) body) :
    FnOk P w K mg base CX0 (k + 1) f fd ps (spD K mg ps.length (defD m body)) := by
  refine D.fn.ok S (fun vs H Q E h => ?_) fun cdv A outer s H vs Q E hr h => ?_
  · obtain ⟨_, _, h, _⟩ := h
    exact h
  · obtain ⟨G, cs, hl, ha, R, h⟩ := h
    obtain ⟨t, q, p⟩ := (hb cdv A outer s H E hr).ex
    refine ⟨t, q, ?_⟩
    have hst : L2.start N vs = vs.map some ++ List.replicate m none := by
      unfold L2.start
      rw [hN, hl]
      congr 2
      omega
    rw [hst]
    have R0 := R.ext m
    have p' : ∀ (σ : St) (G H : Hp) (ρ : DEnv) (D : Ends), Rel K G σ H ρ → SPost K mg (upE E) D σ G H ρ (body ρ) → t D σ H := p
    refine p' _ G H (cs ++ List.replicate m .un) _ R0 ?_
    show SPost K mg (upE E) _ (vs.map some ++ List.replicate m none) G H (cs ++ List.replicate m .un) (body (cs ++ List.replicate m .un))
    unfold defD at h
    cases r : body (cs ++ List.replicate m .un) with
    | bad => rw [r] at h; exact h
    | err x ρ' =>
      rw [r] at h
      intro G' H' σ' c od R' S' q
      obtain ⟨R2, S2⟩ := back_ok ha R R' S'
      exact h G' H' c od R2 S2 q
    | ok o ρ' =>
      rw [r] at h
      cases o with
      | nx =>
        intro G' H' σ' R' S'
        obtain ⟨R2, S2⟩ := back_ok ha R R' S'
        exact h G' H' .non R2 S2 .non
      | rt d =>
        intro G' H' σ' v R' S' q
        obtain ⟨R2, S2⟩ := back_ok ha R R' S'
        exact h G' H' v R2 S2 q
      | bk => exact h.elim
      | ct => exact h.elim
theorem kept_of {x qual : Str} {st : Stmt} {f : Addr} {fd : FuncData} {N ps : List Str} {k m : Nat} {body : DEnv → Res Out} (D : IsDef K mg x qual st ps f fd) (S : FnScope N ps (defScope st)) (hN : N.length = ps.length + m)
    (hb : ∀ (cdv : Value) (A : Around) (outer : List Env) (s : Shared) (H : Hp) (E : XK), Room k (A.deeper (envOfC qual (defScope st) s.heap.objs.size f cdv)) → BJ (cxOf CX0 P w K mg base N qual (defScope st) f cdv A outer s H E).nox (upE E) (defBody st) body) :
    Kept P w K mg base CX0 (k + 1) x ps (defD m body) := by
  exact ⟨f, fd, D.gl, D.fn.kp, D.bi, fnok_of D S hN hb⟩
/-! ### calls -/
def dCallV (den : DEnv → Res PyData) (fs : DEnv → Res (List PyData)) : DEnv → Res PyData := fun ρ => (fs ρ).bind fun ds ρ1 => match den (ds.map .val) with
  | .ok d _ => .ok d ρ1
  | _ => .bad
def callIO (den : DEnv → Res PyData) (i : Nat) (ds : List PyData) (ρ : DEnv) : Res PyData := match ρ[i]? with
  | some (.io o) => match den (.io o :: ds.map .val) with
    | .ok d (.io o' :: _) => .ok d (ρ.set i (.io o'))
    | _ => .bad
  | some (.own o) => match den (.io o :: ds.map .val) with
    | .ok d (.io o' :: _) => .ok d (ρ.set i (.own o'))
    | _ => .bad
  | _ => .bad
def dCallI (den : DEnv → Res PyData) (i : Nat) (fs : DEnv → Res (List PyData)) : DEnv → Res PyData := fun ρ => if (ρ[i]?.getD .un).isOwn = true then (fs ρ).bind fun ds ρ1 => callIO den i ds ρ1 else .bad
theorem vals_rel {K : PySem.W.Frag} {G H : Hp} (gh : Same G H) {vs : List V} {ds : List PyData} (h : RpAll K G vs ds) : Rel K G (vs.map some) H (ds.map .val) := by
  have hl := RpAll.len h
  refine ⟨gh, by rw [List.length_map, List.length_map, hl], fun i c e => ?_, fun i j p _ a _ => ?_⟩
  · rw [List.getElem?_map] at e
    cases q : ds[i]? with
    | none => rw [q] at e; cases e
    | some d =>
      rw [q] at e
      cases e
      obtain ⟨v, h1, h2⟩ := RpAll.get h q
      exact ⟨some v, by rw [List.getElem?_map, h1]; rfl, v, rfl, h2⟩
  · obtain ⟨_, c, e, w⟩ := a
    rw [List.getElem?_map] at e
    cases q : ds[i]? with
    | none => rw [q] at e; cases e
    | some d => rw [q] at e; cases e; cases w
theorem vals_arg (ds : List PyData) : (ds.map Cell.val).all Cell.isArg = true := by
  rw [List.all_map]
  exact List.all_eq_true.mpr fun _ _ => rfl
/-- a step of a callee that was lent nothing, seen by the caller -/
theorem call_step {K : PySem.W.Frag} {G H G' H' : Hp} {σ : St} {ρ : DEnv} {vs : List V} {ds : List PyData} {cs : DEnv} (R : Rel K G σ H ρ) (hv : RpAll K G vs ds) (gh : Same G' H')
    (S : Stp G H (vs.map some) (ds.map .val) G' H' (vs.map some) cs) : Rel K G' σ H' ρ ∧ Stp G H σ ρ G' H' σ ρ := by
  have nv : ∀ {i : Nat} {c : Cell}, (ds.map Cell.val)[i]? = some c → ∃ d, c = .val d := fun {i c} e => by
    rw [List.getElem?_map] at e
    cases q : ds[i]? with
    | none => rw [q] at e; cases e
    | some d => rw [q] at e; cases e; exact ⟨d, rfl⟩
  have nL : ∀ b, ¬ OwnL (vs.map some) (ds.map .val) b := fun b ⟨i, o, e, _⟩ => by obtain ⟨d, z⟩ := nv e; cases z
  have nI : ∀ b, ¬ OwnI (vs.map some) (ds.map .val) b := fun b ⟨i, o, e, _⟩ => by obtain ⟨d, z⟩ := nv e; cases z
  have fr : ∀ b o, H b = some o → H' b = some o := fun b o e => S.frame b o e (nL b) (nI b)
  have old : ∀ b o, H b = some o → G b = none → G' b = none := fun b o e g => by
    cases q : G' b with
    | none => rfl
    | some u =>
      rcases S.fresh b u q with z | z | z
      · rw [g] at z; cases z
      · rw [e] at z; cases z
      · exact absurd z (nL b)
  refine ⟨⟨gh, R.len, fun i c e => ?_, R.sep⟩, ⟨S.same, fun b o e _ _ => fr b o e, S.keep, fun b o e => ?_, fun b z => .inl z, fun _ o e => ⟨rfl, o, e⟩, fun _ o e => ⟨o, e⟩, rfl⟩⟩
  · obtain ⟨v, e1, q⟩ := R.cell i c e
    refine ⟨v, e1, ?_⟩
    cases c with
    | un => trivial
    | val d => obtain ⟨x, e2, q⟩ := q; exact ⟨x, e2, Rp.mono S.same q⟩
    | own o => obtain ⟨b, e2, g, q⟩ := q; obtain ⟨u, hu⟩ := q.ex; exact ⟨b, e2, old b u hu g, q.mono S.same fun u z => fr b u z⟩
    | io o => obtain ⟨b, e2, g, q⟩ := q; obtain ⟨u, hu⟩ := q.ex; exact ⟨b, e2, old b u hu g, q.mono S.same fun u z => fr b u z⟩
  · rcases S.fresh b o e with z | z | z
    · exact .inl z
    · exact .inr (.inl z)
    · exact absurd z (nL b)
/-- .. that was lent the object at p -/
theorem callIO_step {K : PySem.W.Frag} {G H G' H' : Hp} {σ : St} {ρ : DEnv} {vs : List V} {ds : List PyData} {cs : DEnv} {p : Addr} {o o' : OD} {i : Nat} {mk : OD → Cell} (hmk : mk = .io ∨ mk = .own) (R : Rel K G σ H ρ) (hi : ρ[i]? = some (mk o)) (hσ : σ[i]? = some (some (.ref p)))
    (R' : Rel K G' ((V.ref p :: vs).map some) H' (.io o' :: cs))
    (S : Stp G H ((V.ref p :: vs).map some) (.io o :: ds.map .val) G' H' ((V.ref p :: vs).map some) (.io o' :: cs)) : Rel K G' σ H' (ρ.set i (mk o')) ∧ Stp G H σ ρ G' H' σ (ρ.set i (mk o')) := by
  have hown : (mk o).isOwn = true := by rcases hmk with rfl | rfl <;> rfl
  have nv : ∀ {j : Nat} {c : Cell}, (Cell.io o :: ds.map Cell.val)[j]? = some c → (j = 0 ∧ c = .io o) ∨ ∃ d, c = .val d := fun {j c} e => by
    cases j with
    | zero => cases e; exact .inl ⟨rfl, rfl⟩
    | succ j =>
      rw [List.getElem?_cons_succ, List.getElem?_map] at e
      cases q : ds[j]? with
      | none => rw [q] at e; cases e
      | some d => rw [q] at e; cases e; exact .inr ⟨d, rfl⟩
  have nL : ∀ b, ¬ OwnL ((V.ref p :: vs).map some) (.io o :: ds.map .val) b := fun b ⟨j, u, e, _⟩ => by
    rcases nv e with ⟨_, z⟩ | ⟨d, z⟩ <;> cases z
  have nI : ∀ b, OwnI ((V.ref p :: vs).map some) (.io o :: ds.map .val) b → b = p := fun b ⟨j, u, e, w⟩ => by
    rcases nv e with ⟨rfl, _⟩ | ⟨d, z⟩
    · cases w; rfl
    · cases z
  have fr : ∀ b u, b ≠ p → H b = some u → H' b = some u := fun b u ne e => S.frame b u e (nL b) fun z => ne (nI b z)
  have old : ∀ b u, H b = some u → G b = none → G' b = none := fun b u e g => by
    cases q : G' b with
    | none => rfl
    | some u' =>
      rcases S.fresh b u' q with z | z | z
      · rw [g] at z; cases z
      · rw [e] at z; cases z
      · exact absurd z (nL b)
  have apart : ∀ {j : Nat} {c : Cell} {b : Addr}, j ≠ i → ρ[j]? = some c → c.isOwn = true → σ[j]? = some (some (.ref b)) → b ≠ p := fun {j c b} ne e w a z => R.sep j i p ne ⟨by rw [a, z], c, e, w⟩ ⟨hσ, _, hi, hown⟩
  obtain ⟨v0, e0, p0, z0, g0, q0⟩ := R'.cell 0 _ rfl
  cases e0
  cases z0
  have cm : ∀ {v : Option V}, CellOk K G' H' v (.io o') → CellOk K G' H' v (mk o') := fun {v} q => by rcases hmk with rfl | rfl <;> exact q
  have same_len : (ρ.set i (mk o')).length = ρ.length := List.length_set ..
  refine ⟨⟨R'.gh, by rw [same_len]; exact R.len, fun j c e => ?_, fun j k b hjk a1 a2 => ?_⟩, ⟨S.same, fun b u e n1 n2 => ?_, S.keep, fun b u e => ?_, fun b => ?_, fun j u e => ?_, fun j u e => ?_, rfl⟩⟩
  · rcases getset e with ⟨rfl, rfl, _⟩ | ⟨ne, e⟩
    · exact ⟨_, hσ, cm ⟨p, rfl, g0, q0⟩⟩
    · obtain ⟨v, e1, q⟩ := R.cell j c e
      refine ⟨v, e1, ?_⟩
      cases c with
      | un => trivial
      | val d => obtain ⟨x, e2, q⟩ := q; exact ⟨x, e2, Rp.mono S.same q⟩
      | own u => obtain ⟨b, e2, g, q⟩ := q; obtain ⟨w, hw⟩ := q.ex; exact ⟨b, e2, old b w hw g, q.mono S.same fun u' z => fr b u' (apart ne e rfl (e2 ▸ e1)) z⟩
      | io u => obtain ⟨b, e2, g, q⟩ := q; obtain ⟨w, hw⟩ := q.ex; exact ⟨b, e2, old b w hw g, q.mono S.same fun u' z => fr b u' (apart ne e rfl (e2 ▸ e1)) z⟩
  · have down : ∀ {j : Nat}, At σ (ρ.set i (mk o')) j b → At σ ρ j b := fun {j} ⟨b1, c, b2, b3⟩ => by
      rcases getset b2 with ⟨rfl, rfl, _⟩ | ⟨ne, e⟩
      · exact ⟨b1, _, hi, hown⟩
      · exact ⟨b1, c, e, b3⟩
    exact R.sep j k b hjk (down a1) (down a2)
  · refine fr b u (fun z => ?_) e
    subst z
    rcases hmk with rfl | rfl
    · exact n2 ⟨i, o, hi, hσ⟩
    · exact n1 ⟨i, o, hi, hσ⟩
  · rcases S.fresh b u e with z | z | z
    · exact .inl z
    · exact .inr (.inl z)
    · exact absurd z (nL b)
  · rintro ⟨j, u, e, w⟩
    rcases getset e with ⟨rfl, z, _⟩ | ⟨ne, e⟩
    · rcases hmk with rfl | rfl
      · cases z
      · exact .inl ⟨j, o, hi, w⟩
    · exact .inl ⟨j, u, e, w⟩
  · refine ⟨rfl, ?_⟩
    by_cases hj : j = i
    · subst hj
      rw [hi] at e
      rcases hmk with rfl | rfl
      · exact ⟨o', setself hi⟩
      · cases e
    · rw [List.getElem?_set_ne (Ne.symm hj)]
      exact ⟨u, e⟩
  · rcases getset e with ⟨rfl, z, _⟩ | ⟨ne, e⟩
    · rcases hmk with rfl | rfl
      · exact ⟨o, hi⟩
      · cases z
    · exact ⟨u, e⟩
end
section
variable {X : Cx} {E : WX} {e : Expr} {es : List Expr} {fs : DEnv → Res (List PyData)} {den : DEnv → Res PyData} {pos p : Pos} {x : Str} {k : Nat} {ps : List Str}
theorem spD_vals {K : PySem.W.Frag} {mg : Str → Option Value} {σ : St} {G H : Hp} {ρ : DEnv} {vs : List V} {ds : List PyData} {Q : VK} (n : Nat) (R : Rel K G σ H ρ) (hv : RpAll K G vs ds) (hn : ds.length = n)
    (h : Post K mg E (Rp K) σ G H ρ Q (match den (ds.map .val) with
      | .ok d _ => .ok d ρ
      | _ => .bad)) : spD K mg n den (vs ++ []) H Q E0 := by
  rw [List.append_nil]
  refine ⟨G, ds.map .val, by rw [RpAll.len hv]; exact hn, vals_arg ds, vals_rel R.gh hv, ?_⟩
  cases r : den (ds.map .val) with
  | bad => rw [r] at h; exact h
  | err x c => rw [r] at h; exact h.elim
  | ok d cs =>
    rw [r] at h
    intro G' H' v R' S' q
    obtain ⟨R2, S2⟩ := call_step R hv R'.gh S'
    exact h G' H' v R2 S2 q
theorem e_call (F : Kept X.prog X.w X.K X.mg X.base CX0 k x ps den) (hn : es.length + 1 = ps.length) (hr : Room k X.A) (hg : Gl X x) (ha : AJ X E (e :: es) fs) (hdb : (x == ("__debug__" : Str)) = false := by decide)
    (he : starEach (e :: es) X.env = (false, eval e X.env) :: starEach es X.env := by rfl) (hpl : (backTo pos (starEach es X.env)).any (·.1) = false := by rfl) :
    EJ X E (.Call (.Name x p) (e :: es) [] pos) (dCallV den fs) := by
  obtain ⟨f, fd, gm, kp, bi, F⟩ := F
  obtain ⟨hl, t, q, p⟩ := ha
  refine ⟨_, pe_call F hr hg gm kp bi .nil pass0 q hdb he hpl, fun σ G H ρ Q R h => p σ G H ρ _ R ?_⟩
  unfold dCallV at h
  cases r : fs ρ with
  | bad => rw [r] at h; exact h
  | err x c => rw [r] at h; exact h
  | ok ds ρ1 =>
    rw [r] at h
    intro G1 H1 vs R1 S1 hv
    refine spD_vals (E := E) ps.length R1 hv ((hl ρ ds ρ1 r).trans hn) ?_
    exact Post.from S1 h
theorem e_call0 (F : Kept X.prog X.w X.K X.mg X.base CX0 k x [] den) (hr : Room k X.A) (hg : Gl X x) (hdb : (x == ("__debug__" : Str)) = false := by decide) : EJ X E (.Call (.Name x p) [] [] pos) (dCallV den dNil) := by
  obtain ⟨f, fd, gm, kp, bi, F⟩ := F
  exact ⟨_, pe_call0 F hr hg gm kp bi .nil pass0 hdb, fun σ G H ρ Q R h => spD_vals (E := E) 0 R .nil rfl h⟩
theorem lent_of {i n : Nat} {t : TA} {σ : St} {G H : Hp} {ρ : DEnv} {Q : VK} (hl : ∀ (ρ : DEnv) (ds : List PyData) (ρ' : DEnv), fs ρ = .ok ds ρ' → ds.length = es.length) (p : ∀ σ G H ρ Q, Rel X.K G σ H ρ → APost X E σ G H ρ Q (fs ρ) → t σ H Q) (hn : es.length + 1 = n) (R : Rel X.K G σ H ρ)
    (h : EPost X E σ G H ρ Q (dCallI den i fs ρ)) : ∃ v, σ[i]? = some (some v) ∧ t σ H (fun xs H2 => spD X.K X.mg n den ((v :: xs) ++ []) H2 Q E0) := by
  unfold dCallI at h
  by_cases hc : (ρ[i]?.getD .un).isOwn = true
  case neg => rw [if_neg hc] at h; exact h.elim
  rw [if_pos hc] at h
  have key : ∀ (v : V), σ[i]? = some (some v) → t σ H (fun xs H2 => spD X.K X.mg n den ((v :: xs) ++ []) H2 Q E0) := fun v hv => by
    refine p σ G H ρ _ R ?_
    cases r : fs ρ with
    | bad => rw [r] at h; exact h
    | err x c => rw [r] at h; exact h
    | ok ds ρ1 =>
      rw [r] at h
      intro G1 H1 vs R1 S1 hvs
      have h1 : EPost X E σ G1 H1 ρ1 Q (callIO den i ds ρ1) := Post.from S1 h
      rw [List.append_nil]
      have fin : ∀ (mk : OD → Cell) (o : OD), (mk = .io ∨ mk = .own) → ρ1[i]? = some (mk o) → (callIO den i ds ρ1 = match den (.io o :: ds.map .val) with
          | .ok d (.io o' :: _) => .ok d (ρ1.set i (mk o'))
          | _ => .bad) → spD X.K X.mg n den (v :: vs) H1 Q E0 := fun mk o hmk hi hc => by
        obtain ⟨v0, e0, q0⟩ := R1.cell i _ hi
        rw [hv] at e0
        cases e0
        have q0 : CellOk X.K G1 H1 (some v) (.io o) := by rcases hmk with rfl | rfl <;> exact q0
        obtain ⟨b, e1, g1, o1⟩ := q0
        cases e1
        have Rv := vals_rel R1.gh hvs
        refine ⟨G1, .io o :: ds.map .val, ?_, ?_, ⟨R1.gh, ?_, fun j c e => ?_, fun j k b2 hjk a1 a2 => ?_⟩, ?_⟩
        · rw [List.length_cons, RpAll.len hvs, hl ρ ds ρ1 r]; exact hn
        · rw [List.all_cons, vals_arg]; rfl
        · rw [List.map_cons, List.length_cons, List.length_cons, Rv.len]
        · cases j with
          | zero => cases e; exact ⟨_, rfl, b, rfl, g1, o1⟩
          | succ j => exact Rv.cell j c e
        · obtain ⟨x1, c1, y1, z1⟩ := a1
          obtain ⟨x2, c2, y2, z2⟩ := a2
          cases j with
          | zero =>
            cases k with
            | zero => exact hjk rfl
            | succ k =>
              rw [List.getElem?_cons_succ, List.getElem?_map] at y2
              cases q : ds[k]? with
              | none => rw [q] at y2; cases y2
              | some d => rw [q] at y2; cases y2; cases z2
          | succ j =>
            rw [List.getElem?_cons_succ, List.getElem?_map] at y1
            cases q : ds[j]? with
            | none => rw [q] at y1; cases y1
            | some d => rw [q] at y1; cases y1; cases z1
        · rw [hc] at h1
          cases r2 : den (.io o :: ds.map .val) with
          | bad => rw [r2] at h1; exact h1
          | err x c => rw [r2] at h1; exact h1.elim
          | ok d cs =>
            rw [r2] at h1
            cases cs with
            | nil => exact h1.elim
            | cons c0 cs =>
              cases c0 with
              | un => exact h1.elim
              | val _ => exact h1.elim
              | own _ => exact h1.elim
              | io o' =>
                intro G2 H2 u R2 S2 hu
                have hσ : σ[i]? = some (some (.ref b)) := hv
                obtain ⟨R3, S3⟩ := callIO_step hmk R1 hi hσ R2 S2
                exact h1 G2 H2 u R3 S3 hu
      cases q : ρ1[i]? with
      | none => unfold callIO at h1; rw [q] at h1; exact h1.elim
      | some cl =>
        cases cl with
        | un => unfold callIO at h1; rw [q] at h1; exact h1.elim
        | val _ => unfold callIO at h1; rw [q] at h1; exact h1.elim
        | io o => exact fin .io o (.inl rfl) q (by unfold callIO; rw [q])
        | own o => exact fin .own o (.inr rfl) q (by unfold callIO; rw [q])
  -- there is a value at the slot
  cases q : ρ[i]? with
  | none => rw [q] at hc; cases hc
  | some cl =>
    obtain ⟨v0, e0, q0⟩ := R.cell i cl q
    cases cl with
    | un => rw [q] at hc; cases hc
    | val _ => rw [q] at hc; cases hc
    | own o => obtain ⟨b, e1, _⟩ := q0; rw [e1] at e0; exact ⟨_, e0, key _ e0⟩
    | io o => obtain ⟨b, e1, _⟩ := q0; rw [e1] at e0; exact ⟨_, e0, key _ e0⟩
/-- a call that lends its first argument -/
theorem e_callI {y : Str} {py : Pos} (i : Nat) (F : Kept X.prog X.w X.K X.mg X.base CX0 k x ps den) (hn : es.length + 1 = ps.length) (hr : Room k X.A) (hg : Gl X x) (hy : PE X (.Name y py) (tVar i)) (ha : AJ X E es fs) (hdb : (x == ("__debug__" : Str)) = false := by decide)
    (he : starEach (.Name y py :: es) X.env = (false, eval (.Name y py) X.env) :: starEach es X.env := by rfl) (hpl : (backTo pos (starEach es X.env)).any (·.1) = false := by rfl) :
    EJ X E (.Call (.Name x p) (.Name y py :: es) [] pos) (dCallI den i fs) := by
  obtain ⟨f, fd, gm, kp, bi, F⟩ := F
  obtain ⟨hl, t, q, p⟩ := ha
  exact ⟨_, pe_call F hr hg gm kp bi .nil pass0 (pa_cons hy q he) hdb he hpl, fun σ G H ρ Q R h => lent_of hl p hn R h⟩
end
end DL

set_option Elab.async false
set_option linter.all false
set_option maxRecDepth 100000
set_option maxHeartbeats 4000000
/-! DL part 5: lists that are held, walks, comprehensions. -/
namespace DL
open PySem PySem.Spec PyProof.Rows L2

/-- a list or a tuple where it stands -/
inductive LK where | L | T
def SqK (K : PySem.W.Frag) (H : Hp) (p : Addr) (vs : List V) : LK → Prop
  | .L => SqL K H p vs
  | .T => SqT K H p vs
def SqX (K : PySem.W.Frag) (G H : Hp) (p : Addr) (vs : List V) : LK → Prop
  | .L => SqL K H p vs
  | .T => SqT K G p vs
/-- what is wanted behind an expression that is a list or tuple, read at once -/
def LPost (K : PySem.W.Frag) (mg : Str → Option Value) (E : WX) (σ : St) (G H : Hp) (ρ : DEnv) (Q : VK) : Res (LK × List PyData) → Prop
  | .ok kd ρ' => ∀ G' H' p vs, Rel K G' σ H' ρ' → Stp G H σ ρ G' H' σ ρ' → SqX K G' H' p vs kd.1 → RpAll K G' vs kd.2 → Q (.ref p) H'
  | .err x ρ' => ∀ G' H' c od, Rel K G' σ H' ρ' → Stp G H σ ρ G' H' σ ρ' → ErrAt K mg G' H' x c od → E c od σ H'
  | .bad => False
structure LJ (X : Cx) (E : WX) (e : Expr) (f : DEnv → Res (LK × List PyData)) : Prop where
  ex : ∃ t : TE, PE X e t ∧ ∀ σ G H ρ Q, Rel X.K G σ H ρ → LPost X.K X.mg E σ G H ρ Q (f ρ) → t σ H Q
def unScr : List (PyData × PyData) → Option (List PyData)
  | (.none, .none) :: r => some (r.map (·.1))
  | _ => none
theorem unScr_map : ∀ ns : List Int, (ns.map fun i => (PyData.int i, PyData.none)).map (·.1) = ns.map PyData.int
  | [] => rfl
  | i :: r => by rw [List.map_cons, List.map_cons, unScr_map r, List.map_cons]
def seqOf : PyData → Option (LK × List PyData)
  | .list ds => some (.L, ds)
  | .tuple ds => some (.T, ds)
  | .dict kvs => (unScr kvs).map fun ds => (.L, ds)
  | _ => none
def lOf (f : DEnv → Res PyData) : DEnv → Res (LK × List PyData) := fun ρ => (f ρ).bind fun d ρ1 => Res.of (seqOf d) ρ1
/-- a list that is held, in its slot -/
def heldL (i : Nat) (ρ : DEnv) : Option (List PyData) := match ρ[i]? with
  | some (.own (.lst ds)) => some ds
  | some (.io (.lst ds)) => some ds
  | _ => none
def lHeld (i : Nat) : DEnv → Res (LK × List PyData) := fun ρ => Res.of ((heldL i ρ).map fun ds => (.L, ds)) ρ
section
variable {X : Cx} {E : WX} {a b c e : Expr} {es : List Expr} {fa fb : DEnv → Res PyData} {fl : DEnv → Res (LK × List PyData)} {fs : DEnv → Res (List PyData)} {pos : Pos}
theorem rpInts {K : PySem.W.Frag} {G : Hp} : ∀ ns : List Int, RpAll K G (ns.map V.int) (ns.map PyData.int)
  | [] => .nil
  | i :: r => .cons (.int i) (rpInts r)
theorem Rp.seq {K : PySem.W.Frag} {G : Hp} {v : V} {d : PyData} {kd : LK × List PyData} (h : Rp K G v d) (e : seqOf d = some kd) : ∃ p vs, v = .ref p ∧ SqK K G p vs kd.1 ∧ RpAll K G vs kd.2 := by
  cases h with
  | lst h1 h2 => cases e; exact ⟨_, _, rfl, SqL.of h1, h2⟩
  | tup h1 h2 => cases e; exact ⟨_, _, rfl, h1, h2⟩
  | scr h1 =>
    rename_i a ns
    have e : (unScr ((PyData.none, PyData.none) :: ns.map fun i => (PyData.int i, PyData.none))).map (fun ds => (LK.L, ds)) = some kd := e
    have e : some (LK.L, (ns.map fun i => (PyData.int i, PyData.none)).map (·.1)) = some kd := e
    rw [unScr_map] at e
    cases e
    exact ⟨_, _, rfl, h1, rpInts ns⟩
  | _ => cases e
theorem SqK.mono {K : PySem.W.Frag} {G G' : Hp} {p : Addr} {vs : List V} {k : LK} (s : Same G G') (h : SqK K G p vs k) : SqK K G' p vs k := by
  cases k with
  | L => exact s.seq h
  | T => exact Same.seqT s h
theorem SqK.toX {K : PySem.W.Frag} {G H : Hp} {p : Addr} {vs : List V} {k : LK} (s : Same G H) (h : SqK K G p vs k) : SqX K G H p vs k := by
  cases k with
  | L => exact s.seq h
  | T => exact h
theorem SqX.or {K : PySem.W.Frag} {G H : Hp} {p : Addr} {vs : List V} {k : LK} (s : Same G H) (h : SqX K G H p vs k) : SqL K H p vs ∨ SqT K H p vs := by
  cases k with
  | L => exact .inl h
  | T => exact .inr (Same.seqT s h)
theorem l_of (ha : EJ X E a fa) : LJ X E a (lOf fa) := by
  obtain ⟨t, q, p⟩ := ha
  refine ⟨t, q, fun σ G H ρ Q R h => p σ G H ρ Q R ?_⟩
  unfold lOf at h
  cases r : fa ρ with
  | bad => rw [r] at h; exact h
  | err x c => rw [r] at h; exact h
  | ok d ρ1 =>
    rw [r] at h
    intro G1 H1 v R1 S1 hv
    have h : LPost X.K X.mg E σ G H ρ Q (Res.of (seqOf d) ρ1) := h
    cases s : seqOf d with
    | none => rw [s] at h; exact h.elim
    | some kd =>
      rw [s] at h
      obtain ⟨b, vs, rfl, h1, h2⟩ := Rp.seq hv s
      exact h G1 H1 b vs R1 S1 (h1.toX R1.gh) h2
theorem Rel.held {K : PySem.W.Frag} {G H : Hp} {σ : St} {ρ : DEnv} {i : Nat} {ds : List PyData} (R : Rel K G σ H ρ) (h : heldL i ρ = some ds) : ∃ p vs, σ[i]? = some (some (.ref p)) ∧ H p = some (.lst vs) ∧ RpAll K G vs ds := by
  unfold heldL at h
  cases q : ρ[i]? with
  | none => rw [q] at h; cases h
  | some cl =>
    rw [q] at h
    obtain ⟨v0, e0, q0⟩ := R.cell i cl q
    cases cl with
    | un => cases h
    | val _ => cases h
    | own o =>
      cases o with
      | dk _ => cases h
      | dt _ => cases h
      | ins _ _ => cases h
      | dn _ => cases h
      | ts _ _ _ => cases h
      | lst ds => cases h; obtain ⟨b, rfl, _, vs, h1, h2⟩ := q0; exact ⟨b, vs, e0, h1, h2⟩
    | io o =>
      cases o with
      | dk _ => cases h
      | dt _ => cases h
      | ins _ _ => cases h
      | dn _ => cases h
      | ts _ _ _ => cases h
      | lst ds => cases h; obtain ⟨b, rfl, _, vs, h1, h2⟩ := q0; exact ⟨b, vs, e0, h1, h2⟩
theorem l_held {x : Str} (i : Nat) (h : PE X (.Name x pos) (tVar i)) : LJ X E (.Name x pos) (lHeld i) := by
  refine ⟨_, h, fun σ G H ρ Q R h => ?_⟩
  unfold lHeld at h
  cases q : heldL i ρ with
  | none => rw [q] at h; exact h.elim
  | some ds =>
    rw [q] at h
    obtain ⟨b, vs, e0, h1, h2⟩ := R.held q
    exact ⟨.ref b, e0, h G H b vs R Stp.refl (SqL.of h1) h2⟩
theorem LPost.bind {α β : Type} {rep2 : Hp → β → α → Prop} {K : PySem.W.Frag} {mg : Str → Option Value} {σ : St} {G H : Hp} {ρ : DEnv} {Q : β → Hp → Prop} {Q1 : VK} {r : Res (LK × List PyData)} {k : LK × List PyData → DEnv → Res α}
    (h : Post K mg E rep2 σ G H ρ Q (r.bind k))
    (f : ∀ G1 H1 p vs kd ρ1, Rel K G1 σ H1 ρ1 → Stp G H σ ρ G1 H1 σ ρ1 → SqX K G1 H1 p vs kd.1 → RpAll K G1 vs kd.2 → Post K mg E rep2 σ G1 H1 ρ1 Q (k kd ρ1) → Q1 (.ref p) H1) : LPost K mg E σ G H ρ Q1 r := by
  cases r with
  | ok a ρ' => exact fun G' H' p vs R S q1 q2 => f G' H' p vs a ρ' R S q1 q2 (Post.from S h)
  | err x ρ' => exact h
  | bad => exact h
theorem LPost.bindF {K : PySem.W.Frag} {mg : Str → Option Value} {σ : St} {G H : Hp} {ρ : DEnv} {Q : VK} {Q1 : VK} {r : Res (LK × List PyData)} {k : LK × List PyData → DEnv → Res OD}
    (h : FPost K mg E σ G H ρ Q (r.bind k))
    (f : ∀ G1 H1 p vs kd ρ1, Rel K G1 σ H1 ρ1 → Stp G H σ ρ G1 H1 σ ρ1 → SqX K G1 H1 p vs kd.1 → RpAll K G1 vs kd.2 → FPost K mg E σ G1 H1 ρ1 Q (k kd ρ1) → Q1 (.ref p) H1) : LPost K mg E σ G H ρ Q1 r := by
  cases r with
  | ok a ρ' => exact fun G' H' p vs R S q1 q2 => f G' H' p vs a ρ' R S q1 q2 (FPost.from S h)
  | err x ρ' => exact h
  | bad => exact h
/-! ### len, tuple, list of what stands there -/
def dLen (f : DEnv → Res (LK × List PyData)) : DEnv → Res PyData := fun ρ => (f ρ).bind fun kd ρ1 => .ok (.int (kd.2.length : Nat)) ρ1
def dTupleOf (f : DEnv → Res (LK × List PyData)) : DEnv → Res PyData := fun ρ => (f ρ).bind fun kd ρ1 => .ok (.tuple kd.2) ρ1
def fListOf (f : DEnv → Res (LK × List PyData)) : DEnv → Res OD := fun ρ => (f ρ).bind fun kd ρ1 => .ok (.lst kd.2) ρ1
theorem e_len {p : Pos} (ha : LJ X E a fl) (hg : Gl X "len") (hm : X.mg "len" = none) (he : starEach [a] X.env = (false, eval a X.env) :: starEach [] X.env := by rfl) :
    EJ X E (.Call (.Name "len" p) [a] [] pos) (dLen fl) := by
  obtain ⟨t, q, p⟩ := ha
  refine ⟨_, pe_callB call_len_seq hg hm PySem.boot_len (pa_cons q pa_nil he) (he := he), fun σ G H ρ Q R h => p σ G H ρ _ R (LPost.bind h fun G1 H1 b vs kd ρ1 R1 S1 h1 h2 h3 => ?_)⟩
  have e := RpAll.len h2
  exact ⟨b, vs, rfl, h1.or R1.gh, Post.done R1 h3 (by rw [e]; exact .int _)⟩
theorem e_tupleOf {p : Pos} (ha : LJ X E a fl) (hg : Gl X "tuple") (hm : X.mg "tuple" = none) (he : starEach [a] X.env = (false, eval a X.env) :: starEach [] X.env := by rfl) :
    EJ X E (.Call (.Name "tuple" p) [a] [] pos) (dTupleOf fl) := by
  obtain ⟨t, q, p⟩ := ha
  refine ⟨_, pe_callTy call_tuple_of hg hm (by decide +kernel) (pa_cons q pa_nil he) (he := he), fun σ G H ρ Q R h => p σ G H ρ _ R (LPost.bind h fun G1 H1 b vs kd ρ1 R1 S1 h1 h2 h3 => ?_)⟩
  obtain ⟨k, ds⟩ := kd
  cases k with
  | L => exact ⟨b, vs, rfl, .inl ⟨h1, fun l hl => Post.new R1 h3 hl (.tup (SqT.of upd_same) (RpAll.mono (same_upd (R1.noneG hl)) h2))⟩⟩
  | T =>
    exact ⟨b, vs, rfl, .inr ⟨Same.seqT R1.gh h1, Post.done R1 h3 (.tup h1 h2)⟩⟩
theorem f_listOf {p : Pos} (ha : LJ X E a fl) (hg : Gl X "list") (hm : X.mg "list" = none) (he : starEach [a] X.env = (false, eval a X.env) :: starEach [] X.env := by rfl) :
    FJ X E (.Call (.Name "list" p) [a] [] pos) (fListOf fl) := by
  obtain ⟨t, q, p⟩ := ha
  refine ⟨_, pe_callTy call_list_of hg hm (by decide +kernel) (pa_cons q pa_nil he) (he := he), fun σ G H ρ Q R h => p σ G H ρ _ R (LPost.bindF h fun G1 H1 b vs kd ρ1 R1 S1 h1 h2 h3 => ?_)⟩
  exact ⟨b, vs, rfl, h1.or R1.gh, fun l hl => FPost.new R1 h3 hl ⟨vs, upd_same, h2⟩⟩
/-! ### an object that is held is changed -/
/-- the slot i's object becomes o' -/
def setHeld (i : Nat) (o' : OD) (ρ : DEnv) : DEnv := match ρ[i]? with
  | some (.own _) => ρ.set i (.own o')
  | some (.io _) => ρ.set i (.io o')
  | _ => ρ
theorem Rel.heldObj {K : PySem.W.Frag} {G H : Hp} {σ : St} {ρ : DEnv} {i : Nat} {p : Addr} {o o' : OD} {mk : OD → Cell} {u : HO} (hmk : mk = .io ∨ mk = .own) (R : Rel K G σ H ρ) (hi : ρ[i]? = some (mk o)) (hσ : σ[i]? = some (some (.ref p))) (hg : G p = none) (hp : ∃ w, H p = some w)
    (hn : OwnAt K G (upd H p u) p o') : Rel K G σ (upd H p u) (ρ.set i (mk o')) ∧ Stp G H σ ρ G (upd H p u) σ (ρ.set i (mk o')) := by
  have hown : (mk o).isOwn = true := by rcases hmk with rfl | rfl <;> rfl
  have apart : ∀ {j : Nat} {c : Cell} {b : Addr}, j ≠ i → ρ[j]? = some c → c.isOwn = true → σ[j]? = some (some (.ref b)) → b ≠ p := fun {j c b} ne e w a z => R.sep j i p ne ⟨by rw [a, z], c, e, w⟩ ⟨hσ, _, hi, hown⟩
  have cm : ∀ {v : Option V}, CellOk K G (upd H p u) v (.io o') → CellOk K G (upd H p u) v (mk o') := fun {v} q => by rcases hmk with rfl | rfl <;> exact q
  refine ⟨⟨fun b w e => ?_, by rw [List.length_set]; exact R.len, fun j c e => ?_, fun j k b hjk a1 a2 => ?_⟩, ⟨Same.refl _, fun b w e n1 n2 => ?_, fun b e => ?_, fun b w e => .inl e, fun b => ?_, fun j w e => ?_, fun j w e => ?_, rfl⟩⟩
  · rw [upd_ne (ne_of_none e hg)]
    exact R.gh b w e
  · rcases getset e with ⟨rfl, rfl, _⟩ | ⟨ne, e⟩
    · exact ⟨_, hσ, cm ⟨p, rfl, hg, hn⟩⟩
    · obtain ⟨v, e1, q⟩ := R.cell j c e
      refine ⟨v, e1, ?_⟩
      cases c with
      | un => trivial
      | val d => exact q
      | own w => obtain ⟨b, e2, g, q⟩ := q; exact ⟨b, e2, g, q.mono (Same.refl _) fun u' z => by rw [upd_ne (apart ne e rfl (e2 ▸ e1))]; exact z⟩
      | io w => obtain ⟨b, e2, g, q⟩ := q; exact ⟨b, e2, g, q.mono (Same.refl _) fun u' z => by rw [upd_ne (apart ne e rfl (e2 ▸ e1))]; exact z⟩
  · have down : ∀ {j : Nat}, At σ (ρ.set i (mk o')) j b → At σ ρ j b := fun {j} ⟨b1, c, b2, b3⟩ => by
      rcases getset b2 with ⟨rfl, rfl, _⟩ | ⟨ne, e⟩
      · exact ⟨b1, _, hi, hown⟩
      · exact ⟨b1, c, e, b3⟩
    exact R.sep j k b hjk (down a1) (down a2)
  · rw [upd_ne fun z => ?_]
    · exact e
    · subst z
      rcases hmk with rfl | rfl
      · exact n2 ⟨i, o, hi, hσ⟩
      · exact n1 ⟨i, o, hi, hσ⟩
  · by_cases hb : b = p
    · subst hb; rw [upd_same] at e; cases e
    · rw [upd_ne hb] at e; exact e
  · rintro ⟨j, w, e, a⟩
    rcases getset e with ⟨rfl, z, _⟩ | ⟨ne, e⟩
    · rcases hmk with rfl | rfl
      · cases z
      · exact .inl ⟨j, o, hi, a⟩
    · exact .inl ⟨j, w, e, a⟩
  · refine ⟨rfl, ?_⟩
    by_cases hj : j = i
    · subst hj
      rw [hi] at e
      rcases hmk with rfl | rfl
      · exact ⟨o', setself hi⟩
      · cases e
    · rw [List.getElem?_set_ne (Ne.symm hj)]
      exact ⟨w, e⟩
  · rcases getset e with ⟨rfl, z, _⟩ | ⟨ne, e⟩
    · rcases hmk with rfl | rfl
      · exact ⟨o, hi⟩
      · cases z
    · exact ⟨w, e⟩
/-- what is known of a held object, and what a change of it leaves -/
theorem Rel.heldAny {K : PySem.W.Frag} {G H : Hp} {σ : St} {ρ : DEnv} {i : Nat} {ds : List PyData} (R : Rel K G σ H ρ) (h : heldL i ρ = some ds) : ∃ p vs, σ[i]? = some (some (.ref p)) ∧ H p = some (.lst vs) ∧ RpAll K G vs ds ∧
    ∀ (o' : OD) (u : HO), OwnAt K G (upd H p u) p o' → Rel K G σ (upd H p u) (setHeld i o' ρ) ∧ Stp G H σ ρ G (upd H p u) σ (setHeld i o' ρ) := by
  unfold heldL at h
  cases q : ρ[i]? with
  | none => rw [q] at h; cases h
  | some cl =>
    rw [q] at h
    obtain ⟨v0, e0, q0⟩ := R.cell i cl q
    cases cl with
    | un => cases h
    | val _ => cases h
    | own o =>
      cases o with
      | dk _ => cases h
      | dt _ => cases h
      | ins _ _ => cases h
      | dn _ => cases h
      | ts _ _ _ => cases h
      | lst ds => cases h; obtain ⟨b, rfl, g, vs, h1, h2⟩ := q0; exact ⟨b, vs, e0, h1, h2, fun o' u hn => by unfold setHeld; rw [q]; exact R.heldObj (mk := .own) (.inr rfl) q e0 g ⟨_, h1⟩ hn⟩
    | io o =>
      cases o with
      | dk _ => cases h
      | dt _ => cases h
      | ins _ _ => cases h
      | dn _ => cases h
      | ts _ _ _ => cases h
      | lst ds => cases h; obtain ⟨b, rfl, g, vs, h1, h2⟩ := q0; exact ⟨b, vs, e0, h1, h2, fun o' u hn => by unfold setHeld; rw [q]; exact R.heldObj (mk := .io) (.inl rfl) q e0 g ⟨_, h1⟩ hn⟩
/-- the name of a held list has a value, whatever is done meanwhile -/
theorem Rel.heldV {K : PySem.W.Frag} {G H : Hp} {σ : St} {ρ : DEnv} {i : Nat} (R : Rel K G σ H ρ) (h : (ρ[i]?.getD .un).isOwn = true) : ∃ p, σ[i]? = some (some (.ref p)) := by
  cases q : ρ[i]? with
  | none => rw [q] at h; cases h
  | some cl =>
    rw [q] at h
    obtain ⟨v0, e0, q0⟩ := R.cell i cl q
    cases cl with
    | un => cases h
    | val _ => cases h
    | own o => obtain ⟨b, rfl, _⟩ := q0; exact ⟨b, e0⟩
    | io o => obtain ⟨b, rfl, _⟩ := q0; exact ⟨b, e0⟩
def isHeld (i : Nat) (ρ : DEnv) : Bool := match heldL i ρ with
  | some _ => true
  | none => false
theorem isHeld_some {i : Nat} {ρ : DEnv} (h : isHeld i ρ = true) : ∃ ds, heldL i ρ = some ds := by
  unfold isHeld at h
  cases q : heldL i ρ with
  | none => rw [q] at h; cases h
  | some ds => exact ⟨ds, rfl⟩
/-- x.append(e) -/
def sApp (i : Nat) (f : DEnv → Res PyData) : DEnv → Res Out := fun ρ => if isHeld i ρ = true then (f ρ).bind fun d ρ1 => match heldL i ρ1 with
  | some ds => if ds.length < sizeLine then .ok .nx (setHeld i (.lst (ds ++ [d])) ρ1) else .bad
  | none => .bad else .bad
theorem s_app {x : Str} {px ap : Pos} {pos' : Pos} (i : Nat) (hx : PE X (.Name x px) (tVar i)) (ha : EJ X E a fa)
    (hp : ∀ to t, PE X (.Name x px) to → PA X [a] t → PS X (.Expr (.Call (.Attribute (.Name x px) "append" ap) [a] [] pos) pos') (tDrop (tBM X.K "list" rAppend to t)))
    (hs : starEach [a] X.env = (false, eval a X.env) :: starEach [] X.env := by rfl) : SJ X E (.Expr (.Call (.Attribute (.Name x px) "append" ap) [a] [] pos) pos') (sApp i fa) := by
  obtain ⟨t, q, p⟩ := ha
  refine ⟨_, hp _ _ hx (pa_cons q pa_nil hs), fun σ G H ρ D R h => ?_⟩
  unfold sApp at h
  by_cases hc : isHeld i ρ = true
  case neg => rw [if_neg hc] at h; exact h.elim
  rw [if_pos hc] at h
  obtain ⟨ds0, hh⟩ := isHeld_some hc
  obtain ⟨b, vs, e0, e1, e2⟩ := R.held hh
  refine ⟨.ref b, e0, .inl ⟨rfl, vs, SqL.of e1⟩, p σ G H ρ _ R (SPost.bind h fun G1 H1 y d ρ1 R1 S1 hy h1 => ?_)⟩
  cases q1 : heldL i ρ1 with
  | none => rw [q1] at h1; exact h1.elim
  | some ds =>
    rw [q1] at h1
    obtain ⟨b1, vs1, f0, f1, f2, f3⟩ := R1.heldAny q1
    rw [e0] at f0
    cases f0
    have hl := RpAll.len f2
    have h1 : SPost X.K X.mg E D σ G1 H1 ρ1 (if ds.length < sizeLine then .ok .nx (setHeld i (.lst (ds ++ [d])) ρ1) else .bad) := h1
    by_cases hz : ds.length < sizeLine
    · rw [if_pos hz] at h1
      obtain ⟨R2, S2⟩ := f3 (.lst (ds ++ [d])) (.lst (vs1 ++ [y])) ⟨_, upd_same, RpAll.app f2 (.cons hy .nil)⟩
      exact ⟨b, vs1, y, rfl, rfl, f1, by omega, h1 _ _ _ R2 S2⟩
    · rw [if_neg hz] at h1
      exact h1.elim
/-- x[e] of a held list -/
def dIxH (i : Nat) (f : DEnv → Res PyData) : DEnv → Res PyData := fun ρ => if isHeld i ρ = true then (f ρ).bind fun k ρ1 => match heldL i ρ1, k with
  | some ds, .int k => Res.of (atI ds k) ρ1
  | _, _ => .bad else .bad
theorem at_rp {K : PySem.W.Frag} {G : Hp} {vs : List V} {ds : List PyData} {k : Int} {d : PyData} (h : RpAll K G vs ds) (e : atI ds k = some d) : ∃ v, atI vs k = some v ∧ Rp K G v d := by
  unfold atI at e ⊢
  rw [RpAll.len h]
  cases q : ixN ds.length k with
  | none => rw [q] at e; cases e
  | some j =>
    rw [q] at e
    exact RpAll.get h e
theorem e_ixH {x : Str} {px : Pos} (i : Nat) (hx : PE X (.Name x px) (tVar i)) (ha : EJ X E a fa) (hs : PlainIx a) : EJ X E (.Subscript (.Name x px) a pos) (dIxH i fa) := by
  obtain ⟨t, q, p⟩ := ha
  refine ⟨_, pe_ix ix_list hx q hs, fun σ G H ρ Q R h => ?_⟩
  unfold dIxH at h
  by_cases hc : isHeld i ρ = true
  case neg => rw [if_neg hc] at h; exact h.elim
  rw [if_pos hc] at h
  obtain ⟨ds0, hh⟩ := isHeld_some hc
  obtain ⟨b, vs, e0, e1, e2⟩ := R.held hh
  refine ⟨.ref b, e0, p σ G H ρ _ R (Post.bind h fun G1 H1 y d ρ1 R1 S1 hy h1 => ?_)⟩
  cases q1 : heldL i ρ1 with
  | none => rw [q1] at h1; exact h1.elim
  | some ds =>
    rw [q1] at h1
    obtain ⟨b1, vs1, f0, f1, f2⟩ := R1.held q1
    rw [e0] at f0
    cases f0
    cases hy with
    | int k =>
      have h1 : EPost X E σ G1 H1 ρ1 Q (Res.of (atI ds k) ρ1) := h1
      cases q2 : atI ds k with
      | none => rw [q2] at h1; exact h1.elim
      | some d =>
        rw [q2] at h1
        obtain ⟨v, g1, g2⟩ := at_rp f2 q2
        exact ⟨b, vs1, k, v, rfl, rfl, SqL.of f1, g1, Post.done R1 h1 g2⟩
    | _ => exact h1.elim
/-- x.pop(e) -/
def dPopAt (i : Nat) (f : DEnv → Res PyData) : DEnv → Res PyData := fun ρ => if isHeld i ρ = true then (f ρ).bind fun k ρ1 => match heldL i ρ1, k with
  | some ds, .int k => match ixN ds.length k with
    | some j => match ds[j]? with
      | some d => if ds.length ≤ sizeLine then .ok d (setHeld i (.lst (ds.eraseIdx j)) ρ1) else .bad
      | none => .bad
    | none => .bad
  | _, _ => .bad else .bad
theorem e_popAt {x : Str} {px ap : Pos} (i : Nat) (hx : PE X (.Name x px) (tVar i)) (ha : EJ X E a fa)
    (hp : ∀ to t, PE X (.Name x px) to → PA X [a] t → PE X (.Call (.Attribute (.Name x px) "pop" ap) [a] [] pos) (tBM X.K "list" rPopAt to t))
    (hs : starEach [a] X.env = (false, eval a X.env) :: starEach [] X.env := by rfl) : EJ X E (.Call (.Attribute (.Name x px) "pop" ap) [a] [] pos) (dPopAt i fa) := by
  obtain ⟨t, q, p⟩ := ha
  refine ⟨_, hp _ _ hx (pa_cons q pa_nil hs), fun σ G H ρ Q R h => ?_⟩
  unfold dPopAt at h
  by_cases hc : isHeld i ρ = true
  case neg => rw [if_neg hc] at h; exact h.elim
  rw [if_pos hc] at h
  obtain ⟨ds0, hh⟩ := isHeld_some hc
  obtain ⟨b, vs, e0, e1, e2⟩ := R.held hh
  refine ⟨.ref b, e0, .inl ⟨rfl, vs, SqL.of e1⟩, p σ G H ρ _ R (Post.bind h fun G1 H1 y d ρ1 R1 S1 hy h1 => ?_)⟩
  cases q1 : heldL i ρ1 with
  | none => rw [q1] at h1; exact h1.elim
  | some ds =>
    rw [q1] at h1
    obtain ⟨b1, vs1, f0, f1, f2, f3⟩ := R1.heldAny q1
    rw [e0] at f0
    cases f0
    have hl := RpAll.len f2
    cases hy with
    | int k =>
      cases q2 : ixN ds.length k with
      | none => simp only [q2] at h1; exact h1.elim
      | some j =>
        cases q3 : ds[j]? with
        | none => simp only [q2, q3] at h1; exact h1.elim
        | some d =>
          simp only [q2, q3] at h1
          obtain ⟨v, g1, g2⟩ := RpAll.get f2 q3
          obtain ⟨s1, s2, s3, s4⟩ := ixN_seq q2
          obtain ⟨R2, S2⟩ := f3 (.lst (ds.eraseIdx j)) (.lst (vs1.eraseIdx j)) ⟨_, upd_same, RpAll.erase j f2⟩
          by_cases hz : ds.length ≤ sizeLine
          case neg => rw [if_neg hz] at h1; exact h1.elim
          rw [if_pos hz] at h1
          have big : (ds.length : Int) ≤ 2 ^ 63 - 1 := by unfold sizeLine at hz; omega
          exact ⟨b, vs1, k, j, v, rfl, rfl, f1, by omega, by omega, by rw [hl]; exact s1, g1, h1 _ _ v R2 S2 g2⟩
    | _ => exact h1.elim
/-- x[e1] = e2 -/
def sSetH (i : Nat) (f g : DEnv → Res PyData) : DEnv → Res Out := fun ρ => (f ρ).bind fun d ρ1 => if isHeld i ρ1 = true then (g ρ1).bind fun k ρ2 => match heldL i ρ2, k with
  | some ds, .int k => match ixN ds.length k with
    | some j => .ok .nx (setHeld i (.lst (ds.set j d)) ρ2)
    | none => .bad
  | _, _ => .bad else .bad
theorem s_setH {x : Str} {px sp : Pos} (i : Nat) (hx : PE X (.Name x px) (tVar i)) (ha : EJ X E a fa) (hb : EJ X E b fb)
    (hp : ∀ te to ti, PE X a te → PE X (.Name x px) to → PE X b ti → PS X (.Assign [.Subscript (.Name x px) b sp] a pos) (tAsg te (gSub to ti rSetL))) : SJ X E (.Assign [.Subscript (.Name x px) b sp] a pos) (sSetH i fa fb) := by
  obtain ⟨t, q, p⟩ := ha
  obtain ⟨tb, qb, pb⟩ := hb
  refine ⟨_, hp _ _ _ q hx qb, fun σ G H ρ D R h => p σ G H ρ _ R (SPost.bind h fun G1 H1 y d ρ1 R1 S1 hy h1 => ?_)⟩
  by_cases hc : isHeld i ρ1 = true
  case neg => rw [if_neg hc] at h1; exact h1.elim
  rw [if_pos hc] at h1
  obtain ⟨ds0, hh⟩ := isHeld_some hc
  obtain ⟨b, vs, e0, e1, e2⟩ := R1.held hh
  refine ⟨.ref b, e0, pb σ G1 H1 ρ1 _ R1 (SPost.bind h1 fun G2 H2 z k ρ2 R2 S2 hz h2 => ?_)⟩
  cases q1 : heldL i ρ2 with
  | none => rw [q1] at h2; exact h2.elim
  | some ds =>
    rw [q1] at h2
    obtain ⟨b1, vs1, f0, f1, f2, f3⟩ := R2.heldAny q1
    rw [e0] at f0
    cases f0
    have hl := RpAll.len f2
    cases hz with
    | int k =>
      cases q2 : ixN ds.length k with
      | none => simp only [q2] at h2; exact h2.elim
      | some j =>
        simp only [q2] at h2
        obtain ⟨R3, S3⟩ := f3 (.lst (ds.set j d)) (.lst (vs1.set j y)) ⟨_, upd_same, RpAll.set (Rp.mono S2.same hy) j f2⟩
        exact ⟨b, vs1, k, j, rfl, rfl, f1, by rw [hl]; exact q2, h2 _ _ _ R3 S3⟩
    | _ => exact h2.elim
end
end DL

set_option Elab.async false
set_option linter.all false
set_option maxRecDepth 100000
set_option maxHeartbeats 4000000
/-! DL part 6: walks, comprehensions. -/
namespace DL
open PySem PySem.Spec PyProof.Rows L2

def iSeq (f : DEnv → Res PyData) : DEnv → Res (List PyData) := fun ρ => (f ρ).bind fun d ρ1 => Res.of ((seqOf d).map (·.2)) ρ1
/-- the ints from lo on, n of them -/
def intsD (lo : Int) (n : Nat) : List PyData := (List.range n).map fun i => PyData.int (lo + (i : Nat))
def inR (i : Int) : Prop := -(2 ^ 62) ≤ i ∧ i < 2 ^ 62
instance (i : Int) : Decidable (inR i) := inferInstanceAs (Decidable (_ ∧ _))
def rng1 : List PyData → Option (List PyData)
  | [.int j] => if inR j then some (intsD 0 j.toNat) else none
  | _ => none
def rng2 : List PyData → Option (List PyData)
  | [.int i, .int j] => if inR i ∧ inR j then some (intsD i (j - i).toNat) else none
  | _ => none
def iRng (op : List PyData → Option (List PyData)) (f : DEnv → Res (List PyData)) : DEnv → Res (List PyData) := fun ρ => (f ρ).bind fun ds ρ1 => Res.of (op ds) ρ1
def numbered : Nat → List PyData → List PyData
  | _, [] => []
  | n, d :: r => .tuple [.int (n : Nat), d] :: numbered (n + 1) r
theorem numbered_get : ∀ (n i : Nat) (ds : List PyData) (d : PyData), (numbered n ds)[i]? = some d → ∃ x, ds[i]? = some x ∧ d = .tuple [.int ((n + i : Nat) : Nat), x]
  | n, i, [], d, h => by simp [numbered] at h
  | n, 0, x :: r, d, h => by simp [numbered] at h; exact ⟨x, rfl, h.symm⟩
  | n, i + 1, x :: r, d, h => by
    obtain ⟨y, h1, h2⟩ := numbered_get (n + 1) i r d (by simpa [numbered] using h)
    exact ⟨y, by simpa using h1, by rw [h2, show n + 1 + i = n + (i + 1) by omega]⟩
theorem numbered_len : ∀ (n : Nat) (ds : List PyData), (numbered n ds).length = ds.length
  | _, [] => rfl
  | n, d :: r => congrArg (· + 1) (numbered_len (n + 1) r)
def enumOf : PyData → Option (List PyData)
  | .list ds => some (numbered 0 ds)
  | _ => none
def iEnumD (f : DEnv → Res (List PyData)) : DEnv → Res (List PyData) := fun ρ => (f ρ).bind fun ds ρ1 => match ds with
  | [d] => Res.of (enumOf d) ρ1
  | _ => .bad
def paired : List PyData → List PyData → List PyData
  | x :: xs, y :: ys => .tuple [x, y] :: paired xs ys
  | _, _ => []
theorem paired_get : ∀ (i : Nat) (xs ys : List PyData) (d : PyData), (paired xs ys)[i]? = some d → ∃ x y, xs[i]? = some x ∧ ys[i]? = some y ∧ d = .tuple [x, y]
  | i, [], ys, d, h => by simp [paired] at h
  | i, x :: xs, [], d, h => by simp [paired] at h
  | 0, x :: xs, y :: ys, d, h => by simp [paired] at h; exact ⟨x, y, rfl, rfl, h.symm⟩
  | i + 1, x :: xs, y :: ys, d, h => by
    obtain ⟨a, b, h1, h2, h3⟩ := paired_get i xs ys d (by simpa [paired] using h)
    exact ⟨a, b, by simpa using h1, by simpa using h2, h3⟩
theorem paired_len : ∀ (xs ys : List PyData), (paired xs ys).length = min xs.length ys.length
  | [], ys => by simp [paired]
  | x :: xs, [] => by simp [paired]
  | x :: xs, y :: ys => by simp only [paired, List.length_cons, paired_len xs ys]; omega
def zipOf : PyData → PyData → Option (List PyData)
  | .list xs, .list ys => some (paired xs ys)
  | .tuple xs, .tuple ys => some (paired xs ys)
  | _, _ => none
def iZipD (f : DEnv → Res (List PyData)) : DEnv → Res (List PyData) := fun ρ => (f ρ).bind fun ds ρ1 => match ds with
  | [d, e] => Res.of (zipOf d e) ρ1
  | _ => .bad
section
variable {X : Cx} {E : WX} {a b c e tg : Expr} {es : List Expr} {fa fb : DEnv → Res PyData} {fl : DEnv → Res (LK × List PyData)} {fs fi : DEnv → Res (List PyData)} {pos : Pos}
theorem IPost.bind {K : PySem.W.Frag} {mg : Str → Option Value} {α γ : Type} {rep1 : Hp → γ → α → Prop} {σ : St} {G H : Hp} {ρ : DEnv} {Q : It → Hp → Prop} {Q1 : γ → Hp → Prop} {r : Res α} {k : α → DEnv → Res (List PyData)}
    (h : IPost K mg E σ G H ρ Q (r.bind k))
    (f : ∀ G1 H1 x a ρ1, Rel K G1 σ H1 ρ1 → Stp G H σ ρ G1 H1 σ ρ1 → rep1 G1 x a → IPost K mg E σ G1 H1 ρ1 Q (k a ρ1) → Q1 x H1) : Post K mg E rep1 σ G H ρ Q1 r := by
  cases r with
  | ok a ρ' =>
    intro G1 H1 v R S q
    refine f G1 H1 v a ρ' R S q ?_
    have h : IPost K mg E σ G H ρ Q (k a ρ') := h
    cases z : k a ρ' with
    | ok ds ρ2 => rw [z] at h; exact fun G' H' J R' S' q' => h G' H' J R' (S.trans S') q'
    | err x ρ2 => rw [z] at h; exact fun G' H' c od R' S' q' => h G' H' c od R' (S.trans S') q'
    | bad => rw [z] at h; exact h
  | err x ρ' => exact h
  | bad => exact h
theorem IPost.done {K : PySem.W.Frag} {mg : Str → Option Value} {σ : St} {G H : Hp} {ρ : DEnv} {Q : It → Hp → Prop} {ds : List PyData} {J : It} (R : Rel K G σ H ρ) (h : IPost K mg E σ G H ρ Q (.ok ds ρ)) (q : Walks K J G ds) : Q J H := h G H J R Stp.refl q
theorem walks_L {K : PySem.W.Frag} {G : Hp} {p : Addr} {vs : List V} {ds : List PyData} (h1 : SqL K G p vs) (h2 : RpAll K G vs ds) (inj : ∀ (H1 : Hp) (xs : List V), SqL K H1 p vs → SqL K H1 p xs → xs = vs) : True := trivial
def iAny (K : PySem.W.Frag) (tl : TE) : TI := fun σ H R => tl σ H fun x H1 => ∃ a, x = .ref a ∧ ((∃ xs, SqL K H1 a xs ∧ R (Itl K a) H1) ∨ (∃ xs, SqT K H1 a xs ∧ R (Itt K a) H1))
theorem pi_any {l : Expr} {tl : TE} (hl : PE X l tl) : PI X tg l (iAny X.K tl) := by
  refine ⟨fun pins s σ H R I h => ?_⟩
  refine thn (hl.run pins s σ H _ I h) fun v s1 ⟨x, H1, I1, r1, q1⟩ => ?_
  obtain ⟨a, e, q1⟩ := q1
  subst e
  cases r1
  rcases q1 with ⟨xs, hq, q⟩ | ⟨xs, hq, q⟩
  · obtain ⟨its, rv, p, hz⟩ := I1.list hq
    refine wpAny_pyIter_list p.isList ?_
    refine ⟨s1.heap.objs.size, [s1.heap.objs.size], _, _, H1, rfl, I1.kept (t' := s1.toks) fun b o e => Heap.get?_push_of_some _ e, turn_list a _, ⟨_, Heap.get?_push_size _ rfl, rfl, rfl⟩, fun b hb => ?_, q⟩
    have e : b = s1.heap.objs.size := by simpa using hb
    subst e
    exact I1.fpOk (Nat.le_refl _) (I1.hok.fresh (Nat.le_refl _))
  · obtain ⟨its, rv, p, hz⟩ := I1.tuple hq
    refine wpAny_pyIter_tuple (show s1.heap.IsTuple a its.toArray from p) ?_
    refine ⟨s1.heap.objs.size, [s1.heap.objs.size], _, _, H1, rfl, I1.kept (t' := s1.toks) fun b o e => Heap.get?_push_of_some _ e, turn_tuple a _, ⟨_, Heap.get?_push_size _ rfl, rfl, rfl⟩, fun b hb => ?_, q⟩
    have e : b = s1.heap.objs.size := by simpa using hb
    subst e
    exact I1.fpOk (Nat.le_refl _) (I1.hok.fresh (Nat.le_refl _))
theorem walks_Itl {K : PySem.W.Frag} {G : Hp} {p : Addr} {vs : List V} {ds : List PyData} (h1 : SqL K G p vs) (h2 : RpAll K G vs ds) : Walks K (Itl K p) G ds := fun i G1 H1 s1 s2 => by
  have hq : SqL K H1 p vs := s2.seq (s1.seq h1)
  refine ⟨fun d hd => ?_, fun hle => ⟨vs, hq, by rw [RpAll.len h2]; exact hle⟩⟩
  obtain ⟨v, g1, g2⟩ := RpAll.get h2 hd
  refine ⟨⟨vs, v, hq, g1⟩, fun x H2 ⟨e, hx⟩ => ?_⟩
  subst e
  have := hx vs hq
  rw [g1] at this
  cases this
  exact ⟨G1, Grow.refl, Rp.mono s1 g2⟩
theorem walks_Itt {K : PySem.W.Frag} {G : Hp} {p : Addr} {vs : List V} {ds : List PyData} (h1 : SqT K G p vs) (h2 : RpAll K G vs ds) : Walks K (Itt K p) G ds := fun i G1 H1 s1 s2 => by
  have hq : SqT K H1 p vs := Same.seqT s2 (Same.seqT s1 h1)
  refine ⟨fun d hd => ?_, fun hle => ⟨vs, hq, by rw [RpAll.len h2]; exact hle⟩⟩
  obtain ⟨v, g1, g2⟩ := RpAll.get h2 hd
  refine ⟨⟨vs, v, hq, g1⟩, fun x H2 ⟨e, hx⟩ => ?_⟩
  subst e
  have := hx vs hq
  rw [g1] at this
  cases this
  exact ⟨G1, Grow.refl, Rp.mono s1 g2⟩
theorem i_seq (ha : EJ X E a fa) : IJ X E tg a (iSeq fa) := by
  obtain ⟨t, q, p⟩ := ha
  refine ⟨_, pi_any q, fun σ G H ρ Q R h => p σ G H ρ _ R (IPost.bind h fun G1 H1 x d ρ1 R1 S1 hx h1 => ?_)⟩
  cases s : seqOf d with
  | none => rw [s] at h1; exact h1.elim
  | some kd =>
    rw [s] at h1
    obtain ⟨b, vs, rfl, g1, g2⟩ := Rp.seq hx s
    obtain ⟨k, ds⟩ := kd
    cases k with
    | L => exact ⟨b, rfl, .inl ⟨vs, R1.gh.seq g1, IPost.done R1 h1 (walks_Itl g1 g2)⟩⟩
    | T => exact ⟨b, rfl, .inr ⟨vs, Same.seqT R1.gh g1, IPost.done R1 h1 (walks_Itt g1 g2)⟩⟩
theorem ints_get {lo : Int} {n i : Nat} {d : PyData} (h : (intsD lo n)[i]? = some d) : i < n ∧ d = .int (lo + (i : Nat)) := by
  unfold intsD at h
  rw [List.getElem?_map] at h
  by_cases hi : i < n
  · rw [List.getElem?_range hi] at h
    exact ⟨hi, (Option.some.inj h).symm⟩
  · rw [List.getElem?_eq_none (by simpa using hi)] at h
    cases h
theorem ints_len (lo : Int) (n : Nat) : (intsD lo n).length = n := by simp [intsD]
theorem walks_rng {K : PySem.W.Frag} {G : Hp} (lo : Int) (n : Nat) : Walks K (Itr lo n) G (intsD lo n) := fun i G1 H1 _ _ => by
  refine ⟨fun d hd => ?_, fun hle => by rw [ints_len] at hle; exact hle⟩
  obtain ⟨hi, rfl⟩ := ints_get hd
  exact ⟨hi, fun x H2 ⟨e1, e2⟩ => by subst e1 e2; exact ⟨G1, Grow.refl, .int _⟩⟩
theorem i_rng1 {p : Pos} (hg : Gl X "range") (hm : X.mg "range" = none) (ha : AJ X E [a] fs) (hs : starEach [a] X.env = [(false, eval a X.env)] := by rfl) : IJ X E tg (.Call (.Name "range" p) [a] [] pos) (iRng rng1 fs) := by
  obtain ⟨_, t, q, p⟩ := ha
  refine ⟨_, pi_range1 hg hm q hs, fun σ G H ρ Q R h => p σ G H ρ _ R (IPost.bind h fun G1 H1 xs ds ρ1 R1 S1 hx h1 => ?_)⟩
  unfold rng1 at h1
  cases hx with
  | nil => exact h1.elim
  | cons q1 q2 =>
    cases q2 with
    | cons _ _ => cases q1 <;> exact h1.elim
    | nil =>
      cases q1 with
      | int j =>
        simp only at h1
        by_cases hj : inR j
        · rw [if_pos hj] at h1
          exact ⟨j, rfl, hj.1, hj.2, IPost.done R1 h1 (walks_rng 0 j.toNat)⟩
        · rw [if_neg hj] at h1
          exact h1.elim
      | _ => exact h1.elim
theorem i_rng2 {p : Pos} (hg : Gl X "range") (hm : X.mg "range" = none) (ha : AJ X E [a, b] fs) (hs : starEach [a, b] X.env = [(false, eval a X.env), (false, eval b X.env)] := by rfl) (hs2 : starEach [b] X.env = [(false, eval b X.env)] := by rfl) :
    IJ X E tg (.Call (.Name "range" p) [a, b] [] pos) (iRng rng2 fs) := by
  obtain ⟨_, t, q, p⟩ := ha
  refine ⟨_, pi_range2 hg hm q hs hs2, fun σ G H ρ Q R h => p σ G H ρ _ R (IPost.bind h fun G1 H1 xs ds ρ1 R1 S1 hx h1 => ?_)⟩
  cases z : rng2 ds with
  | none => rw [z] at h1; exact h1.elim
  | some l =>
    rw [z] at h1
    unfold rng2 at z
    split at z
    · rename_i i j
      split at z
      · rename_i hij
        cases z
        cases hx with
        | cons q1 q2 =>
          cases q1
          cases q2 with
          | cons q3 q4 =>
            cases q3
            cases q4
            exact ⟨i, j, rfl, ⟨hij.1.1, hij.1.2, hij.2.1, hij.2.2⟩, IPost.done R1 h1 (walks_rng i (j - i).toNat)⟩
      · cases z
    · cases z
theorem grow_new {K : PySem.W.Frag} {G H : Hp} {T : Addr} {o : HO} (h : H T = none) (hg : G T = none) : Grow K G H (upd G T o) (upd H T o) := fun σ ρ R => ⟨R.alloc h o, Stp.alloc h hg o⟩
theorem i_enum {p tp : Pos} {elts : List Expr} {kk : Nat} (hg : Gl X "enumerate") (hm : X.mg "enumerate" = none) (ha : AJ X E [a] fs) (hs : starEach [a] X.env = [(false, eval a X.env)] := by rfl) :
    IJ X E (.Tuple elts kk tp) (.Call (.Name "enumerate" p) [a] [] pos) (iEnumD fs) := by
  obtain ⟨_, t, q, p⟩ := ha
  refine ⟨_, pi_enum hg hm q hs, fun σ G H ρ Q R h => p σ G H ρ _ R (IPost.bind h fun G1 H1 xs ds ρ1 R1 S1 hx h1 => ?_)⟩
  cases hx with
  | nil => exact h1.elim
  | cons q1 q2 =>
    cases q2 with
    | cons _ _ => exact h1.elim
    | nil =>
      cases q1 with
      | lst g1 g2 =>
        rename_i b vs ds
        have gq := SqL.of g1 (K := X.K)
        refine ⟨b, vs, rfl, R1.gh.seq gq, IPost.done R1 h1 fun i G2 H2 s1 s2 => ?_⟩
        have hq : SqL X.K H2 b vs := s2.seq (s1.seq gq)
        refine ⟨fun d hd => ?_, fun hle => ⟨vs, hq, by rw [RpAll.len g2, ← numbered_len 0 ds]; exact hle⟩⟩
        obtain ⟨y, k1, rfl⟩ := numbered_get 0 i ds d hd
        obtain ⟨v, k2, k3⟩ := RpAll.get g2 k1
        refine ⟨⟨vs, v, hq, k2⟩, fun x H3 ⟨T, w, e1, e2, e3, e4⟩ => ?_⟩
        subst e1 e3
        have := e4 vs hq
        rw [k2] at this
        cases this
        have hg2 : G2 T = none := s2.free e2
        refine ⟨_, grow_new e2 hg2, .tup (SqT.of upd_same) (.cons ?_ (.cons (Rp.mono (same_upd hg2) (Rp.mono s1 k3)) .nil))⟩
        rw [Nat.zero_add]
        exact .int _
      | _ => exact h1.elim
theorem i_zip {p tp : Pos} {elts : List Expr} {kk : Nat} (hg : Gl X "zip") (hm : X.mg "zip" = none) (ha : AJ X E [a, b] fs) (hs : starEach [a, b] X.env = (false, eval a X.env) :: starEach [b] X.env := by rfl) (hpl : (backTo pos (starEach [b] X.env)).any (·.1) = false := by rfl) :
    IJ X E (.Tuple elts kk tp) (.Call (.Name "zip" p) [a, b] [] pos) (iZipD fs) := by
  obtain ⟨_, t, q, p⟩ := ha
  refine ⟨_, RZ.pi_zipA hg hm q hs hpl, fun σ G H ρ Q R h => p σ G H ρ _ R (IPost.bind h fun G1 H1 xs ds ρ1 R1 S1 hx h1 => ?_)⟩
  cases hx with
  | nil => exact h1.elim
  | cons q1 q2 =>
    cases q2 with
    | nil => exact h1.elim
    | cons q3 q4 =>
      cases q4 with
      | cons _ _ => exact h1.elim
      | nil =>
        rename_i u1 d1 u2 d2
        have h1 : IPost X.K X.mg E σ G1 H1 ρ1 Q (Res.of (zipOf d1 d2) ρ1) := h1
        cases q1 with
        | @lst b1 vs1 ds1 g1 g2 =>
          cases q3 with
          | @lst b2 vs2 ds2 k1 k2 =>
            have c1 := SqL.of g1 (K := X.K)
            have c2 := SqL.of k1 (K := X.K)
            refine ⟨b1, b2, vs1, vs2, rfl, .inl ⟨R1.gh.seq c1, R1.gh.seq c2, IPost.done R1 h1 fun i G2 H2 s1 s2 => ?_⟩⟩
            have m1 : SqL X.K H2 b1 vs1 := s2.seq (s1.seq c1)
            have m2 : SqL X.K H2 b2 vs2 := s2.seq (s1.seq c2)
            refine ⟨fun d hd => ?_, fun hle => ⟨vs1, vs2, m1, m2, by rw [paired_len] at hle; rw [RpAll.len g2, RpAll.len k2]; omega⟩⟩
            obtain ⟨y1, y2, n1, n2, rfl⟩ := paired_get i ds1 ds2 d hd
            obtain ⟨w1, o1, r1⟩ := RpAll.get g2 n1
            obtain ⟨w2, o2, r2⟩ := RpAll.get k2 n2
            refine ⟨⟨vs1, vs2, w1, w2, m1, m2, o1, o2⟩, fun x H3 ⟨T, z1, z2, e1, e2, e3, e4, e5⟩ => ?_⟩
            subst e1 e3
            have t1 := e4 vs1 m1
            have t2 := e5 vs2 m2
            rw [o1] at t1
            rw [o2] at t2
            cases t1
            cases t2
            have hg2 : G2 T = none := s2.free e2
            exact ⟨_, grow_new e2 hg2, .tup (SqT.of upd_same) (.cons (Rp.mono (same_upd hg2) (Rp.mono s1 r1)) (.cons (Rp.mono (same_upd hg2) (Rp.mono s1 r2)) .nil))⟩
          | _ => exact h1.elim
        | @tup b1 vs1 ds1 g1 g2 =>
          cases q3 with
          | @tup b2 vs2 ds2 k1 k2 =>
            refine ⟨b1, b2, vs1, vs2, rfl, .inr ⟨Same.seqT R1.gh g1, Same.seqT R1.gh k1, IPost.done R1 h1 fun i G2 H2 s1 s2 => ?_⟩⟩
            have m1 : SqT X.K H2 b1 vs1 := Same.seqT s2 (Same.seqT s1 g1)
            have m2 : SqT X.K H2 b2 vs2 := Same.seqT s2 (Same.seqT s1 k1)
            refine ⟨fun d hd => ?_, fun hle => ⟨vs1, vs2, m1, m2, by rw [paired_len] at hle; rw [RpAll.len g2, RpAll.len k2]; omega⟩⟩
            obtain ⟨y1, y2, n1, n2, rfl⟩ := paired_get i ds1 ds2 d hd
            obtain ⟨w1, o1, r1⟩ := RpAll.get g2 n1
            obtain ⟨w2, o2, r2⟩ := RpAll.get k2 n2
            refine ⟨⟨vs1, vs2, w1, w2, m1, m2, o1, o2⟩, fun x H3 ⟨T, z1, z2, e1, e2, e3, e4, e5⟩ => ?_⟩
            subst e1 e3
            have t1 := e4 vs1 m1
            have t2 := e5 vs2 m2
            rw [o1] at t1
            rw [o2] at t2
            cases t1
            cases t2
            have hg2 : G2 T = none := s2.free e2
            exact ⟨_, grow_new e2 hg2, .tup (SqT.of upd_same) (.cons (Rp.mono (same_upd hg2) (Rp.mono s1 r1)) (.cons (Rp.mono (same_upd hg2) (Rp.mono s1 r2)) .nil))⟩
          | _ => exact h1.elim
        | _ => cases q3 <;> exact h1.elim
end
/-! ### comprehensions -/
def wipeC (ρ : DEnv) : List Nat → DEnv
  | [] => ρ
  | v :: vs => (wipeC ρ vs).set v .un
/-- the slots vs as they were in ρ, the others as they are in ρ' -/
def unwipe (vs : List Nat) (ρ ρ' : DEnv) : DEnv := ρ'.mapIdx fun i c => if i ∈ vs then ρ[i]?.getD .un else c
def lcL (vs : List Nat) (gd : PyData → DEnv → Option DEnv) (ft : DEnv → Res Bool) (fe : DEnv → Res PyData) : List PyData → List PyData → DEnv → Res (List PyData)
  | [], acc, ρ => .ok acc ρ
  | d :: ds, acc, ρ => match gd d ρ with
    | none => .bad
    | some ρ1 => match ft ρ1 with
      | .ok true ρ2 => match fe ρ2 with
        | .ok y ρ3 => if acc.length < sizeLine then lcL vs gd ft fe ds (acc ++ [y]) (wipeC ρ3 vs) else .bad
        | _ => .bad
      | .ok false ρ2 => lcL vs gd ft fe ds acc (wipeC ρ2 vs)
      | _ => .bad
def fLc (vs : List Nat) (fi : DEnv → Res (List PyData)) (gd : PyData → DEnv → Option DEnv) (ft : DEnv → Res Bool) (fe : DEnv → Res PyData) : DEnv → Res OD := fun ρ => (fi ρ).bind fun ds ρ1 => match lcL vs gd ft fe ds [] (wipeC ρ1 vs) with
  | .ok acc ρ2 => .ok (.lst acc) (unwipe vs ρ1 ρ2)
  | _ => .bad
def tTrue : DEnv → Res Bool := fun ρ => .ok true ρ
theorem wipeC_len (ρ : DEnv) : ∀ vs, (wipeC ρ vs).length = ρ.length
  | [] => rfl
  | v :: vs => by unfold wipeC; rw [List.length_set, wipeC_len ρ vs]
theorem wipeC_get {ρ : DEnv} {i : Nat} {c : Cell} : ∀ {vs : List Nat}, (wipeC ρ vs)[i]? = some c → (i ∈ vs ∧ c = .un) ∨ (i ∉ vs ∧ ρ[i]? = some c)
  | [], h => .inr ⟨by simp, h⟩
  | v :: vs, h => by
    unfold wipeC at h
    rcases getset h with ⟨rfl, rfl, _⟩ | ⟨ne, h⟩
    · exact .inl ⟨List.mem_cons_self .., rfl⟩
    · rcases wipeC_get h with ⟨z1, z2⟩ | ⟨z1, z2⟩
      · exact .inl ⟨List.mem_cons_of_mem _ z1, z2⟩
      · refine .inr ⟨fun z => ?_, z2⟩
        rcases List.mem_cons.mp z with z | z
        · exact ne z
        · exact z1 z
theorem wipeC_out {ρ : DEnv} {i : Nat} : ∀ {vs : List Nat}, i ∉ vs → (wipeC ρ vs)[i]? = ρ[i]?
  | [], _ => rfl
  | v :: vs, h => by
    unfold wipeC
    rw [List.getElem?_set_ne fun z => h (by rw [z]; exact List.mem_cons_self ..)]
    exact wipeC_out fun z => h (List.mem_cons_of_mem _ z)
theorem wipe_out {σ : St} {i : Nat} : ∀ {vs : List Nat}, i ∉ vs → (wipe σ vs)[i]? = σ[i]?
  | [], _ => rfl
  | v :: vs, h => by
    unfold wipe
    rw [List.getElem?_set_ne fun z => h (by rw [z]; exact List.mem_cons_self ..)]
    exact wipe_out fun z => h (List.mem_cons_of_mem _ z)
theorem wipe_eq {σ σ' : St} {vs : List Nat} (hl : σ'.length = σ.length) (h : ∀ j, j ∉ vs → σ'[j]? = σ[j]?) : wipe σ' vs = wipe σ vs := by
  apply List.ext_getElem?
  intro i
  by_cases hi : i ∈ vs
  · have key : ∀ (τ : St) (ws : List Nat), i ∈ ws → (wipe τ ws)[i]? = if i < τ.length then some none else none := fun τ ws hw => by
      induction ws with
      | nil => cases hw
      | cons v ws ih =>
        unfold wipe
        by_cases e : v = i
        · subst e
          by_cases hlt : v < τ.length
          · rw [if_pos hlt, List.getElem?_set_self (by rw [wipe_length]; exact hlt)]
          · rw [if_neg hlt]
            exact List.getElem?_eq_none (by rw [List.length_set, wipe_length]; omega)
        · rw [List.getElem?_set_ne e]
          exact ih ((List.mem_cons.mp hw).resolve_left fun z => e z.symm)
    rw [key σ' vs hi, key σ vs hi, hl]
  · rw [wipe_out hi, wipe_out hi, h i hi]
section
variable {K : PySem.W.Frag} {G H : Hp} {σ : St} {ρ : DEnv} {vs : List Nat}
/-- the slots vs are forgotten -/
theorem Rel.wiped (R : Rel K G σ H ρ) (vs : List Nat) : Rel K G (wipe σ vs) H (wipeC ρ vs) := by
  refine ⟨R.gh, by rw [wipe_length, wipeC_len]; exact R.len, fun i c e => ?_, fun i j p hij a b => ?_⟩
  · rcases wipeC_get e with ⟨z1, rfl⟩ | ⟨z1, z2⟩
    · have hi : i < (wipe σ vs).length := by
        have := (List.getElem?_eq_some_iff.mp e).1
        rw [wipeC_len] at this
        rw [wipe_length, R.len]; exact this
      exact ⟨_, List.getElem?_eq_getElem hi, trivial⟩
    · rw [wipe_out z1]
      exact R.cell i c z2
  · have down : ∀ {i : Nat}, At (wipe σ vs) (wipeC ρ vs) i p → At σ ρ i p := fun {i} ⟨a1, c, a2, a3⟩ => by
      rcases wipeC_get a2 with ⟨z1, rfl⟩ | ⟨z1, z2⟩
      · cases a3
      · rw [wipe_out z1] at a1
        exact ⟨a1, c, z2, a3⟩
    exact R.sep i j p hij (down a) (down b)
theorem OwnL.unwiped {b : Addr} (h : OwnL (wipe σ vs) (wipeC ρ vs) b) : OwnL σ ρ b := by
  obtain ⟨i, o, e, w⟩ := h
  rcases wipeC_get e with ⟨z1, z2⟩ | ⟨z1, z2⟩
  · cases z2
  · rw [wipe_out z1] at w; exact ⟨i, o, z2, w⟩
theorem OwnI.unwiped {b : Addr} (h : OwnI (wipe σ vs) (wipeC ρ vs) b) : OwnI σ ρ b := by
  obtain ⟨i, o, e, w⟩ := h
  rcases wipeC_get e with ⟨z1, z2⟩ | ⟨z1, z2⟩
  · cases z2
  · rw [wipe_out z1] at w; exact ⟨i, o, z2, w⟩
/-- behind a turn: from the turn's slots back to the wiped ones; no io slot is among vs -/
theorem Stp.wiped {G0 H0 : Hp} {σ0 : St} {ρ0 : DEnv} (S : Stp G0 H0 (wipe σ0 vs) ρ0 G H σ ρ) (hw : wipe σ vs = wipe σ0 vs) (h0 : ∀ i ∈ vs, ∀ o, ρ0[i]? ≠ some (.io o)) : Stp G0 H0 (wipe σ0 vs) ρ0 G H (wipe σ0 vs) (wipeC ρ vs) := by
  have out : ∀ {i : Nat} {o : OD}, ρ0[i]? = some (.io o) → i ∉ vs := fun {i o} e hi => h0 i hi o e
  refine ⟨S.same, S.frame, S.keep, S.fresh, fun b h => ?_, fun i o e => ⟨rfl, ?_⟩, fun i o e => ?_, rfl⟩
  · exact S.ownl b (OwnL.unwiped (vs := vs) (by rw [hw]; exact h))
  · obtain ⟨_, o', e'⟩ := S.io i o e
    rw [wipeC_out (out e)]
    exact ⟨o', e'⟩
  · rcases wipeC_get e with ⟨z1, z2⟩ | ⟨z1, z2⟩
    · cases z2
    · exact S.oi i o z2
/-- the heap without D -/
def era (D : Addr) (H : Hp) : Hp := fun b => if b = D then none else H b
theorem era_ne {D b : Addr} {H : Hp} (h : b ≠ D) : era D H b = H b := by unfold era; rw [if_neg h]
theorem era_same {D : Addr} {H : Hp} : era D H D = none := by unfold era; rw [if_pos rfl]
theorem Stp.era {G' H' : Hp} {σ' : St} {ρ' : DEnv} (D : Addr) (S : Stp G H σ ρ G' H' σ' ρ') : Stp G (DL.era D H) σ ρ G' (DL.era D H') σ' ρ' := by
  refine ⟨S.same, fun b o e n1 n2 => ?_, fun b e => ?_, fun b o e => ?_, fun b h => ?_, S.io, S.oi, S.len⟩
  · by_cases hb : b = D
    · subst hb; rw [era_same] at e; cases e
    · rw [era_ne hb] at e ⊢; exact S.frame b o e n1 n2
  · by_cases hb : b = D
    · subst hb; exact era_same
    · rw [era_ne hb] at e ⊢; exact S.keep b e
  · rcases S.fresh b o e with z | z | z
    · exact .inl z
    · refine .inr (.inl ?_)
      by_cases hb : b = D
      · subst hb; exact era_same
      · rw [era_ne hb]; exact z
    · exact .inr (.inr z)
  · rcases S.ownl b h with z | z
    · exact .inl z
    · refine .inr ?_
      by_cases hb : b = D
      · subst hb; exact era_same
      · rw [era_ne hb]; exact z
theorem Rel.era (D : Addr) (R : Rel K G σ H ρ) (hg : G D = none) (h1 : ¬ OwnL σ ρ D) (h2 : ¬ OwnI σ ρ D) : Rel K G σ (DL.era D H) ρ := by
  refine ⟨fun b o e => ?_, R.len, fun i c e => ?_, R.sep⟩
  · rw [era_ne (ne_of_none e hg)]; exact R.gh b o e
  · obtain ⟨v, e1, q⟩ := R.cell i c e
    refine ⟨v, e1, ?_⟩
    cases c with
    | un => trivial
    | val d => exact q
    | own o =>
      obtain ⟨b, e2, g, q⟩ := q
      have hb : b ≠ D := fun z => h1 ⟨i, o, e, by rw [e1, e2, z]⟩
      exact ⟨b, e2, g, q.mono (Same.refl _) fun u hu => by rw [era_ne hb]; exact hu⟩
    | io o =>
      obtain ⟨b, e2, g, q⟩ := q
      have hb : b ≠ D := fun z => h2 ⟨i, o, e, by rw [e1, e2, z]⟩
      exact ⟨b, e2, g, q.mono (Same.refl _) fun u hu => by rw [era_ne hb]; exact hu⟩
theorem Rel.unera {D : Addr} (R : Rel K G σ (DL.era D H) ρ) : Rel K G σ H ρ := by
  have up : ∀ b o, DL.era D H b = some o → H b = some o := fun b o e => by
    by_cases hb : b = D
    · subst hb; rw [era_same] at e; cases e
    · rw [era_ne hb] at e; exact e
  refine ⟨fun b o e => up b o (R.gh b o e), R.len, fun i c e => ?_, R.sep⟩
  obtain ⟨v, e1, q⟩ := R.cell i c e
  refine ⟨v, e1, ?_⟩
  cases c with
  | un => trivial
  | val d => exact q
  | own o => obtain ⟨b, e2, g, q⟩ := q; exact ⟨b, e2, g, q.mono (Same.refl _) fun u hu => up b u hu⟩
  | io o => obtain ⟨b, e2, g, q⟩ := q; exact ⟨b, e2, g, q.mono (Same.refl _) fun u hu => up b u hu⟩
theorem unwipe_get {ρ ρ' : DEnv} {i : Nat} {c : Cell} (h : (unwipe vs ρ ρ')[i]? = some c) (hl : ρ'.length = ρ.length) : (i ∈ vs ∧ ρ[i]? = some c) ∨ (i ∉ vs ∧ ρ'[i]? = some c) := by
  unfold unwipe at h
  rw [List.getElem?_mapIdx] at h
  cases q : ρ'[i]? with
  | none => rw [q] at h; cases h
  | some c' =>
    rw [q] at h
    have h : (if i ∈ vs then ρ[i]?.getD .un else c') = c := Option.some.inj h
    by_cases hi : i ∈ vs
    · rw [if_pos hi] at h
      have hlt : i < ρ.length := by rw [← hl]; exact (List.getElem?_eq_some_iff.mp q).1
      rw [List.getElem?_eq_getElem hlt] at h ⊢
      exact .inl ⟨hi, by rw [← h]; rfl⟩
    · rw [if_neg hi] at h
      exact .inr ⟨hi, by rw [h]⟩
theorem unwipe_len (ρ ρ' : DEnv) : (unwipe vs ρ ρ').length = ρ'.length := by unfold unwipe; exact List.length_mapIdx
theorem unwipe_out {ρ ρ' : DEnv} {i : Nat} (h : i ∉ vs) : (unwipe vs ρ ρ')[i]? = ρ'[i]? := by
  unfold unwipe
  rw [List.getElem?_mapIdx]
  cases q : ρ'[i]? with
  | none => rfl
  | some c => exact congrArg some (if_neg h)
theorem unwipe_in {ρ ρ' : DEnv} {i : Nat} (h : i ∈ vs) (hl : ρ'.length = ρ.length) : (unwipe vs ρ ρ')[i]? = ρ[i]? := by
  unfold unwipe
  rw [List.getElem?_mapIdx]
  cases q : ρ'[i]? with
  | none =>
    have : ρ'.length ≤ i := List.getElem?_eq_none_iff.mp q
    rw [List.getElem?_eq_none (by omega)]
    rfl
  | some c =>
    have hlt : i < ρ.length := by rw [← hl]; exact (List.getElem?_eq_some_iff.mp q).1
    rw [List.getElem?_eq_getElem hlt]
    show some (if i ∈ vs then some (ρ[i]) |>.getD .un else c) = _
    rw [if_pos h]
    rfl
/-- behind a comprehension: the slots vs are as they were -/
theorem unwiped_ok {G' H' : Hp} {ρ' : DEnv} (R : Rel K G σ H ρ) (R' : Rel K G' (wipe σ vs) H' ρ') (S : Stp G H (wipe σ vs) (wipeC ρ vs) G' H' (wipe σ vs) ρ') :
    Rel K G' σ H' (unwipe vs ρ ρ') ∧ Stp G H σ ρ G' H' σ (unwipe vs ρ ρ') := by
  have hl : ρ'.length = ρ.length := by rw [← R'.len, wipe_length, R.len]
  -- cells among vs are untouched
  have hid : ∀ {i : Nat} {c : Cell} {b : Addr}, i ∈ vs → ρ[i]? = some c → c.isOwn = true → σ[i]? = some (some (.ref b)) → ¬ OwnL (wipe σ vs) (wipeC ρ vs) b ∧ ¬ OwnI (wipe σ vs) (wipeC ρ vs) b := fun {i c b} hi e w a => by
    refine ⟨fun ⟨j, o, f, g⟩ => ?_, fun ⟨j, o, f, g⟩ => ?_⟩
    · rcases wipeC_get f with ⟨_, z⟩ | ⟨z1, z2⟩
      · cases z
      · rw [wipe_out z1] at g
        exact R.sep i j b (fun z => z1 (z ▸ hi)) ⟨a, c, e, w⟩ ⟨g, _, z2, rfl⟩
    · rcases wipeC_get f with ⟨_, z⟩ | ⟨z1, z2⟩
      · cases z
      · rw [wipe_out z1] at g
        exact R.sep i j b (fun z => z1 (z ▸ hi)) ⟨a, c, e, w⟩ ⟨g, _, z2, rfl⟩
  have gfree : ∀ {b : Addr} {u : HO}, G b = none → H b = some u → ¬ OwnL (wipe σ vs) (wipeC ρ vs) b → G' b = none := fun {b u} g h n => by
    cases q : G' b with
    | none => rfl
    | some w =>
      rcases S.fresh b w q with z | z | z
      · rw [g] at z; cases z
      · rw [h] at z; cases z
      · exact absurd z n
  have hidOwn : ∀ {i : Nat} {c : Cell} {b : Addr} {o : OD}, i ∈ vs → ρ[i]? = some c → c.isOwn = true → σ[i]? = some (some (.ref b)) → G b = none → OwnAt K G H b o → G' b = none ∧ OwnAt K G' H' b o := fun {i c b o} hi e w a g q => by
    obtain ⟨n1, n2⟩ := hid hi e w a
    obtain ⟨u, hu⟩ := q.ex
    exact ⟨gfree g hu n1, q.mono S.same fun u' z => S.frame b u' z n1 n2⟩
  have outIO : ∀ {i : Nat} {o : OD}, i ∉ vs → ρ[i]? = some (.io o) → ∃ o', ρ'[i]? = some (.io o') := fun {i o} hi e => (S.io i o (by rw [wipeC_out hi]; exact e)).2
  refine ⟨⟨R'.gh, by rw [unwipe_len, hl]; exact R.len, fun i c e => ?_, fun i j p hij a b => ?_⟩, ⟨S.same, fun b o e n1 n2 => S.frame b o e (fun z => n1 z.unwiped) fun z => n2 z.unwiped, S.keep, fun b o e => ?_, fun b h => ?_, fun i o e => ⟨rfl, ?_⟩, fun i o e => ?_, rfl⟩⟩
  · rcases unwipe_get e hl with ⟨z1, z2⟩ | ⟨z1, z2⟩
    · obtain ⟨v, e1, q⟩ := R.cell i c z2
      refine ⟨v, e1, ?_⟩
      cases c with
      | un => trivial
      | val d => obtain ⟨x, e2, q⟩ := q; exact ⟨x, e2, Rp.mono S.same q⟩
      | own o => obtain ⟨b, e2, g, q⟩ := q; exact ⟨b, e2, hidOwn z1 z2 rfl (e2 ▸ e1) g q⟩
      | io o => obtain ⟨b, e2, g, q⟩ := q; exact ⟨b, e2, hidOwn z1 z2 rfl (e2 ▸ e1) g q⟩
    · obtain ⟨v, e1, q⟩ := R'.cell i c z2
      rw [wipe_out z1] at e1
      exact ⟨v, e1, q⟩
  · obtain ⟨a1, c1, a2, a3⟩ := a
    obtain ⟨b1, c2, b2, b3⟩ := b
    -- an owned cell outside of vs is owned in the wiped state, or new
    have outer : ∀ {k : Nat} {c : Cell}, k ∉ vs → ρ'[k]? = some c → c.isOwn = true → σ[k]? = some (some (.ref p)) → (OwnL (wipe σ vs) (wipeC ρ vs) p ∨ H p = none) ∨ OwnI (wipe σ vs) (wipeC ρ vs) p := fun {k c} hk e w a => by
      have a' : (wipe σ vs)[k]? = some (some (.ref p)) := by rw [wipe_out hk]; exact a
      cases c with
      | un => cases w
      | val _ => cases w
      | own o => exact .inl (S.ownl p ⟨k, o, e, a'⟩)
      | io o => exact .inr ((S.owni p).mp ⟨k, o, e, a'⟩)
    have clash : ∀ {k l : Nat} {c d : Cell}, k ∈ vs → ρ[k]? = some c → c.isOwn = true → σ[k]? = some (some (.ref p)) → l ∉ vs → ρ'[l]? = some d → d.isOwn = true → σ[l]? = some (some (.ref p)) → False := fun {k l c d} k1 k2 k3 k4 l1 l2 l3 l4 => by
      obtain ⟨n1, n2⟩ := hid k1 k2 k3 k4
      have hp : ∃ u, H p = some u := by
        obtain ⟨v, e1, q⟩ := R.cell k c k2
        rw [k4] at e1
        cases e1
        cases c with
        | un => cases k3
        | val _ => cases k3
        | own o => obtain ⟨b, e2, g, q⟩ := q; cases e2; exact q.ex
        | io o => obtain ⟨b, e2, g, q⟩ := q; cases e2; exact q.ex
      obtain ⟨u, hu⟩ := hp
      rcases outer l1 l2 l3 l4 with (z | z) | z
      · exact n1 z
      · rw [hu] at z; cases z
      · exact n2 z
    rcases unwipe_get a2 hl with ⟨z1, z2⟩ | ⟨z1, z2⟩
    · rcases unwipe_get b2 hl with ⟨y1, y2⟩ | ⟨y1, y2⟩
      · exact R.sep i j p hij ⟨a1, c1, z2, a3⟩ ⟨b1, c2, y2, b3⟩
      · exact clash z1 z2 a3 a1 y1 y2 b3 b1
    · rcases unwipe_get b2 hl with ⟨y1, y2⟩ | ⟨y1, y2⟩
      · exact clash y1 y2 b3 b1 z1 z2 a3 a1
      · exact R'.sep i j p hij ⟨by rw [wipe_out z1]; exact a1, c1, z2, a3⟩ ⟨by rw [wipe_out y1]; exact b1, c2, y2, b3⟩
  · rcases S.fresh b o e with z | z | z
    · exact .inl z
    · exact .inr (.inl z)
    · exact .inr (.inr z.unwiped)
  · obtain ⟨i, o, e, w⟩ := h
    rcases unwipe_get e hl with ⟨z1, z2⟩ | ⟨z1, z2⟩
    · exact .inl ⟨i, o, z2, w⟩
    · rcases S.ownl b ⟨i, o, z2, by rw [wipe_out z1]; exact w⟩ with z | z
      · exact .inl z.unwiped
      · exact .inr z
  · by_cases hi : i ∈ vs
    · rw [unwipe_in hi hl]; exact ⟨o, e⟩
    · rw [unwipe_out hi]; exact outIO hi e
  · rcases unwipe_get e hl with ⟨z1, z2⟩ | ⟨z1, z2⟩
    · exact ⟨o, z2⟩
    · obtain ⟨o', z3⟩ := S.oi i o z2
      rw [wipeC_out z1] at z3
      exact ⟨o', z3⟩
end
section
theorem Stp.unera {G H G' H' : Hp} {σ σ' : St} {ρ ρ' : DEnv} {D : Addr} (S : Stp G H σ ρ G' (DL.era D H') σ' ρ') : Stp G H σ ρ G' H' σ' ρ' := by
  refine ⟨S.same, fun b o e n1 n2 => ?_, fun b e => S.keep b ?_, S.fresh, S.ownl, S.io, S.oi, S.len⟩
  · have := S.frame b o e n1 n2
    by_cases hb : b = D
    · subst hb; rw [era_same] at this; cases this
    · rw [era_ne hb] at this; exact this
  · by_cases hb : b = D
    · subst hb; exact era_same
    · rw [era_ne hb]; exact e
theorem era_upd {D : Addr} {H : Hp} {o : HO} : DL.era D (upd H D o) = DL.era D H := by
  funext b
  unfold DL.era
  by_cases hb : b = D
  · rw [if_pos hb, if_pos hb]
  · rw [if_neg hb, if_neg hb, upd_ne hb]
/-- an object that stands beside goes on standing there -/
theorem Stp.track {G H G' H' : Hp} {σ σ' : St} {ρ ρ' : DEnv} {D : Addr} {u : HO} (S : Stp G H σ ρ G' H' σ' ρ') (hg : G D = none) (hh : H D = some u) (n1 : ¬ OwnL σ ρ D) (n2 : ¬ OwnI σ ρ D) :
    G' D = none ∧ H' D = some u ∧ ¬ OwnL σ' ρ' D ∧ ¬ OwnI σ' ρ' D := by
  refine ⟨?_, S.frame D u hh n1 n2, fun z => (S.ownl D z).elim n1 fun q => (by rw [hh] at q; cases q), fun z => n2 ((S.owni D).mp z)⟩
  cases q : G' D with
  | none => rfl
  | some w =>
    rcases S.fresh D w q with z | z | z
    · rw [hg] at z; cases z
    · rw [hh] at z; cases z
    · exact absurd z n1
variable (K : PySem.W.Frag) (mg : Str → Option Value) (E : WX)
def tG (is : List Nat) (gd : PyData → DEnv → Option DEnv) : TG := fun x σ H Q => ∃ G ρ d, Rel K G σ H ρ ∧ Rp K G x d ∧ GPost K σ G H ρ is Q (gd d ρ)
def tT (f : DEnv → Res Bool) : TT := fun σ H Q => ∃ G ρ, Rel K G σ H ρ ∧ Post K mg W0 (fun _ b c => b = c) σ G H ρ Q (f ρ)
def tE (f : DEnv → Res PyData) : TE := fun σ H Q => ∃ G ρ, Rel K G σ H ρ ∧ Post K mg W0 (Rp K) σ G H ρ Q (f ρ)
end
section
variable {X : Cx} {E : WX} {e tg iter elt : Expr} {ifs : List Expr} {scope : Scope} {fe : DEnv → Res PyData} {ft : DEnv → Res Bool} {fi : DEnv → Res (List PyData)} {gd : PyData → DEnv → Option DEnv} {pos : Pos} {vs is : List Nat}
theorem pe_t (h : EJ X W0 e fe) : PE X e (tE X.K X.mg fe) := by
  obtain ⟨t, q, p⟩ := h
  exact ⟨fun pins s σ H Q I ⟨G, ρ, R, h⟩ => q.run pins s σ H Q I (p σ G H ρ Q R h)⟩
theorem pt_t (h : TJ X W0 e ft) : PT X e (tT X.K X.mg ft) := by
  obtain ⟨t, q, p⟩ := h
  exact ⟨fun pins s σ H Q I ⟨G, ρ, R, h⟩ => q.run pins s σ H Q I (p σ G H ρ Q R h)⟩
theorem pg_t (h : GJ X tg is gd) : PG X tg (tG X.K is gd) := by
  obtain ⟨t, q, p⟩ := h
  refine ⟨fun pins s σ H x u Q I r hw => ?_⟩
  obtain ⟨G, ρ, d, R, hx, h⟩ := hw
  exact q.run pins s σ H x u Q I r (p σ G H ρ x d Q R hx h)
theorem lc_read {K : PySem.W.Frag} {mg : Str → Option Value} {σ : St} {G H : Hp} {ρ : DEnv} {Q : VK} {wi : TI} (his : ∀ j ∈ is, j ∈ vs)
    (pi : ∀ (σ : St) (G H : Hp) (ρ : DEnv) (R : It → Hp → Prop), Rel K G σ H ρ → IPost K mg E σ G H ρ R (fi ρ) → wi σ H R) (R : Rel K G σ H ρ) (h : FPost K mg E σ G H ρ Q (fLc vs fi gd ft fe ρ)) :
    tLc wi (tG K is gd) (tT K mg ft) (tE K mg fe) vs σ H Q := by
  refine pi σ G H ρ _ R ?_
  unfold fLc at h
  cases r : fi ρ with
  | bad => rw [r] at h; exact h
  | err x c => rw [r] at h; exact h
  | ok ds ρ1 =>
    rw [r, Res.bind_ok] at h
    generalize hT : lcL vs gd ft fe ds [] (wipeC ρ1 vs) = T at h
    intro G1 H1 J R1 S1 hw D hD
    have hgD : G1 D = none := R1.noneG hD
    have nL1 : ¬ OwnL σ ρ1 D := fun z => by obtain ⟨u, hu⟩ := R1.ownH z; rw [hD] at hu; cases hu
    have nI1 : ¬ OwnI σ ρ1 D := fun z => by obtain ⟨u, hu⟩ := R1.ownHI z; rw [hD] at hu; cases hu
    have Rw := R1.wiped vs
    have nL : ¬ OwnL (wipe σ vs) (wipeC ρ1 vs) D := fun z => nL1 z.unwiped
    have nI : ¬ OwnI (wipe σ vs) (wipeC ρ1 vs) D := fun z => nI1 z.unwiped
    refine ⟨fun i m Hc => ∃ (Gc : Hp) (ρc : DEnv) (acc : List PyData) (accV : List V), Rel K Gc (wipe σ vs) Hc ρc ∧ Stp G1 H1 (wipe σ vs) (wipeC ρ1 vs) Gc (DL.era D Hc) (wipe σ vs) ρc ∧ Gc D = none ∧ Hc D = some (.lst accV) ∧ ¬ OwnL (wipe σ vs) ρc D ∧ ¬ OwnI (wipe σ vs) ρc D ∧ RpAll K Gc accV acc ∧
      m = ds.length - i ∧ i ≤ ds.length ∧ lcL vs gd ft fe (ds.drop i) acc ρc = T, ⟨ds.length, G1, wipeC ρ1 vs, [], [], Rw.beside hgD nL nI _, ?_, hgD, upd_same, nL, nI, .nil, by omega, Nat.zero_le _, by rw [List.drop_zero]; exact hT⟩, ?_⟩
    · rw [era_upd]
      have e0 : DL.era D H1 = H1 := by
        funext b
        by_cases hb : b = D
        · subst hb; rw [era_same, hD]
        · rw [era_ne hb]
      rw [e0]
      exact Stp.refl
    · rintro i m Hc ⟨Gc, ρc, acc, accV, Rc, Sc, gD, hDc, oL, oI, ha, rfl, hle, heq⟩
      obtain ⟨w1, w2⟩ := hw i Gc Hc Sc.same Rc.gh
      by_cases hi : i < ds.length
      · have hd : ds.drop i = ds[i] :: ds.drop (i + 1) := List.drop_eq_getElem_cons hi
        rw [hd] at heq
        obtain ⟨go, yl⟩ := w1 ds[i] (List.getElem?_eq_getElem hi)
        refine .inr ⟨go, fun H' => ∃ (Gc : Hp) (ρc : DEnv) (acc : List PyData) (accV : List V), Rel K Gc (wipe σ vs) H' ρc ∧ Stp G1 H1 (wipe σ vs) (wipeC ρ1 vs) Gc (DL.era D H') (wipe σ vs) ρc ∧ Gc D = none ∧ H' D = some (.lst accV) ∧ ¬ OwnL (wipe σ vs) ρc D ∧ ¬ OwnI (wipe σ vs) ρc D ∧ RpAll K Gc accV acc ∧
          lcL vs gd ft fe (ds.drop (i + 1)) acc ρc = T, fun H' hN => ?_, fun x H' hy => ?_⟩
        · obtain ⟨a1, a2, a3, a4, b1, b2, b3, b4, b5, b6, b7, b8⟩ := hN
          exact ⟨ds.length - (i + 1), by omega, a1, a2, a3, a4, b1, b2, b3, b4, b5, b6, b7, rfl, hi, b8⟩
        · obtain ⟨G2, gr, hx⟩ := yl x H' hy
          obtain ⟨R2, S2⟩ := gr (wipe σ vs) ρc Rc
          refine ⟨G2, ρc, ds[i], R2, hx, ?_⟩
          unfold lcL at heq
          have dead : T = .bad → False := fun z => by rw [z] at h; exact h
          -- behind a turn
          have after : ∀ {G5 H5 : Hp} {σ5 : St} {ρ5 : DEnv}, Rel K G5 σ5 H5 ρ5 → Stp Gc Hc (wipe σ vs) ρc G5 H5 σ5 ρ5 → wipe σ5 vs = wipe σ vs →
              Rel K G5 (wipe σ vs) H5 (wipeC ρ5 vs) ∧ Stp G1 H1 (wipe σ vs) (wipeC ρ1 vs) G5 (DL.era D H5) (wipe σ vs) (wipeC ρ5 vs) ∧ G5 D = none ∧ H5 D = some (.lst accV) ∧ ¬ OwnL (wipe σ vs) (wipeC ρ5 vs) D ∧ ¬ OwnI (wipe σ vs) (wipeC ρ5 vs) D := fun {G5 H5 σ5 ρ5} R5 S5 hσ => by
            obtain ⟨t1, t2, t3, t4⟩ := S5.track gD hDc oL oI
            have Rn := R5.wiped vs
            rw [hσ] at Rn
            refine ⟨Rn, ?_, t1, t2, fun z => t3 (OwnL.unwiped (vs := vs) (by rw [hσ]; exact z)), fun z => t4 (OwnI.unwiped (vs := vs) (by rw [hσ]; exact z))⟩
            refine Stp.wiped (Sc.trans (S5.era D)) hσ fun j hj o z => ?_
            rcases wipeC_get z with ⟨_, y⟩ | ⟨y, _⟩
            · cases y
            · exact y hj
          cases q : gd ds[i] ρc with
          | none => rw [q] at heq; exact (dead heq.symm).elim
          | some ρ3 =>
            rw [q] at heq
            intro G3 H3 σ3 R3 S3 O3
            have hσ3 : wipe σ3 vs = wipe σ vs := by
              rw [wipe_eq (σ := wipe σ vs) S3.len fun j hj => O3 j fun z => hj (his j z)]
              exact wipe_eq (wipe_length σ vs) fun j hj => wipe_out hj
            refine ⟨hσ3, G3, ρ3, R3, ?_⟩
            cases q4 : ft ρ3 with
            | bad => simp only [q4] at heq; exact (dead heq.symm).elim
            | err x c => simp only [q4] at heq; exact (dead heq.symm).elim
            | ok b ρ4 =>
              intro G4 H4 b' R4 S4 hb
              subst hb
              cases b' with
              | false =>
                simp only [q4] at heq
                refine iteF ?_
                obtain ⟨u1, u2, u3, u4, u5, u6⟩ := after R4 ((S2.trans S3).trans S4) hσ3
                exact ⟨G4, _, acc, accV, u1, u2, u3, u4, u5, u6, RpAll.mono (((S2.trans S3).trans S4).same) ha, heq⟩
              | true =>
                refine iteT ⟨G4, ρ4, R4, ?_⟩
                cases q5 : fe ρ4 with
                | bad => simp only [q4, q5] at heq; exact (dead heq.symm).elim
                | err x c => simp only [q4, q5] at heq; exact (dead heq.symm).elim
                | ok y ρ5 =>
                  simp only [q4, q5] at heq
                  intro G5 H5 v R5 S5 hv
                  by_cases hz : acc.length < sizeLine
                  case neg => rw [if_neg hz] at heq; exact (dead heq.symm).elim
                  rw [if_pos hz] at heq
                  obtain ⟨u1, u2, u3, u4, u5, u6⟩ := after R5 (((S2.trans S3).trans S4).trans S5) hσ3
                  have hl := RpAll.len ha
                  exact ⟨accV, u4, by omega, G5, _, acc ++ [y], accV ++ [v], u1.beside u3 u5 u6 _, by rw [era_upd]; exact u2, u3, upd_same, u5, u6, RpAll.app (RpAll.mono ((((S2.trans S3).trans S4).trans S5).same) ha) (.cons hv .nil), heq⟩
      · have e : ds.drop i = [] := List.drop_eq_nil_of_le (by omega)
        rw [e] at heq
        have heq : (Res.ok acc ρc : Res (List PyData)) = T := heq
        rw [← heq] at h
        obtain ⟨Rn, Sn⟩ := unwiped_ok R1 (Rc.era D gD oL oI) Sc
        have nn : ∀ b, (OwnL σ (unwipe vs ρ1 ρc) b ∨ OwnI σ (unwipe vs ρ1 ρc) b) → b ≠ D := fun b hb z => by
          subst z
          rcases hb with hb | hb
          · obtain ⟨u, hu⟩ := Rn.ownH hb; rw [era_same] at hu; cases hu
          · obtain ⟨u, hu⟩ := Rn.ownHI hb; rw [era_same] at hu; cases hu
        exact .inl ⟨w2 (by omega), h Gc Hc D Rn.unera (S1.trans Sn.unera) gD ⟨accV, hDc, ha⟩ (S1.keep D hD) (fun z => nn D (.inl z) rfl) fun z => nn D (.inr z) rfl⟩
/-- [elt for tg in iter if ..] -/
theorem f_lc (hp : ∀ wi, PI X tg iter wi → PE X (.ListComp elt [⟨tg, iter, ifs, 0⟩] scope pos) (tLc wi (tG X.K is gd) (tT X.K X.mg ft) (tE X.K X.mg fe) vs)) (his : ∀ j ∈ is, j ∈ vs) (hi : IJ X E tg iter fi) :
    FJ X E (.ListComp elt [⟨tg, iter, ifs, 0⟩] scope pos) (fLc vs fi gd ft fe) := by
  obtain ⟨wi, qi, pi⟩ := hi
  exact ⟨_, hp wi qi, fun σ G H ρ Q R h => lc_read his pi R h⟩
/-- name = [elt for ..] on one line -/
theorem s_newLc {x : Str} {p1 sp : Pos} (i : Nat) (hp : ∀ wi, PI X tg iter wi → PS X (.Assign [.Name x p1] (.ListComp elt [⟨tg, iter, ifs, 0⟩] scope pos) sp) (tAsg (tLc wi (tG X.K is gd) (tT X.K X.mg ft) (tE X.K X.mg fe) vs) (gName i))) (his : ∀ j ∈ is, j ∈ vs) (hi : IJ X E tg iter fi) :
    SJ X E (.Assign [.Name x p1] (.ListComp elt [⟨tg, iter, ifs, 0⟩] scope pos) sp) (sNew i (fLc vs fi gd ft fe)) := by
  obtain ⟨wi, qi, pi⟩ := hi
  exact ⟨_, hp wi qi, fun σ G H ρ D R h => new_read i (fun σ G H ρ Q R h => lc_read his pi R h) R h⟩
theorem pts_t (h : TJ X W0 e ft) : PTs X [e] (tT X.K X.mg ft) := pts_one (pt_t h)
theorem pts_y : PTs X [] (tT X.K X.mg tTrue) := ⟨fun pins s σ H Q I ⟨G, ρ, R, h⟩ => pts_nil.run pins s σ H Q I (Post.done R h rfl)⟩
end
end DL

set_option Elab.async false
set_option linter.all false
set_option maxRecDepth 100000
set_option maxHeartbeats 4000000
/-! DL part 7: operations. -/
namespace DL
open PySem PySem.Spec PyProof.Rows L2

def oAdd : PyData → PyData → Option PyData
  | .int i, .int j => some (.int (i + j))
  | .str x, .str y => if x.length + y.length ≤ sizeLine then some (.str (x ++ y)) else none
  | .tuple xs, .tuple ys => if xs.length + ys.length ≤ sizeLine then some (.tuple (xs ++ ys)) else none
  | .list xs, .list ys => if xs.length + ys.length ≤ sizeLine then some (.list (xs ++ ys)) else none
  | _, _ => none
def oSub : PyData → PyData → Option PyData
  | .int i, .int j => some (.int (i - j))
  | _, _ => none
instance (i j : Int) : Decidable (CMul i j) := inferInstanceAs (Decidable (_ ∨ _))
instance (i j : Int) : Decidable (CDiv i j) := inferInstanceAs (Decidable (_ ∧ _))
instance (i j : Int) : Decidable (CPow i j) := inferInstanceAs (Decidable (_ ∧ _ ∧ _))
def oMul : PyData → PyData → Option PyData
  | .int i, .int j => if CMul i j then some (.int (i * j)) else none
  | .tuple xs, .int k => if xs ≠ [] ∧ 2 ≤ k ∧ k ≤ 1000 ∧ xs.length ≤ 1000 then some (.tuple (List.replicate k.toNat xs).flatten) else none
  | .list xs, .int k => if -(2 ^ 63) ≤ k ∧ k < 2 ^ 63 ∧ xs.length * k.toNat ≤ sizeLine then some (.list (List.replicate k.toNat xs).flatten) else none
  | _, _ => none
def oDiv : PyData → PyData → Option PyData
  | .int i, .int j => if CDiv i j then some (.int (i / j)) else none
  | _, _ => none
def oMod : PyData → PyData → Option PyData
  | .int i, .int j => if 0 < j then some (.int (i % j)) else none
  | _, _ => none
def oPow : PyData → PyData → Option PyData
  | .int i, .int j => if CPow i j then some (.int (i ^ j.toNat)) else none
  | _, _ => none
def oNeg : PyData → Option PyData
  | .int i => some (.int (-i))
  | _ => none
def okEq (d : PyData) : Bool := SeqAt.shaped d
def oEq (d e : PyData) : Option PyData := if okEq d = true ∧ okEq e = true then some (.bool (PyData.eqv d e)) else none
def oNe (d e : PyData) : Option PyData := if okEq d = true ∧ okEq e = true then some (.bool (!PyData.eqv d e)) else none
def unInts : List PyData → Option (List Int)
  | [] => some []
  | .int i :: r => (unInts r).map (i :: ·)
  | _ => none
def oLt : PyData → PyData → Option PyData
  | .int i, .int j => some (.bool (decide (i < j)))
  | .tuple xs, .tuple ys => match unInts xs, unInts ys with
    | some ns, some ms => some (.bool (HT.lexLt ns ms))
    | _, _ => none
  | _, _ => none
def oLe : PyData → PyData → Option PyData
  | .int i, .int j => some (.bool (decide (i ≤ j)))
  | _, _ => none
def oGt : PyData → PyData → Option PyData
  | .int i, .int j => some (.bool (decide (j < i)))
  | _, _ => none
def oGe : PyData → PyData → Option PyData
  | .int i, .int j => some (.bool (decide (j ≤ i)))
  | _, _ => none
def isNone : PyData → Bool
  | .none => true
  | _ => false
def oIsN (d e : PyData) : Option PyData := if isNone e = true then some (.bool (isNone d)) else none
def oNotN (d e : PyData) : Option PyData := if isNone e = true then some (.bool (!isNone d)) else none
def flatD : PyData → Bool
  | .none => true
  | .bool _ => true
  | .int _ => true
  | .str _ => true
  | _ => false
def oIn (d : PyData) : PyData → Option PyData
  | .list ds => if okEq d = true ∧ okEq (.list ds) = true then some (.bool (ds.any fun z => PyData.eqv z d)) else none
  | .tuple ds => if flatD d = true ∧ ds.all flatD = true then some (.bool (ds.any fun z => PyData.eqv z d)) else none
  | _ => none
def oNotIn (d : PyData) : PyData → Option PyData
  | .list ds => if okEq d = true ∧ okEq (.list ds) = true then some (.bool (!ds.any fun z => PyData.eqv z d)) else none
  | .tuple ds => if flatD d = true ∧ ds.all flatD = true then some (.bool (!ds.any fun z => PyData.eqv z d)) else none
  | _ => none
def oIx : PyData → PyData → Option PyData
  | .list ds, .int k => atI ds k
  | .tuple ds, .int k => atI ds k
  | _, _ => none
def oInt : List PyData → Option PyData
  | [.int i] => some (.int i)
  | [.bool b] => some (.int (if b then 1 else 0))
  | _ => none
def oMax2 : List PyData → Option PyData
  | [.int i, .int j] => some (.int (if j > i then j else i))
  | _ => none
def oMin2 : List PyData → Option PyData
  | [.int i, .int j] => some (.int (if j < i then j else i))
  | _ => none
def unBools : List PyData → Option (List Bool)
  | [] => some []
  | .bool i :: r => (unBools r).map (i :: ·)
  | _ => none
def oAll : List PyData → Option PyData
  | [.list ds] => (unBools ds).map fun bs => .bool (bs.all id)
  | _ => none
def oAny : List PyData → Option PyData
  | [.list ds] => (unBools ds).map fun bs => .bool (bs.any id)
  | _ => none
def tyOf : PyData → String
  | .none => "NoneType"
  | .bool _ => "bool"
  | .int _ => "int"
  | .str _ => "str"
  | .list _ => "list"
  | .tuple _ => "tuple"
  | .dict _ => "?"
def oIsi (T : String) (d : PyData) : Option PyData := match d with
  | .dict _ => none
  | d => (kitB (tyOf d) T).map .bool
section
variable {X : Cx} {E : WX}
theorem rpFlat {K : PySem.W.Frag} {G : Hp} {v : V} {d : PyData} (h : Rp K G v d) (f : flatD d = true) : flatV v = true := by cases h <;> first | rfl | cases f
theorem rpFlatAll {K : PySem.W.Frag} {G : Hp} : ∀ {vs : List V} {ds : List PyData}, RpAll K G vs ds → ds.all flatD = true → vs.all flatV = true
  | _, _, .nil, _ => rfl
  | _, _, .cons h t, f => by
    rw [List.all_cons, Bool.and_eq_true] at f ⊢
    exact ⟨rpFlat h f.1, rpFlatAll t f.2⟩
theorem eqV_eqv {K : PySem.W.Frag} {G : Hp} {v w : V} {d e : PyData} (h : Rp K G v d) (h2 : Rp K G w e) (f1 : flatD d = true) (f2 : flatD e = true) : eqV v w = PyData.eqv d e := by
  cases h <;> first | cases f1 | skip
  all_goals (cases h2 <;> first | cases f2 | skip)
  all_goals first | rfl | (simp [eqV, PyData.eqv])
theorem inV_any {K : PySem.W.Frag} {G : Hp} {w : V} {e : PyData} (h2 : Rp K G w e) (f2 : flatD e = true) : ∀ {vs : List V} {ds : List PyData}, RpAll K G vs ds → ds.all flatD = true → inV w vs = ds.any fun z => PyData.eqv z e
  | _, _, .nil, _ => rfl
  | _, _, .cons h t, f => by
    rw [List.all_cons, Bool.and_eq_true] at f
    have ih := inV_any h2 f2 t f.2
    unfold inV at ih ⊢
    rw [List.any_cons, List.any_cons, ih, eqV_eqv h h2 f.1 f2]
def rAddA (K : PySem.W.Frag) : R2 := fun x y H Q => rI0 (fun i j => .int (i + j)) x y H Q ∨ ((∃ i j, x = .str i ∧ y = .str j ∧ i.length + j.length ≤ sizeLine ∧ Q (.str (i ++ j)) H) ∨ (rCatA K x y H Q ∨ rCat x y H Q))
theorem ho_add : OpR X (binaryOp .Add) (rAddA X.K) := op_add.or (op_add_str.or (op_catA.or op_cat))
theorem od_add : OpD X E (rAddA X.K) oAdd := by
  intro σ G H ρ x y d e c Q R hx hy ho h
  cases hx with
  | int i =>
    cases hy with
    | int j => cases ho; exact .inl ⟨i, j, rfl, rfl, Post.done R h (.int _)⟩
    | _ => cases ho
  | str i =>
    cases hy with
    | str j =>
      have ho : (if i.length + j.length ≤ sizeLine then some (PyData.str (i ++ j)) else none) = some c := ho
      by_cases hz : i.length + j.length ≤ sizeLine
      · rw [if_pos hz] at ho; cases ho; exact .inr (.inl ⟨i, j, rfl, rfl, hz, Post.done R h (.str _)⟩)
      · rw [if_neg hz] at ho; cases ho
    | _ => cases ho
  | @tup a vs ds h1 h2 =>
    cases hy with
    | @tup b ws es k1 k2 =>
      have ho : (if ds.length + es.length ≤ sizeLine then some (PyData.tuple (ds ++ es)) else none) = some c := ho
      by_cases hz : ds.length + es.length ≤ sizeLine
      · rw [if_pos hz] at ho
        cases ho
        have l1 := RpAll.len h2
        have l2 := RpAll.len k2
        refine .inr (.inr (.inl ⟨a, b, vs, ws, rfl, rfl, Same.seqT R.gh h1, Same.seqT R.gh k1, by omega, fun e => ?_, fun _ e => ?_, fun _ _ p hp => ?_⟩))
        · subst e
          cases h2
          exact Post.done R h (.tup k1 k2)
        · subst e
          cases k2
          exact Post.done R h (.tup h1 (by rw [List.append_nil]; exact h2))
        · exact Post.new R h hp (.tup (SqT.of upd_same) (RpAll.mono (same_upd (R.noneG hp)) (RpAll.app h2 k2)))
      · rw [if_neg hz] at ho; cases ho
    | _ => cases ho
  | @lst a vs ds h1 h2 =>
    cases hy with
    | @lst b ws es k1 k2 =>
      have ho : (if ds.length + es.length ≤ sizeLine then some (PyData.list (ds ++ es)) else none) = some c := ho
      by_cases hz : ds.length + es.length ≤ sizeLine
      · rw [if_pos hz] at ho
        cases ho
        have l1 := RpAll.len h2
        have l2 := RpAll.len k2
        exact .inr (.inr (.inr ⟨a, b, vs, ws, rfl, rfl, R.gh _ _ h1, R.gh _ _ k1, by omega, fun p hp => Post.new R h hp (.lst upd_same (RpAll.mono (same_upd (R.noneG hp)) (RpAll.app h2 k2)))⟩))
      · rw [if_neg hz] at ho; cases ho
    | _ => cases ho
  | _ => cases ho
theorem od_sub : OpD X E (rI0 fun i j => .int (i - j)) oSub := by
  intro σ G H ρ x y d e c Q R hx hy ho h
  cases hx with
  | int i =>
    cases hy with
    | int j => cases ho; exact ⟨i, j, rfl, rfl, Post.done R h (.int _)⟩
    | _ => cases ho
  | _ => cases ho
theorem rpFlatten {K : PySem.W.Frag} {G : Hp} {vs : List V} {ds : List PyData} (h : RpAll K G vs ds) : ∀ n, RpAll K G (List.replicate n vs).flatten (List.replicate n ds).flatten
  | 0 => .nil
  | n + 1 => by
    rw [List.replicate_succ, List.replicate_succ, List.flatten_cons, List.flatten_cons]
    exact RpAll.app h (rpFlatten h n)
def rMulA (K : PySem.W.Frag) : R2 := fun x y H Q => rI CMul (fun i j => .int (i * j)) x y H Q ∨ (rRepT K x y H Q ∨ rRep x y H Q)
theorem ho_mul : OpR X (binaryOp .Mult) (rMulA X.K) := op_mul.or (op_repT.or op_rep)
theorem od_mul : OpD X E (rMulA X.K) oMul := by
  intro σ G H ρ x y d e c Q R hx hy ho h
  cases hy with
  | int j =>
    cases hx with
    | int i =>
      have ho : (if CMul i j then some (PyData.int (i * j)) else none) = some c := ho
      by_cases hc : CMul i j
      · rw [if_pos hc] at ho; cases ho; exact .inl ⟨i, j, rfl, rfl, hc, Post.done R h (.int _)⟩
      · rw [if_neg hc] at ho; cases ho
    | @tup a vs ds h1 h2 =>
      have ho : (if ds ≠ [] ∧ 2 ≤ j ∧ j ≤ 1000 ∧ ds.length ≤ 1000 then some (PyData.tuple (List.replicate j.toNat ds).flatten) else none) = some c := ho
      by_cases hc : ds ≠ [] ∧ 2 ≤ j ∧ j ≤ 1000 ∧ ds.length ≤ 1000
      · rw [if_pos hc] at ho
        cases ho
        have l1 := RpAll.len h2
        refine .inr (.inl ⟨a, j, vs, rfl, rfl, Same.seqT R.gh h1, fun z => hc.1 ?_, hc.2.1, hc.2.2.1, by omega, fun p hp => Post.new R h hp (.tup (SqT.of upd_same) (RpAll.mono (same_upd (R.noneG hp)) (rpFlatten h2 _)))⟩)
        subst z
        cases h2
        rfl
      · rw [if_neg hc] at ho; cases ho
    | @lst a vs ds h1 h2 =>
      have ho : (if -(2 ^ 63) ≤ j ∧ j < 2 ^ 63 ∧ ds.length * j.toNat ≤ sizeLine then some (PyData.list (List.replicate j.toNat ds).flatten) else none) = some c := ho
      by_cases hc : -(2 ^ 63) ≤ j ∧ j < 2 ^ 63 ∧ ds.length * j.toNat ≤ sizeLine
      · rw [if_pos hc] at ho
        cases ho
        have l1 := RpAll.len h2
        exact .inr (.inr ⟨a, j, vs, rfl, rfl, R.gh _ _ h1, hc.1, hc.2.1, by rw [l1]; exact hc.2.2, fun p hp => Post.new R h hp (.lst upd_same (RpAll.mono (same_upd (R.noneG hp)) (rpFlatten h2 _)))⟩)
      · rw [if_neg hc] at ho; cases ho
    | _ => cases ho
  | _ => cases hx <;> cases ho
theorem od_div : OpD X E (rI CDiv fun i j => .int (i / j)) oDiv := by
  intro σ G H ρ x y d e c Q R hx hy ho h
  cases hx with
  | int i =>
    cases hy with
    | int j =>
      have ho : (if CDiv i j then some (PyData.int (i / j)) else none) = some c := ho
      by_cases hc : CDiv i j
      · rw [if_pos hc] at ho; cases ho; exact ⟨i, j, rfl, rfl, hc, Post.done R h (.int _)⟩
      · rw [if_neg hc] at ho; cases ho
    | _ => cases ho
  | _ => cases ho
theorem od_mod : OpD X E (rI (fun _ j => 0 < j) fun i j => .int (i % j)) oMod := by
  intro σ G H ρ x y d e c Q R hx hy ho h
  cases hx with
  | int i =>
    cases hy with
    | int j =>
      have ho : (if 0 < j then some (PyData.int (i % j)) else none) = some c := ho
      by_cases hc : 0 < j
      · rw [if_pos hc] at ho; cases ho; exact ⟨i, j, rfl, rfl, hc, Post.done R h (.int _)⟩
      · rw [if_neg hc] at ho; cases ho
    | _ => cases ho
  | _ => cases ho
theorem od_pow : OpD X E (rI CPow fun i j => .int (i ^ j.toNat)) oPow := by
  intro σ G H ρ x y d e c Q R hx hy ho h
  cases hx with
  | int i =>
    cases hy with
    | int j =>
      have ho : (if CPow i j then some (PyData.int (i ^ j.toNat)) else none) = some c := ho
      by_cases hc : CPow i j
      · rw [if_pos hc] at ho; cases ho; exact ⟨i, j, rfl, rfl, hc, Post.done R h (.int _)⟩
      · rw [if_neg hc] at ho; cases ho
    | _ => cases ho
  | _ => cases ho
theorem ud_neg : UnD X E (rU fun i => .int (-i)) oNeg := by
  intro σ G H ρ x d c Q R hx ho h
  cases hx with
  | int i => cases ho; exact ⟨i, rfl, Post.done R h (.int _)⟩
  | _ => cases ho
theorem od_eq : OpD X E (rEqD X.K) oEq := by
  intro σ G H ρ x y d e c Q R hx hy ho h
  unfold oEq okEq at ho
  by_cases hc : SeqAt.shaped d = true ∧ SeqAt.shaped e = true
  · rw [if_pos hc] at ho
    cases ho
    exact ⟨d, e, Rp.toDp (Rp.mono R.gh hx) (SeqAt.canLay_of_shaped hc.1), Rp.toDp (Rp.mono R.gh hy) (SeqAt.canLay_of_shaped hc.2), hc.1, hc.2, Post.done R h (.bl _)⟩
  · rw [if_neg hc] at ho; cases ho
theorem od_ne : OpD X E (rNeD X.K) oNe := by
  intro σ G H ρ x y d e c Q R hx hy ho h
  unfold oNe okEq at ho
  by_cases hc : SeqAt.shaped d = true ∧ SeqAt.shaped e = true
  · rw [if_pos hc] at ho
    cases ho
    exact ⟨d, e, Rp.toDp (Rp.mono R.gh hx) (SeqAt.canLay_of_shaped hc.1), Rp.toDp (Rp.mono R.gh hy) (SeqAt.canLay_of_shaped hc.2), hc.1, hc.2, Post.done R h (.bl _)⟩
  · rw [if_neg hc] at ho; cases ho
theorem rpInts_of {K : PySem.W.Frag} {G : Hp} : ∀ {vs : List V} {ds : List PyData} {ns : List Int}, RpAll K G vs ds → unInts ds = some ns → vs = ns.map V.int
  | _, _, ns, .nil, h => by cases h; rfl
  | _, _, ns, .cons h1 t, h => by
    cases h1 with
    | int i =>
      have h : (unInts _).map (i :: ·) = some ns := h
      cases q : unInts _ with
      | none => rw [q] at h; cases h
      | some ms => rw [q] at h; cases h; rw [rpInts_of t q]; rfl
    | _ => cases h
def rLtA (K : PySem.W.Frag) : R2 := fun x y H Q => rI0 (fun i j => .bl (decide (i < j))) x y H Q ∨ rLtT K x y H Q
theorem ho_lt (hu : X.A.units < cLine) : OpR X (compareOp .Lt) (rLtA X.K) := op_lt.or (op_ltT hu)
theorem od_lt : OpD X E (rLtA X.K) oLt := by
  intro σ G H ρ x y d e c Q R hx hy ho h
  cases hx with
  | int i =>
    cases hy with
    | int j => cases ho; exact .inl ⟨i, j, rfl, rfl, Post.done R h (.bl _)⟩
    | _ => cases ho
  | @tup a vs ds h1 h2 =>
    cases hy with
    | @tup b ws es k1 k2 =>
      have ho : (match unInts ds, unInts es with
        | some ns, some ms => some (PyData.bool (HT.lexLt ns ms))
        | _, _ => none) = some c := ho
      cases q1 : unInts ds with
      | none => rw [q1] at ho; cases ho
      | some ns =>
        cases q2 : unInts es with
        | none => rw [q1, q2] at ho; cases ho
        | some ms =>
          rw [q1, q2] at ho
          cases ho
          have e1 := rpInts_of h2 q1
          have e2 := rpInts_of k2 q2
          subst e1 e2
          exact .inr ⟨a, b, ns, ms, rfl, rfl, Same.seqT R.gh h1, Same.seqT R.gh k1, Post.done R h (.bl _)⟩
    | _ => cases ho
  | _ => cases ho
theorem od_le : OpD X E (rI0 fun i j => .bl (decide (i ≤ j))) oLe := by
  intro σ G H ρ x y d e c Q R hx hy ho h
  cases hx with
  | int i =>
    cases hy with
    | int j => cases ho; exact ⟨i, j, rfl, rfl, Post.done R h (.bl _)⟩
    | _ => cases ho
  | _ => cases ho
theorem od_gt : OpD X E (rI0 fun i j => .bl (decide (j < i))) oGt := by
  intro σ G H ρ x y d e c Q R hx hy ho h
  cases hx with
  | int i =>
    cases hy with
    | int j => cases ho; exact ⟨i, j, rfl, rfl, Post.done R h (.bl _)⟩
    | _ => cases ho
  | _ => cases ho
theorem od_ge : OpD X E (rI0 fun i j => .bl (decide (j ≤ i))) oGe := by
  intro σ G H ρ x y d e c Q R hx hy ho h
  cases hx with
  | int i =>
    cases hy with
    | int j => cases ho; exact ⟨i, j, rfl, rfl, Post.done R h (.bl _)⟩
    | _ => cases ho
  | _ => cases ho
theorem rpNon {K : PySem.W.Frag} {G : Hp} {v : V} {d : PyData} (h : Rp K G v d) : decide (v = .non) = isNone d := by cases h <;> rfl
theorem rpNon' {K : PySem.W.Frag} {G : Hp} {v : V} {d : PyData} (h : Rp K G v d) (e : isNone d = true) : v = .non := by cases h <;> first | rfl | cases e
theorem od_isN : OpD X E (fun x y H Q => y = .non ∧ Q (.bl (decide (x = .non))) H) oIsN := by
  intro σ G H ρ x y d e c Q R hx hy ho h
  unfold oIsN at ho
  by_cases hc : isNone e = true
  · rw [if_pos hc] at ho; cases ho; exact ⟨rpNon' hy hc, Post.done R h (by rw [rpNon hx]; exact .bl _)⟩
  · rw [if_neg hc] at ho; cases ho
theorem od_notN : OpD X E (fun x y H Q => y = .non ∧ Q (.bl (!decide (x = .non))) H) oNotN := by
  intro σ G H ρ x y d e c Q R hx hy ho h
  unfold oNotN at ho
  by_cases hc : isNone e = true
  · rw [if_pos hc] at ho; cases ho; exact ⟨rpNon' hy hc, Post.done R h (by rw [rpNon hx]; exact .bl _)⟩
  · rw [if_neg hc] at ho; cases ho
def rInA (K : PySem.W.Frag) : R2 := fun x y H Q => rInD K x y H Q ∨ rIn K false x y H Q
def rNotInA (K : PySem.W.Frag) : R2 := fun x y H Q => rNotInD K x y H Q ∨ rIn K true x y H Q
theorem ho_in (hu : X.A.units + 65 < cLine) : OpR X (compareOp .In) (rInA X.K) := (op_inD hu).or op_in_seq
theorem ho_notIn (hu : X.A.units + 65 < cLine) : OpR X (compareOp .NotIn) (rNotInA X.K) := (op_notInD hu).or op_notIn_seq
theorem od_in : OpD X E (rInA X.K) oIn := by
  intro σ G H ρ x y d e c Q R hx hy ho h
  cases hy with
  | @lst a vs ds h1 h2 =>
    have ho : (if okEq d = true ∧ okEq (.list ds) = true then some (PyData.bool (ds.any fun z => PyData.eqv z d)) else none) = some c := ho
    by_cases hc : okEq d = true ∧ okEq (.list ds) = true
    · rw [if_pos hc] at ho
      cases ho
      exact .inl ⟨d, ds, Rp.toDp (Rp.mono R.gh hx) (SeqAt.canLay_of_shaped hc.1), Rp.toDp (Rp.mono R.gh (.lst h1 h2)) (SeqAt.canLay_of_shaped hc.2), hc.1, hc.2, Post.done R h (.bl _)⟩
    · rw [if_neg hc] at ho; cases ho
  | @tup a vs ds h1 h2 =>
    have ho : (if flatD d = true ∧ ds.all flatD = true then some (PyData.bool (ds.any fun z => PyData.eqv z d)) else none) = some c := ho
    by_cases hc : flatD d = true ∧ ds.all flatD = true
    · rw [if_pos hc] at ho
      cases ho
      exact .inr ⟨a, vs, rfl, .inr (Same.seqT R.gh h1), rpFlat hx hc.1, rpFlatAll h2 hc.2, Post.done R h (by rw [if_neg Bool.false_ne_true, inV_any hx hc.1 h2 hc.2]; exact .bl _)⟩
    · rw [if_neg hc] at ho; cases ho
  | _ => cases ho
theorem od_notIn : OpD X E (rNotInA X.K) oNotIn := by
  intro σ G H ρ x y d e c Q R hx hy ho h
  cases hy with
  | @lst a vs ds h1 h2 =>
    have ho : (if okEq d = true ∧ okEq (.list ds) = true then some (PyData.bool (!ds.any fun z => PyData.eqv z d)) else none) = some c := ho
    by_cases hc : okEq d = true ∧ okEq (.list ds) = true
    · rw [if_pos hc] at ho
      cases ho
      exact .inl ⟨d, ds, Rp.toDp (Rp.mono R.gh hx) (SeqAt.canLay_of_shaped hc.1), Rp.toDp (Rp.mono R.gh (.lst h1 h2)) (SeqAt.canLay_of_shaped hc.2), hc.1, hc.2, Post.done R h (.bl _)⟩
    · rw [if_neg hc] at ho; cases ho
  | @tup a vs ds h1 h2 =>
    have ho : (if flatD d = true ∧ ds.all flatD = true then some (PyData.bool (!ds.any fun z => PyData.eqv z d)) else none) = some c := ho
    by_cases hc : flatD d = true ∧ ds.all flatD = true
    · rw [if_pos hc] at ho
      cases ho
      exact .inr ⟨a, vs, rfl, .inr (Same.seqT R.gh h1), rpFlat hx hc.1, rpFlatAll h2 hc.2, Post.done R h (by rw [if_pos rfl, inV_any hx hc.1 h2 hc.2]; exact .bl _)⟩
    · rw [if_neg hc] at ho; cases ho
  | _ => cases ho
def rIxA (K : PySem.W.Frag) : R2 := fun x y H Q => rIxL K x y H Q ∨ rIxT K x y H Q
theorem ho_ix : IxR X (rIxA X.K) := ix_list.or ix_tup
theorem od_ix : OpD X E (rIxA X.K) oIx := by
  intro σ G H ρ x y d e c Q R hx hy ho h
  cases hy with
  | int k =>
    cases hx with
    | @lst a vs ds h1 h2 =>
      obtain ⟨v, g1, g2⟩ := at_rp h2 (show atI ds k = some c from ho)
      exact .inl ⟨a, vs, k, v, rfl, rfl, SqL.of (R.gh _ _ h1), g1, Post.done R h g2⟩
    | @tup a vs ds h1 h2 =>
      obtain ⟨v, g1, g2⟩ := at_rp h2 (show atI ds k = some c from ho)
      exact .inr ⟨a, vs, k, v, rfl, rfl, Same.seqT R.gh h1, g1, Post.done R h g2⟩
    | _ => cases ho
  | _ => cases hx <;> cases ho
/-! ### calls of builtins -/
theorem rpAll1 {K : PySem.W.Frag} {G : Hp} {vs : List V} {d : PyData} (h : RpAll K G vs [d]) : ∃ v, vs = [v] ∧ Rp K G v d := by
  cases h with
  | cons h t => cases t; exact ⟨_, rfl, h⟩
theorem rpAll2 {K : PySem.W.Frag} {G : Hp} {vs : List V} {d e : PyData} (h : RpAll K G vs [d, e]) : ∃ v w, vs = [v, w] ∧ Rp K G v d ∧ Rp K G w e := by
  cases h with
  | cons h t => obtain ⟨w, rfl, q⟩ := rpAll1 t; exact ⟨_, w, rfl, h, q⟩
theorem cd_int : CaD X E (fun xs H Q => (∃ i, xs = [.int i] ∧ Q (.int i) H) ∨ ∃ k, xs = [.bl k] ∧ Q (.int (if k then 1 else 0)) H) oInt := by
  intro σ G H ρ xs ds c Q R hx ho h
  unfold oInt at ho
  split at ho
  · cases ho; obtain ⟨v, rfl, q⟩ := rpAll1 hx; cases q; exact .inl ⟨_, rfl, Post.done R h (.int _)⟩
  · cases ho; obtain ⟨v, rfl, q⟩ := rpAll1 hx; cases q; exact .inr ⟨_, rfl, Post.done R h (.int _)⟩
  · cases ho
theorem cd_max2 : CaD X E (fun xs H Q => ∃ i j, xs = [.int i, .int j] ∧ Q (.int (if j > i then j else i)) H) oMax2 := by
  intro σ G H ρ xs ds c Q R hx ho h
  unfold oMax2 at ho
  split at ho
  · cases ho; obtain ⟨v, w, rfl, q1, q2⟩ := rpAll2 hx; cases q1; cases q2; exact ⟨_, _, rfl, Post.done R h (.int _)⟩
  · cases ho
theorem cd_min2 : CaD X E (fun xs H Q => ∃ i j, xs = [.int i, .int j] ∧ Q (.int (if j < i then j else i)) H) oMin2 := by
  intro σ G H ρ xs ds c Q R hx ho h
  unfold oMin2 at ho
  split at ho
  · cases ho; obtain ⟨v, w, rfl, q1, q2⟩ := rpAll2 hx; cases q1; cases q2; exact ⟨_, _, rfl, Post.done R h (.int _)⟩
  · cases ho
theorem rpBools_of {K : PySem.W.Frag} {G : Hp} : ∀ {vs : List V} {ds : List PyData} {ns : List Bool}, RpAll K G vs ds → unBools ds = some ns → vs = ns.map V.bl
  | _, _, ns, .nil, h => by cases h; rfl
  | _, _, ns, .cons h1 t, h => by
    cases h1 with
    | bl i =>
      have h : (unBools _).map (i :: ·) = some ns := h
      cases q : unBools _ with
      | none => rw [q] at h; cases h
      | some ms => rw [q] at h; cases h; rw [rpBools_of t q]; rfl
    | _ => cases h
theorem cd_all : CaD X E (rAll X.K) oAll := by
  intro σ G H ρ xs ds c Q R hx ho h
  unfold oAll at ho
  split at ho
  · rename_i ds
    cases q : unBools ds with
    | none => rw [q] at ho; cases ho
    | some bs =>
      rw [q] at ho
      cases ho
      obtain ⟨v, rfl, q1⟩ := rpAll1 hx
      cases q1 with
      | lst h1 h2 =>
        have e := rpBools_of h2 q
        subst e
        exact ⟨_, bs, rfl, SqL.of (R.gh _ _ h1), Post.done R h (.bl _)⟩
  · cases ho
theorem cd_any : CaD X E (rAny X.K) oAny := by
  intro σ G H ρ xs ds c Q R hx ho h
  unfold oAny at ho
  split at ho
  · rename_i ds
    cases q : unBools ds with
    | none => rw [q] at ho; cases ho
    | some bs =>
      rw [q] at ho
      cases ho
      obtain ⟨v, rfl, q1⟩ := rpAll1 hx
      cases q1 with
      | lst h1 h2 =>
        have e := rpBools_of h2 q
        subst e
        exact ⟨_, bs, rfl, SqL.of (R.gh _ _ h1), Post.done R h (.bl _)⟩
  · cases ho
theorem rpTy {K : PySem.W.Frag} {G H : Hp} (s : Same G H) {v : V} {d : PyData} (h : Rp K G v d) (hd : ∀ kvs, d ≠ .dict kvs) : TyX K H v (.type (tyOf d)) := by
  cases h with
  | non => exact .base .non
  | bl b => exact .base (.bl b)
  | int i => exact .base (.int i)
  | str x => exact .base (.str x)
  | lst h1 h2 => exact .base (.lst (s _ _ h1))
  | tup h1 h2 =>
    rcases h1 with (h1 | ⟨o, h1⟩) | ⟨o, its, n, h1, hc, _⟩
    · exact .base (.tup (s _ _ h1))
    · exact .fTuple (s _ _ h1)
    · exact .kTuple h1 hc
  | scr h1 => exact absurd rfl (hd _)
  | dic _ _ _ => exact absurd rfl (hd _)
end
section
variable {X : Cx} {E : WX} {a b : Expr} {es : List Expr} {fa fb : DEnv → Res PyData} {fs : DEnv → Res (List PyData)} {pos p q1 : Pos} {x : Str} {id T : String} {r : List V → Hp → VK → Prop} {o : List PyData → Option PyData}
theorem e_callB (hc : CallR X (.builtin id) r) (hd : CaD X E r o) (hg : Gl X x) (hm : X.mg x = none) (hv : bootBuiltins x = some (.builtin id)) (ha : AJ X E (a :: es) fs) (hn : x ≠ "__name__" := by decide) (hdb : (x == ("__debug__" : Str)) = false := by decide)
    (he : starEach (a :: es) X.env = (false, eval a X.env) :: starEach es X.env := by rfl) (hpl : (backTo pos (starEach es X.env)).any (·.1) = false := by rfl) : EJ X E (.Call (.Name x p) (a :: es) [] pos) (dCall o fs) := by
  obtain ⟨_, t, q, p⟩ := ha
  refine ⟨_, pe_callB hc hg hm hv q hn hdb he hpl, fun σ G H ρ Q R h => p σ G H ρ _ R (Post.bind h fun G1 H1 xs ds ρ1 R1 S1 hx h1 => ?_)⟩
  cases z : o ds with
  | none => rw [z] at h1; exact h1.elim
  | some c => rw [z] at h1; exact hd σ G1 H1 ρ1 xs ds c Q R1 hx z h1
theorem e_callT (hc : CallR X (.type T) r) (hd : CaD X E r o) (hg : Gl X x) (hm : X.mg x = none) (hv : bootBuiltins x = some (.type T)) (ha : AJ X E (a :: es) fs) (hn : x ≠ "__name__" := by decide) (hdb : (x == ("__debug__" : Str)) = false := by decide)
    (he : starEach (a :: es) X.env = (false, eval a X.env) :: starEach es X.env := by rfl) (hpl : (backTo pos (starEach es X.env)).any (·.1) = false := by rfl) : EJ X E (.Call (.Name x p) (a :: es) [] pos) (dCall o fs) := by
  obtain ⟨_, t, q, p⟩ := ha
  refine ⟨_, pe_callTy hc hg hm hv q hn hdb he hpl, fun σ G H ρ Q R h => p σ G H ρ _ R (Post.bind h fun G1 H1 xs ds ρ1 R1 S1 hx h1 => ?_)⟩
  cases z : o ds with
  | none => rw [z] at h1; exact h1.elim
  | some c => rw [z] at h1; exact hd σ G1 H1 ρ1 xs ds c Q R1 hx z h1
/-- isinstance(a, T), T a built-in class -/
theorem e_isi (ha : EJ X E a fa) (hb : PE X b (tC (.ty T))) (hg : Gl X "isinstance") (hm : X.mg "isinstance" = none) (hs : ∀ te u, PE X a te → PA X [b] u → PA X [a, b] (tCons te u)) (hs2 : starEach [b] X.env = (false, eval b X.env) :: starEach [] X.env := by rfl)
    (he : starEach [a, b] X.env = (false, eval a X.env) :: starEach [b] X.env := by rfl) (hpl : (backTo pos (starEach [b] X.env)).any (·.1) = false := by rfl) : EJ X E (.Call (.Name "isinstance" p) [a, b] [] pos) (dUn (oIsi T) fa) := by
  obtain ⟨t, q, p⟩ := ha
  refine ⟨_, pe_callB call_isi hg hm (by decide +kernel) (hs _ _ q (pa_cons hb pa_nil hs2)) (he := he) (hpl := hpl), fun σ G H ρ Q R h => p σ G H ρ _ R (Post.bind h fun G1 H1 v d ρ1 R1 S1 hx h1 => ?_)⟩
  have nd : ∀ kvs, d = .dict kvs → False := fun kvs e => by subst e; exact h1
  show ∃ (x c : V) (t u : Value) (b : Bool), [v, .ty T] = [x, c] ∧ ClsV c u ∧ TyX X.K H1 x t ∧ PySem.W.kitOne X.K t u = some b ∧ Q (.bl b) H1
  have h1 : EPost X E σ G1 H1 ρ1 Q (Res.of ((kitB (tyOf d) T).map .bool) ρ1) := by
    cases d with
    | dict kvs => exact (nd kvs rfl).elim
    | _ => exact h1
  cases z : kitB (tyOf d) T with
  | none => rw [z] at h1; exact h1.elim
  | some k =>
    rw [z] at h1
    exact ⟨v, .ty T, _, .type T, k, rfl, .ty T, rpTy R1.gh hx fun kvs e => nd kvs e, kit_ty z, Post.done R1 h1 (.bl k)⟩
/-! ### chains of comparisons -/
theorem e_chain {op op' : CmpOp} {r r' : R2} {o o' : PyData → PyData → Option PyData} {c : Expr} {fc : DEnv → Res PyData} (hd : OpD X E r o) (hd' : OpD X E r' o') (ha : EJ X E a fa) (hb : EJ X E b fb) (hc : EJ X E c fc)
    (hp : ∀ ta tb tc, PE X a ta → PE X b tb → PE X c tc → PE X (.Compare a [op, op'] [b, c] pos) (tChain r r' ta tb tc)) : EJ X E (.Compare a [op, op'] [b, c] pos) (dChain o o' fa fb fc) := by
  obtain ⟨ta, qa, pa⟩ := ha
  obtain ⟨tb, qb, pb⟩ := hb
  obtain ⟨tc, qc, pc⟩ := hc
  refine ⟨_, hp _ _ _ qa qb qc, fun σ G H ρ Q R h => pa σ G H ρ _ R (Post.bind h fun G1 H1 x d ρ1 R1 S1 hx h1 => pb σ G1 H1 ρ1 _ R1 (Post.bind h1 fun G2 H2 y e ρ2 R2 S2 hy h2 => ?_))⟩
  cases z : o d e with
  | none => simp only [z] at h2; exact h2.elim
  | some w =>
    cases w with
    | bool k =>
      simp only [z] at h2
      refine hd σ G2 H2 ρ2 x y d e (.bool k) _ R2 (Rp.mono S2.same hx) hy z fun G3 H3 v R3 S3 hv => ?_
      cases hv
      refine ⟨k, rfl, ?_⟩
      cases k with
      | false =>
        rw [if_neg Bool.false_ne_true] at h2
        exact iteF (Post.done R3 (Post.from S3 h2) (.bl false))
      | true =>
        rw [if_pos rfl] at h2
        refine iteT (pc σ G3 H3 ρ2 _ R3 (Post.bind (Post.from S3 h2) fun G4 H4 w f ρ3 R4 S4 hw h3 => ?_))
        cases z2 : o' e f with
        | none => rw [z2] at h3; exact h3.elim
        | some g => rw [z2] at h3; exact hd' σ G4 H4 ρ3 y w e f g Q R4 (Rp.mono S4.same (Rp.mono S3.same hy)) hw z2 h3
    | _ => simp only [z] at h2; exact h2.elim
end
/-! ### slices -/
def cutD (xs : List PyData) (lo hi : Option Int) : List PyData := (xs.drop (HT.sIx xs.length 0 lo)).take (HT.sIx xs.length xs.length hi - HT.sIx xs.length 0 lo)
def oNoPart : DEnv → Res (Option Int) := fun ρ => .ok none ρ
def oPart (f : DEnv → Res PyData) : DEnv → Res (Option Int) := fun ρ => (f ρ).bind fun d ρ1 => match d with
  | .int i => .ok (some i) ρ1
  | _ => .bad
structure OJ (X : Cx) (E : WX) (e : Option Expr) (f : DEnv → Res (Option Int)) : Prop where
  ex : ∃ t : TO, PO X e t ∧ ∀ (σ : St) (G H : Hp) (ρ : DEnv) (Q : Option Int → Hp → Prop), Rel X.K G σ H ρ → Post X.K X.mg E (fun _ b c => b = c) σ G H ρ Q (f ρ) → t σ H Q
def slOf (d : PyData) (lo hi : Option Int) : Option PyData := match d with
  | .list ds => some (.list (cutD ds lo hi))
  | .tuple ds => some (.tuple (cutD ds lo hi))
  | _ => none
def dSl (f : DEnv → Res PyData) (l u : DEnv → Res (Option Int)) : DEnv → Res PyData := fun ρ => (f ρ).bind fun d ρ1 => (l ρ1).bind fun lo ρ2 => (u ρ2).bind fun hi ρ3 => Res.of (slOf d lo hi) ρ3
theorem cutV_rp {K : PySem.W.Frag} {G : Hp} {vs : List V} {ds : List PyData} (h : RpAll K G vs ds) (lo hi : Option Int) : RpAll K G (cutV vs lo hi) (cutD ds lo hi) := by
  unfold cutV cutD
  rw [RpAll.len h]
  exact RpAll.take _ (RpAll.drop _ h)
section
variable {X : Cx} {E : WX} {a : Expr} {fa : DEnv → Res PyData} {lo hi : Option Expr} {fl fu : DEnv → Res (Option Int)} {pos p2 : Pos}
theorem o_none : OJ X E none oNoPart := ⟨_, po_none, fun σ G H ρ Q R h => Post.done R h rfl⟩
theorem o_some (h : EJ X E a fa) : OJ X E (some a) (oPart fa) := by
  obtain ⟨t, q, p⟩ := h
  refine ⟨_, po_some q, fun σ G H ρ Q R h => p σ G H ρ _ R (Post.bind h fun G1 H1 v d ρ1 R1 S1 hx h1 => ?_)⟩
  cases hx with
  | int i => exact ⟨i, rfl, Post.done R1 h1 rfl⟩
  | _ => exact h1.elim
def rSlAny (K : PySem.W.Frag) : V → Option Int → Option Int → Hp → VK → Prop := fun x lo hi H Q => rSlA K x lo hi H Q ∨ rSlL K x lo hi H Q
theorem hs_any : SlR X (rSlAny X.K) := sl_tupA.or sl_list
theorem e_sl (ha : EJ X E a fa) (hl : OJ X E lo fl) (hu : OJ X E hi fu) : EJ X E (.Subscript a (.Slice lo hi none p2) pos) (dSl fa fl fu) := by
  obtain ⟨ta, qa, pa⟩ := ha
  obtain ⟨tl, ql, pl⟩ := hl
  obtain ⟨tu, qu, pu⟩ := hu
  refine ⟨_, pe_slice hs_any qa ql qu, fun σ G H ρ Q R h => pa σ G H ρ _ R (Post.bind h fun G1 H1 x d ρ1 R1 S1 hx h1 => pl σ G1 H1 ρ1 _ R1 (Post.bind h1 fun G2 H2 l l' ρ2 R2 S2 e2 h2 => pu σ G2 H2 ρ2 _ R2 (Post.bind h2 fun G3 H3 u u' ρ3 R3 S3 e3 h3 => ?_)))⟩
  subst e2 e3
  have hx3 := Rp.mono S3.same (Rp.mono S2.same hx)
  cases hx3 with
  | @lst b vs ds h4 h5 => exact .inr ⟨b, vs, rfl, SqL.of (R3.gh _ _ h4), fun p hp => Post.new R3 h3 hp (.lst upd_same (RpAll.mono (same_upd (R3.noneG hp)) (cutV_rp h5 l u)))⟩
  | @tup b vs ds h4 h5 =>
    refine .inl ⟨b, vs, rfl, Same.seqT R3.gh h4, fun hw => ?_, fun _ p hp => Post.new R3 h3 hp (.tup (SqT.of upd_same) (RpAll.mono (same_upd (R3.noneG hp)) (cutV_rp h5 l u)))⟩
    refine Post.done R3 h3 (.tup h4 ?_)
    have hl := RpAll.len h5
    have e : cutD ds l u = ds := by
      unfold cutD
      rw [← hl, hw.1, hw.2, Nat.sub_zero, List.drop_zero]
      exact List.take_of_length_le (by omega)
    rw [e]
    exact h5
  | _ => exact h3.elim
end
end DL

set_option Elab.async false
set_option linter.all false
set_option maxRecDepth 100000
set_option maxHeartbeats 4000000
/-! DL part 8: names of lists, ranges kept, index, op=. -/
namespace DL
open PySem PySem.Spec PyProof.Rows L2

/-- what a name's slot holds, held or not -/
def nameD (i : Nat) (ρ : DEnv) : Option PyData := match ρ[i]? with
  | some (.val d) => some d
  | some (.own (.lst ds)) => some (.list ds)
  | some (.io (.lst ds)) => some (.list ds)
  | _ => none
/-- as Rp, but a held list stands in H alone -/
inductive Rh (K : PySem.W.Frag) (G H : Hp) : V → PyData → Prop where
  | rp {v : V} {d : PyData} : Rp K G v d → Rh K G H v d
  | held {p : Addr} {vs : List V} {ds : List PyData} : H p = some (.lst vs) → RpAll K G vs ds → Rh K G H (.ref p) (.list ds)
theorem Rel.name {K : PySem.W.Frag} {G H : Hp} {σ : St} {ρ : DEnv} {i : Nat} {d : PyData} (R : Rel K G σ H ρ) (h : nameD i ρ = some d) : ∃ v, σ[i]? = some (some v) ∧ Rh K G H v d := by
  unfold nameD at h
  cases q : ρ[i]? with
  | none => rw [q] at h; cases h
  | some cl =>
    rw [q] at h
    obtain ⟨v0, e0, q0⟩ := R.cell i cl q
    cases cl with
    | un => cases h
    | val d => cases h; obtain ⟨x, rfl, hx⟩ := q0; exact ⟨x, e0, .rp hx⟩
    | own o =>
      cases o with
      | dk _ => cases h
      | dt _ => cases h
      | ins _ _ => cases h
      | dn _ => cases h
      | ts _ _ _ => cases h
      | lst ds => cases h; obtain ⟨b, rfl, _, vs, h1, h2⟩ := q0; exact ⟨_, e0, .held h1 h2⟩
    | io o =>
      cases o with
      | dk _ => cases h
      | dt _ => cases h
      | ins _ _ => cases h
      | dn _ => cases h
      | ts _ _ _ => cases h
      | lst ds => cases h; obtain ⟨b, rfl, _, vs, h1, h2⟩ := q0; exact ⟨_, e0, .held h1 h2⟩
theorem Rh.seq {K : PySem.W.Frag} {G H : Hp} {v : V} {d : PyData} {kd : LK × List PyData} (s : Same G H) (h : Rh K G H v d) (e : seqOf d = some kd) : ∃ p vs, v = .ref p ∧ SqX K G H p vs kd.1 ∧ RpAll K G vs kd.2 := by
  cases h with
  | rp h => obtain ⟨p, vs, h1, h2, h3⟩ := Rp.seq h e; exact ⟨p, vs, h1, h2.toX s, h3⟩
  | held h1 h2 => cases e; exact ⟨_, _, rfl, SqL.of h1, h2⟩
theorem Rh.toDp {K : PySem.W.Frag} {G H : Hp} {v : V} {d : PyData} (s : Same G H) (h : Rh K G H v d) (c : d.canLay0 = true) : Dp K H v d := by
  cases h with
  | rp h => exact Rp.toDp (Rp.mono s h) c
  | held h1 h2 => exact .lst (SqL.of h1) (RpAll.toDp (RpAll.mono s h2) c)
def lName (i : Nat) : DEnv → Res (LK × List PyData) := fun ρ => Res.of ((nameD i ρ).bind seqOf) ρ
def dIxN (i : Nat) (f : DEnv → Res PyData) : DEnv → Res PyData := fun ρ => if (nameD i ρ).isSome = true then (f ρ).bind fun k ρ1 => Res.of ((nameD i ρ1).bind fun d => oIx d k) ρ1 else .bad
def dInN (op : PyData → PyData → Option PyData) (i : Nat) (f : DEnv → Res PyData) : DEnv → Res PyData := fun ρ => (f ρ).bind fun d ρ1 => Res.of ((nameD i ρ1).bind fun s => op d s) ρ1
def idxOf (ds : List PyData) (d : PyData) : Option PyData := (ds.findIdx? fun z => PyData.eqv z d).map fun (j : Nat) => PyData.int (j : Int)
def oIndex (d e : PyData) : Option PyData := match d with
  | .list ds => if okEq (.list ds) = true ∧ okEq e = true then idxOf ds e else none
  | _ => none
def isLst : Option PyData → Bool
  | some (.list _) => true
  | _ => false
def dIndexN (i : Nat) (f : DEnv → Res PyData) : DEnv → Res PyData := fun ρ => if isLst (nameD i ρ) = true then (f ρ).bind fun k ρ1 => Res.of ((nameD i ρ1).bind fun d => oIndex d k) ρ1 else .bad
section
variable {X : Cx} {E : WX} {a b : Expr} {es : List Expr} {fa fb : DEnv → Res PyData} {fs : DEnv → Res (List PyData)} {pos p px : Pos} {x : Str}
theorem l_name (i : Nat) (h : PE X (.Name x pos) (tVar i)) : LJ X E (.Name x pos) (lName i) := by
  refine ⟨_, h, fun σ G H ρ Q R h => ?_⟩
  unfold lName at h
  cases q : nameD i ρ with
  | none => rw [q] at h; exact h.elim
  | some d =>
    rw [q] at h
    cases s : seqOf d with
    | none => rw [Option.bind_some, s] at h; exact h.elim
    | some kd =>
      rw [Option.bind_some, s] at h
      obtain ⟨v, e0, hv⟩ := R.name q
      obtain ⟨b, vs, rfl, h1, h2⟩ := hv.seq R.gh s
      exact ⟨.ref b, e0, h G H b vs R Stp.refl h1 h2⟩
/-- the name's value is the same ahead of and behind another expression -/
theorem name_same {K : PySem.W.Frag} {G H : Hp} {σ : St} {ρ : DEnv} {i : Nat} {d : PyData} {v : V} (R : Rel K G σ H ρ) (hv : σ[i]? = some (some v)) (h : nameD i ρ = some d) : Rh K G H v d := by
  obtain ⟨w, e0, hw⟩ := R.name h
  rw [hv] at e0
  cases e0
  exact hw
theorem e_ixN (i : Nat) (hx : PE X (.Name x px) (tVar i)) (ha : EJ X E a fa) (hs : PlainIx a) : EJ X E (.Subscript (.Name x px) a pos) (dIxN i fa) := by
  obtain ⟨t, q, p⟩ := ha
  refine ⟨_, pe_ix ho_ix hx q hs, fun σ G H ρ Q R h => ?_⟩
  unfold dIxN at h
  cases q0 : nameD i ρ with
  | none => rw [q0] at h; exact h.elim
  | some d0 =>
    rw [q0] at h
    obtain ⟨v, e0, _⟩ := R.name q0
    refine ⟨v, e0, p σ G H ρ _ R (Post.bind h fun G1 H1 y k ρ1 R1 S1 hy h1 => ?_)⟩
    cases q1 : nameD i ρ1 with
    | none => rw [q1] at h1; exact h1.elim
    | some d =>
      rw [q1, Option.bind_some] at h1
      cases q2 : oIx d k with
      | none => rw [q2] at h1; exact h1.elim
      | some c =>
        rw [q2] at h1
        have hv := name_same R1 e0 q1
        cases hv with
        | rp hv => exact od_ix (E := E) σ G1 H1 ρ1 v y d k c Q R1 hv hy q2 h1
        | @held b vs ds g1 g2 =>
          cases hy with
          | int k =>
            obtain ⟨w, w1, w2⟩ := at_rp g2 (show atI ds k = some c from q2)
            exact .inl ⟨b, vs, k, w, rfl, rfl, SqL.of g1, w1, Post.done R1 h1 w2⟩
          | _ => cases q2
theorem in_read {r : R2} {op : PyData → PyData → Option PyData} {ta : TE} {σ : St} {G H : Hp} {ρ : DEnv} {Q : VK} (i : Nat) (pa : ∀ σ G H ρ Q, Rel X.K G σ H ρ → EPost X E σ G H ρ Q (fa ρ) → ta σ H Q)
    (hop : ∀ (σ : St) (G H : Hp) (ρ : DEnv) (y v : V) (d s c : PyData) (Q : VK), Rel X.K G σ H ρ → Rp X.K G y d → Rh X.K G H v s → op d s = some c → EPost X E σ G H ρ Q (.ok c ρ) → r y v H Q)
    (R : Rel X.K G σ H ρ) (h : EPost X E σ G H ρ Q (dInN op i fa ρ)) : tOp r ta (tVar i) σ H Q := by
  refine pa σ G H ρ _ R (Post.bind h fun G1 H1 y d ρ1 R1 S1 hy h1 => ?_)
  cases q1 : nameD i ρ1 with
  | none => rw [q1] at h1; exact h1.elim
  | some s =>
    rw [q1, Option.bind_some] at h1
    obtain ⟨v, e0, hv⟩ := R1.name q1
    refine ⟨v, e0, ?_⟩
    cases q2 : op d s with
    | none => rw [q2] at h1; exact h1.elim
    | some c => rw [q2] at h1; exact hop σ G1 H1 ρ1 y v d s c Q R1 hy hv q2 h1
theorem in_hop : ∀ (σ : St) (G H : Hp) (ρ : DEnv) (y v : V) (d s c : PyData) (Q : VK), Rel X.K G σ H ρ → Rp X.K G y d → Rh X.K G H v s → oIn d s = some c → EPost X E σ G H ρ Q (.ok c ρ) → rInA X.K y v H Q := by
  intro σ G H ρ y v d s c Q R hy hv q2 h
  cases hv with
  | rp hv => exact od_in (E := E) σ G H ρ y v d s c Q R hy hv q2 h
  | @held b vs ds g1 g2 =>
    have q2 : (if okEq d = true ∧ okEq (.list ds) = true then some (PyData.bool (ds.any fun z => PyData.eqv z d)) else none) = some c := q2
    by_cases hc : okEq d = true ∧ okEq (.list ds) = true
    · rw [if_pos hc] at q2
      cases q2
      exact .inl ⟨d, ds, Rp.toDp (Rp.mono R.gh hy) (SeqAt.canLay_of_shaped hc.1), Rh.toDp R.gh (.held g1 g2) (SeqAt.canLay_of_shaped hc.2), hc.1, hc.2, Post.done R h (.bl _)⟩
    · rw [if_neg hc] at q2; cases q2
theorem notIn_hop : ∀ (σ : St) (G H : Hp) (ρ : DEnv) (y v : V) (d s c : PyData) (Q : VK), Rel X.K G σ H ρ → Rp X.K G y d → Rh X.K G H v s → oNotIn d s = some c → EPost X E σ G H ρ Q (.ok c ρ) → rNotInA X.K y v H Q := by
  intro σ G H ρ y v d s c Q R hy hv q2 h
  cases hv with
  | rp hv => exact od_notIn (E := E) σ G H ρ y v d s c Q R hy hv q2 h
  | @held b vs ds g1 g2 =>
    have q2 : (if okEq d = true ∧ okEq (.list ds) = true then some (PyData.bool (!ds.any fun z => PyData.eqv z d)) else none) = some c := q2
    by_cases hc : okEq d = true ∧ okEq (.list ds) = true
    · rw [if_pos hc] at q2
      cases q2
      exact .inl ⟨d, ds, Rp.toDp (Rp.mono R.gh hy) (SeqAt.canLay_of_shaped hc.1), Rh.toDp R.gh (.held g1 g2) (SeqAt.canLay_of_shaped hc.2), hc.1, hc.2, Post.done R h (.bl _)⟩
    · rw [if_neg hc] at q2; cases q2
theorem e_inN (i : Nat) (hu : X.A.units + 65 < cLine) (ha : EJ X E a fa) (hx : PE X (.Name x px) (tVar i)) (hm : behindInMarks .In (.Name x px) = false) : EJ X E (.Compare a [.In] [.Name x px] pos) (dInN oIn i fa) := by
  obtain ⟨t, q, p⟩ := ha
  exact ⟨_, pe_cmpR (ho_in hu) q hx hm, fun σ G H ρ Q R h => in_read i p in_hop R h⟩
theorem e_notInN (i : Nat) (hu : X.A.units + 65 < cLine) (ha : EJ X E a fa) (hx : PE X (.Name x px) (tVar i)) (hm : behindInMarks .NotIn (.Name x px) = false) : EJ X E (.Compare a [.NotIn] [.Name x px] pos) (dInN oNotIn i fa) := by
  obtain ⟨t, q, p⟩ := ha
  exact ⟨_, pe_cmpR (ho_notIn hu) q hx hm, fun σ G H ρ Q R h => in_read i p notIn_hop R h⟩
theorem t_inN (i : Nat) (hu : X.A.units + 65 < cLine) (ha : EJ X E a fa) (hx : PE X (.Name x px) (tVar i)) (hm : behindInMarks .In (.Name x px) = false) : TJ X E (.Compare a [.In] [.Name x px] pos) (tOf (dInN oIn i fa)) := by
  obtain ⟨t, q, p⟩ := ha
  refine ⟨_, pt_cmpR (ho_in hu) q hx hm, fun σ G H ρ Q R h => in_read i p in_hop R (Post.bind h fun G1 H1 x d ρ1 R1 S1 hx h1 => ?_)⟩
  cases d with
  | bool k => cases hx; exact ⟨k, rfl, Post.done R1 h1 rfl⟩
  | _ => exact h1.elim
theorem t_notInN (i : Nat) (hu : X.A.units + 65 < cLine) (ha : EJ X E a fa) (hx : PE X (.Name x px) (tVar i)) (hm : behindInMarks .NotIn (.Name x px) = false) : TJ X E (.Compare a [.NotIn] [.Name x px] pos) (tOf (dInN oNotIn i fa)) := by
  obtain ⟨t, q, p⟩ := ha
  refine ⟨_, pt_cmpR (ho_notIn hu) q hx hm, fun σ G H ρ Q R h => in_read i p notIn_hop R (Post.bind h fun G1 H1 x d ρ1 R1 S1 hx h1 => ?_)⟩
  cases d with
  | bool k => cases hx; exact ⟨k, rfl, Post.done R1 h1 rfl⟩
  | _ => exact h1.elim
/-- l.index(x) of a list in a slot -/
theorem e_indexN {ap : Pos} (i : Nat) (hu : X.A.units + 65 < cLine) (hx : PE X (.Name x px) (tVar i)) (ha : EJ X E a fa)
    (hp : ∀ to t, PE X (.Name x px) to → PA X [a] t → PE X (.Call (.Attribute (.Name x px) "index" ap) [a] [] pos) (tBM X.K "list" (rIndexD X.K) to t))
    (hs : starEach [a] X.env = (false, eval a X.env) :: starEach [] X.env := by rfl) : EJ X E (.Call (.Attribute (.Name x px) "index" ap) [a] [] pos) (dIndexN i fa) := by
  obtain ⟨t, q, p⟩ := ha
  refine ⟨_, hp _ _ hx (pa_cons q pa_nil hs), fun σ G H ρ Q R h => ?_⟩
  unfold dIndexN at h
  cases q0 : nameD i ρ with
  | none => rw [q0] at h; exact h.elim
  | some d0 =>
    rw [q0] at h
    obtain ⟨v, e0, hv0⟩ := R.name q0
    cases d0 with
    | list ds0 =>
      have key : tyV X.K "list" v H ∧ t σ H (fun y H2 => rIndexD X.K v [y] H2 Q) := by
        refine ⟨?_, p σ G H ρ _ R ?_⟩
        · cases hv0 with
          | held g1 _ => exact .inl ⟨rfl, _, SqL.of g1⟩
          | rp g =>
            cases g with
            | lst g1 _ => exact .inl ⟨rfl, _, SqL.of (R.gh _ _ g1)⟩
        · refine Post.bind h fun G1 H1 y k ρ1 R1 S1 hy h1 => ?_
          cases q1 : nameD i ρ1 with
          | none => rw [q1] at h1; exact h1.elim
          | some d =>
            rw [q1, Option.bind_some] at h1
            have hv := name_same R1 e0 q1
            cases q2 : oIndex d k with
            | none => rw [q2] at h1; exact h1.elim
            | some c =>
              rw [q2] at h1
              cases d with
              | list ds =>
                have q2 : (if okEq (.list ds) = true ∧ okEq k = true then idxOf ds k else none) = some c := q2
                by_cases hc : okEq (.list ds) = true ∧ okEq k = true
                · rw [if_pos hc] at q2
                  unfold idxOf at q2
                  cases q3 : ds.findIdx? fun z => PyData.eqv z k with
                  | none => rw [q3] at q2; cases q2
                  | some j =>
                    rw [q3] at q2
                    cases q2
                    obtain ⟨hj, hj1, hj2⟩ := List.findIdx?_eq_some_iff_getElem.mp q3
                    have hD := hv.toDp R1.gh (SeqAt.canLay_of_shaped hc.1)
                    have hv' : ∃ b, v = .ref b := by cases hD with | lst _ _ => exact ⟨_, rfl⟩
                    obtain ⟨b, rfl⟩ := hv'
                    exact ⟨b, y, k, ds, j, ds[j], rfl, rfl, hD, Rp.toDp (Rp.mono R1.gh hy) (SeqAt.canLay_of_shaped hc.2), hc.1, hc.2, List.getElem?_eq_getElem hj, hj1, fun m z hm hz => by
                      have hm' : m < ds.length := by omega
                      rw [List.getElem?_eq_getElem hm'] at hz
                      cases hz
                      have := hj2 m hm
                      simpa using this, Post.done R1 h1 (.int _)⟩
                · rw [if_neg hc] at q2; cases q2
              | _ => cases q2
      exact ⟨v, e0, key.1, key.2⟩
    | _ => exact h.elim
/-! ### chains as tests -/
theorem chain_read {r r' : R2} {o o' : PyData → PyData → Option PyData} {fc : DEnv → Res PyData} {ta tb tc : TE} {σ : St} {G H : Hp} {ρ : DEnv} {Q : VK} (hd : OpD X E r o) (hd' : OpD X E r' o')
    (pa : ∀ σ G H ρ Q, Rel X.K G σ H ρ → EPost X E σ G H ρ Q (fa ρ) → ta σ H Q) (pb : ∀ σ G H ρ Q, Rel X.K G σ H ρ → EPost X E σ G H ρ Q (fb ρ) → tb σ H Q) (pc : ∀ σ G H ρ Q, Rel X.K G σ H ρ → EPost X E σ G H ρ Q (fc ρ) → tc σ H Q)
    (R : Rel X.K G σ H ρ) (h : EPost X E σ G H ρ Q (dChain o o' fa fb fc ρ)) : tChain r r' ta tb tc σ H Q := by
  refine pa σ G H ρ _ R (Post.bind h fun G1 H1 x d ρ1 R1 S1 hx h1 => pb σ G1 H1 ρ1 _ R1 (Post.bind h1 fun G2 H2 y e ρ2 R2 S2 hy h2 => ?_))
  cases z : o d e with
  | none => simp only [z] at h2; exact h2.elim
  | some w =>
    cases w with
    | bool k =>
      simp only [z] at h2
      refine hd σ G2 H2 ρ2 x y d e (.bool k) _ R2 (Rp.mono S2.same hx) hy z fun G3 H3 v R3 S3 hv => ?_
      cases hv
      refine ⟨k, rfl, ?_⟩
      cases k with
      | false =>
        rw [if_neg Bool.false_ne_true] at h2
        exact iteF (Post.done R3 (Post.from S3 h2) (.bl false))
      | true =>
        rw [if_pos rfl] at h2
        refine iteT (pc σ G3 H3 ρ2 _ R3 (Post.bind (Post.from S3 h2) fun G4 H4 w f ρ3 R4 S4 hw h3 => ?_))
        cases z2 : o' e f with
        | none => rw [z2] at h3; exact h3.elim
        | some g => rw [z2] at h3; exact hd' σ G4 H4 ρ3 y w e f g Q R4 (Rp.mono S4.same (Rp.mono S3.same hy)) hw z2 h3
    | _ => simp only [z] at h2; exact h2.elim
theorem t_chain {op op' : CmpOp} {r r' : R2} {o o' : PyData → PyData → Option PyData} {c : Expr} {fc : DEnv → Res PyData} (hd : OpD X E r o) (hd' : OpD X E r' o') (ha : EJ X E a fa) (hb : EJ X E b fb) (hc : EJ X E c fc)
    (hp : ∀ ta tb tc, PE X a ta → PE X b tb → PE X c tc → PT X (.Compare a [op, op'] [b, c] pos) (tTest (tChain r r' ta tb tc))) : TJ X E (.Compare a [op, op'] [b, c] pos) (tOf (dChain o o' fa fb fc)) := by
  obtain ⟨ta, qa, pa⟩ := ha
  obtain ⟨tb, qb, pb⟩ := hb
  obtain ⟨tc, qc, pc⟩ := hc
  refine ⟨_, hp _ _ _ qa qb qc, fun σ G H ρ Q R h => chain_read hd hd' pa pb pc R (Post.bind h fun G1 H1 x d ρ1 R1 S1 hx h1 => ?_)⟩
  cases d with
  | bool k => cases hx; exact ⟨k, rfl, Post.done R1 h1 rfl⟩
  | _ => exact h1.elim
/-! ### list(range(n)), tuple(range(n)) -/
instance (i j : Int) : Decidable (RgOk i j) := inferInstanceAs (Decidable (_ ∧ _ ∧ _ ∧ _ ∧ _))
def dTupRg (f : DEnv → Res PyData) : DEnv → Res PyData := fun ρ => (f ρ).bind fun d ρ1 => match d with
  | .int n => if RgOk 0 n then .ok (.tuple (intsD 0 n.toNat)) ρ1 else .bad
  | _ => .bad
def fLstRg (f : DEnv → Res PyData) : DEnv → Res OD := fun ρ => (f ρ).bind fun d ρ1 => match d with
  | .int n => if RgOk 0 n then .ok (.lst (intsD 0 n.toNat)) ρ1 else .bad
  | _ => .bad
theorem rp_ints {K : PySem.W.Frag} {G : Hp} (lo : Int) : ∀ (l : List Nat), RpAll K G (l.map fun i => V.int (lo + (i : Nat))) (l.map fun i => PyData.int (lo + (i : Nat)))
  | [] => .nil
  | i :: r => .cons (.int _) (rp_ints lo r)
theorem e_tupRg {p2 p3 : Pos} (hc : X.calm = true) (hg : Gl X "tuple") (hm : X.mg "tuple" = none) (hg2 : Gl X "range") (hm2 : X.mg "range" = none) (ha : EJ X E a fa) (na : starEach [a] X.env = (false, eval a X.env) :: starEach [] X.env := by rfl)
    (na2 : starEach [.Call (.Name "range" p3) [a] [] p2] X.env = (false, eval (.Call (.Name "range" p3) [a] [] p2) X.env) :: starEach [] X.env := by rfl) : EJ X E (.Call (.Name "tuple" p) [.Call (.Name "range" p3) [a] [] p2] [] pos) (dTupRg fa) := by
  obtain ⟨t, q, p⟩ := ha
  refine ⟨_, pe_tupRg hc hg hm (prg_1 hg2 hm2 q na) na2, fun σ G H ρ Q R h => p σ G H ρ _ R (Post.bind h fun G1 H1 x d ρ1 R1 S1 hx h1 => ?_)⟩
  cases hx with
  | int n =>
    have h1 : EPost X E σ G1 H1 ρ1 Q (if RgOk 0 n then .ok (.tuple (intsD 0 n.toNat)) ρ1 else .bad) := h1
    by_cases hz : RgOk 0 n
    · rw [if_pos hz] at h1
      refine ⟨n, rfl, hz, fun b hb => Post.new R1 h1 hb (.tup (SqT.of upd_same) ?_)⟩
      unfold rgV intsD
      rw [show n - 0 = n by omega]
      exact rp_ints 0 _
    · rw [if_neg hz] at h1; exact h1.elim
  | _ => exact h1.elim
theorem f_lstRg {p2 p3 : Pos} (hc : X.calm = true) (hg : Gl X "list") (hm : X.mg "list" = none) (hg2 : Gl X "range") (hm2 : X.mg "range" = none) (ha : EJ X E a fa) (na : starEach [a] X.env = (false, eval a X.env) :: starEach [] X.env := by rfl)
    (na2 : starEach [.Call (.Name "range" p3) [a] [] p2] X.env = (false, eval (.Call (.Name "range" p3) [a] [] p2) X.env) :: starEach [] X.env := by rfl) : FJ X E (.Call (.Name "list" p) [.Call (.Name "range" p3) [a] [] p2] [] pos) (fLstRg fa) := by
  obtain ⟨t, q, p⟩ := ha
  refine ⟨_, pe_listRg hc hg hm (prg_1 hg2 hm2 q na) na2, fun σ G H ρ Q R h => p σ G H ρ _ R (FPost.bind h fun G1 H1 x d ρ1 R1 S1 hx h1 => ?_)⟩
  cases hx with
  | int n =>
    have h1 : FPost X.K X.mg E σ G1 H1 ρ1 Q (if RgOk 0 n then .ok (.lst (intsD 0 n.toNat)) ρ1 else .bad) := h1
    by_cases hz : RgOk 0 n
    · rw [if_pos hz] at h1
      refine ⟨n, rfl, hz, fun b hb => FPost.new R1 h1 hb ⟨_, upd_same, ?_⟩⟩
      unfold rgV intsD
      rw [show n - 0 = n by omega]
      exact rp_ints 0 _
    · rw [if_neg hz] at h1; exact h1.elim
  | _ => exact h1.elim
/-! ### x += e, whole numbers -/
def sAug (i : Nat) (op : PyData → PyData → Option PyData) (f : DEnv → Res PyData) : DEnv → Res Out := fun ρ => match ρ[i]? with
  | some (.val d) => (f ρ).bind fun e ρ1 => nxOf ((op d e).bind fun c => setV i c ρ1)
  | _ => .bad
theorem s_aug {op : Operator} {g : Int → Int → Int} {o : PyData → PyData → Option PyData} (i : Nat) (ho : ∀ d e c, o d e = some c → ∃ m n, d = .int m ∧ e = .int n ∧ c = .int (g m n)) (ha : EJ X E a fa)
    (hp : ∀ te, PE X a te → PS X (.AugAssign (.Name x px) op a pos) (tAug i te (ipI g))) : SJ X E (.AugAssign (.Name x px) op a pos) (sAug i o fa) := by
  obtain ⟨t, q, p⟩ := ha
  refine ⟨_, hp _ q, fun σ G H ρ D R h => ?_⟩
  unfold sAug at h
  cases q0 : ρ[i]? with
  | none => rw [q0] at h; exact h.elim
  | some cl =>
    rw [q0] at h
    cases cl with
    | val d =>
      obtain ⟨v0, e0, x0, rfl, hx⟩ := R.cell i _ q0
      refine ⟨x0, e0, p σ G H ρ _ R (SPost.bind h fun G1 H1 y e ρ1 R1 S1 hy h1 => ?_)⟩
      cases q1 : o d e with
      | none => rw [q1] at h1; exact h1.elim
      | some c =>
        obtain ⟨m, n, rfl, rfl, rfl⟩ := ho d e c q1
        rw [q1, Option.bind_some] at h1
        cases hx
        cases hy
        refine ⟨m, n, rfl, rfl, ?_⟩
        unfold setV at h1
        cases q2 : ρ1[i]? with
        | none => rw [q2] at h1; exact h1.elim
        | some cl =>
          rw [q2] at h1
          cases cl with
          | io _ => exact h1.elim
          | un => obtain ⟨r, s⟩ := R1.setVal q2 (fun _ z => nomatch z) (.int (g m n)); exact h1 _ _ _ r s
          | val _ => obtain ⟨r, s⟩ := R1.setVal q2 (fun _ z => nomatch z) (.int (g m n)); exact h1 _ _ _ r s
          | own _ => obtain ⟨r, s⟩ := R1.setVal q2 (fun _ z => nomatch z) (.int (g m n)); exact h1 _ _ _ r s
    | _ => exact h.elim
/-! ### lists put together: a new list that is held -/
def fCat (f g : DEnv → Res PyData) : DEnv → Res OD := fun ρ => (f ρ).bind fun d ρ1 => (g ρ1).bind fun e ρ2 => match d, e with
  | .list xs, .list ys => if xs.length + ys.length ≤ sizeLine then .ok (.lst (xs ++ ys)) ρ2 else .bad
  | _, _ => .bad
theorem f_cat (ha : EJ X E a fa) (hb : EJ X E b fb) : FJ X E (.BinOp a .Add b pos) (fCat fa fb) := by
  obtain ⟨ta, qa, pa⟩ := ha
  obtain ⟨tb, qb, pb⟩ := hb
  refine ⟨_, pe_op op_cat qa qb, fun σ G H ρ Q R h => pa σ G H ρ _ R (FPost.bind h fun G1 H1 u d ρ1 R1 S1 hu h1 => pb σ G1 H1 ρ1 _ R1 (FPost.bind h1 fun G2 H2 v e ρ2 R2 S2 hv h2 => ?_))⟩
  cases hu with
  | @lst p vs ds h3 h4 =>
    cases hv with
    | @lst p2 ws es k3 k4 =>
      have h2 : FPost X.K X.mg E σ G2 H2 ρ2 Q (if ds.length + es.length ≤ sizeLine then .ok (.lst (ds ++ es)) ρ2 else .bad) := h2
      by_cases hz : ds.length + es.length ≤ sizeLine
      · rw [if_pos hz] at h2
        have l1 := RpAll.len h4
        have l2 := RpAll.len k4
        exact ⟨p, p2, vs, ws, rfl, rfl, R2.gh _ _ (S2.same _ _ h3), R2.gh _ _ k3, by omega, fun b hb => FPost.new R2 h2 hb ⟨_, upd_same, RpAll.app (RpAll.mono S2.same h4) k4⟩⟩
      · rw [if_neg hz] at h2; exact h2.elim
    | _ => exact h2.elim
  | _ => exact h2.elim
end
/-! ### the law's call -/
def spLaw (K : PySem.W.Frag) : Sp := fun vs H Q _ => ∃ (a : Addr) (ns : List Int), vs = [.ref a] ∧ SqL K H a (ns.map V.int) ∧ ns.length ≤ 63 ∧ ∀ H', Q (.bl true) H'
theorem law_sp {K : PySem.W.Frag} {mg : Str → Option Value} {den : DEnv → Res PyData} (T : ∀ ns : List Int, ns.length ≤ 63 → ∃ cs, den [.val (scrD ns)] = .ok (.bool true) cs) (vs : List V) (H : Hp) (Q : VK) (E : XK) (h : spLaw K vs H Q E) : spD K mg 1 den vs H Q E := by
  obtain ⟨a, ns, rfl, hS, hl, q⟩ := h
  obtain ⟨cs, e⟩ := T ns hl
  refine ⟨H, [.val (scrD ns)], rfl, rfl, ⟨Same.refl _, rfl, fun i c hc => ?_, fun i j p _ hi _ => ?_⟩, ?_⟩
  · cases i with
    | zero => cases hc; exact ⟨_, rfl, _, rfl, .scr hS⟩
    | succ i => simp at hc
  · obtain ⟨_, c, hc, ho⟩ := hi
    cases i with
    | zero => cases hc; cases ho
    | succ i => simp at hc
  · rw [e]
    intro G' H' v _ _ hv
    cases hv
    exact q H'
end DL

set_option Elab.async false
set_option linter.all false
set_option maxRecDepth 100000
set_option maxHeartbeats 4000000
/-! DL part 9: how meanings are reckoned. -/
namespace DL
open PySem PySem.Spec PyProof.Rows L2

/-- a loop by an invariant: each turn goes on -/
theorem forL_inv {gd : PyData → DEnv → Option DEnv} {fb : DEnv → Res Out} (I : Nat → DEnv → Prop) : ∀ (ds : List PyData) (n : Nat) (ρ : DEnv), I n ρ →
    (∀ (i : Nat) (d : PyData) (ρ : DEnv), ds[i]? = some d → I (n + i) ρ → ∃ ρ1 ρ2, gd d ρ = some ρ1 ∧ (fb ρ1 = .ok .nx ρ2 ∨ fb ρ1 = .ok .ct ρ2) ∧ I (n + i + 1) ρ2) →
    ∃ ρ', forL gd fb ds ρ = .ok .nx ρ' ∧ I (n + ds.length) ρ'
  | [], n, ρ, h, _ => ⟨ρ, rfl, h⟩
  | d :: ds, n, ρ, h, st => by
    obtain ⟨ρ1, ρ2, h1, h2, h3⟩ := st 0 d ρ rfl h
    obtain ⟨ρ', h4, h5⟩ := forL_inv I ds (n + 1) ρ2 h3 fun i e τ hi hτ => by
      have := st (i + 1) e τ (by simpa using hi) (by rw [show n + (i + 1) = n + 1 + i by omega]; exact hτ)
      rw [show n + (i + 1) + 1 = n + 1 + i + 1 by omega] at this
      exact this
    refine ⟨ρ', ?_, by rw [List.length_cons, show n + (ds.length + 1) = n + 1 + ds.length by omega]; exact h5⟩
    unfold forL
    rw [h1]
    rcases h2 with h2 | h2 <;> (simp only [h2]; exact h4)
/-- a loop that may return: each turn goes on or returns as R says -/
theorem forL_ret {gd : PyData → DEnv → Option DEnv} {fb : DEnv → Res Out} (I : Nat → DEnv → Prop) (R : PyData → DEnv → Prop) : ∀ (ds : List PyData) (n : Nat) (ρ : DEnv), I n ρ →
    (∀ (i : Nat) (d : PyData) (ρ : DEnv), ds[i]? = some d → I (n + i) ρ → ∃ ρ1 ρ2, gd d ρ = some ρ1 ∧ (((fb ρ1 = .ok .nx ρ2 ∨ fb ρ1 = .ok .ct ρ2) ∧ I (n + i + 1) ρ2) ∨ ∃ v, fb ρ1 = .ok (.rt v) ρ2 ∧ R v ρ2)) →
    ∃ ρ', (forL gd fb ds ρ = .ok .nx ρ' ∧ I (n + ds.length) ρ') ∨ ∃ v, forL gd fb ds ρ = .ok (.rt v) ρ' ∧ R v ρ'
  | [], n, ρ, h, _ => ⟨ρ, .inl ⟨rfl, h⟩⟩
  | d :: ds, n, ρ, h, st => by
    obtain ⟨ρ1, ρ2, h1, h2⟩ := st 0 d ρ rfl h
    rcases h2 with ⟨h2, h3⟩ | ⟨v, h2, h3⟩
    · obtain ⟨ρ', h4⟩ := forL_ret I R ds (n + 1) ρ2 h3 fun i e τ hi hτ => by
        have := st (i + 1) e τ (by simpa using hi) (by rw [show n + (i + 1) = n + 1 + i by omega]; exact hτ)
        rw [show n + (i + 1) + 1 = n + 1 + i + 1 by omega] at this
        exact this
      have e : forL gd fb (d :: ds) ρ = forL gd fb ds ρ2 := by
        rw [forL, h1]
        rcases h2 with h2 | h2 <;> simp only [h2]
      refine ⟨ρ', ?_⟩
      rw [e]
      rcases h4 with ⟨h4, h5⟩ | h4
      · exact .inl ⟨h4, by rw [List.length_cons, show n + (ds.length + 1) = n + 1 + ds.length by omega]; exact h5⟩
      · exact .inr h4
    · refine ⟨ρ2, .inr ⟨v, ?_, h3⟩⟩
      rw [forL, h1]
      simp only [h2]
/-- a comprehension by an invariant of the cells, and what holds of each item -/
theorem lcL_inv {vs : List Nat} {gd : PyData → DEnv → Option DEnv} {ft : DEnv → Res Bool} {fe : DEnv → Res PyData} (I : DEnv → Prop) (P : Nat → PyData → Prop) : ∀ (ds : List PyData) (acc : List PyData) (ρ : DEnv), I ρ → acc.length + ds.length ≤ sizeLine →
    (∀ (i : Nat) (d : PyData) (ρ : DEnv), ds[i]? = some d → I ρ → ∃ ρ1 ρ2 ρ3 y, gd d ρ = some ρ1 ∧ ft ρ1 = .ok true ρ2 ∧ fe ρ2 = .ok y ρ3 ∧ I (wipeC ρ3 vs) ∧ P (acc.length + i) y) →
    ∃ ys ρ', lcL vs gd ft fe ds acc ρ = .ok (acc ++ ys) ρ' ∧ I ρ' ∧ ys.length = ds.length ∧ ∀ (i : Nat) (y : PyData), ys[i]? = some y → P (acc.length + i) y
  | [], acc, ρ, h, _, _ => ⟨[], ρ, by rw [List.append_nil]; rfl, h, rfl, fun i y e => by simp at e⟩
  | d :: ds, acc, ρ, h, hl, st => by
    obtain ⟨ρ1, ρ2, ρ3, y, h1, h2, h3, h4, h5⟩ := st 0 d ρ rfl h
    rw [List.length_cons] at hl
    obtain ⟨ys, ρ', q1, q2, q3, q4⟩ := lcL_inv I P ds (acc ++ [y]) (wipeC ρ3 vs) h4 (by rw [List.length_append, List.length_singleton]; omega) fun i e τ hi hτ => by
      have := st (i + 1) e τ (by simpa using hi) hτ
      rw [List.length_append, List.length_singleton, show acc.length + 1 + i = acc.length + (i + 1) by omega]
      exact this
    refine ⟨y :: ys, ρ', ?_, q2, by rw [List.length_cons, List.length_cons, q3], fun i z e => ?_⟩
    · rw [lcL, h1]
      simp only [h2, h3]
      rw [if_pos (by omega), q1, List.append_assoc]
      rfl
    · cases i with
      | zero => simp at e; subst e; exact h5
      | succ i =>
        have := q4 i z (by simpa using e)
        rw [List.length_append, List.length_singleton, show acc.length + 1 + i = acc.length + (i + 1) by omega] at this
        exact this
/-- a comprehension that leaves the cells as they are: a map -/
theorem lcL_map {vs : List Nat} {gd : PyData → DEnv → Option DEnv} {ft : DEnv → Res Bool} {fe : DEnv → Res PyData} (f : PyData → PyData) (ρ : DEnv) : ∀ (ds acc : List PyData), acc.length + ds.length ≤ sizeLine →
    (∀ d ∈ ds, ∃ ρ1 ρ2 ρ3, gd d ρ = some ρ1 ∧ ft ρ1 = .ok true ρ2 ∧ fe ρ2 = .ok (f d) ρ3 ∧ wipeC ρ3 vs = ρ) → lcL vs gd ft fe ds acc ρ = .ok (acc ++ ds.map f) ρ
  | [], acc, _, _ => by rw [List.map_nil, List.append_nil]; rfl
  | d :: ds, acc, hl, st => by
    obtain ⟨ρ1, ρ2, ρ3, h1, h2, h3, h4⟩ := st d (List.mem_cons_self ..)
    rw [List.length_cons] at hl
    rw [lcL, h1]
    simp only [h2, h3]
    rw [if_pos (by omega), h4, lcL_map f ρ ds (acc ++ [f d]) (by rw [List.length_append, List.length_singleton]; omega) fun e he => st e (List.mem_cons_of_mem _ he), List.append_assoc]
    rfl
/-- .. with a test: a filtered map; the test may turn the cells -/
theorem lcL_filt {vs : List Nat} {gd : PyData → DEnv → Option DEnv} {ft : DEnv → Res Bool} {fe : DEnv → Res PyData} (I : DEnv → Prop) (f : PyData → PyData) : ∀ (ds acc : List PyData) (ρ : DEnv), I ρ → acc.length + ds.length ≤ sizeLine →
    (∀ (d : PyData) (ρ : DEnv), d ∈ ds → I ρ → ∃ ρ1 ρ2 b, gd d ρ = some ρ1 ∧ ft ρ1 = .ok b ρ2 ∧ (b = true → ∃ ρ3, fe ρ2 = .ok (f d) ρ3 ∧ I (wipeC ρ3 vs)) ∧ (b = false → I (wipeC ρ2 vs))) →
    ∃ (es : List PyData) (ρ' : DEnv), lcL vs gd ft fe ds acc ρ = .ok (acc ++ es.map f) ρ' ∧ I ρ' ∧ es.Sublist ds
  | [], acc, ρ, h, _, _ => ⟨[], ρ, by rw [List.map_nil, List.append_nil]; rfl, h, .slnil⟩
  | d :: ds, acc, ρ, h, hl, st => by
    obtain ⟨ρ1, ρ2, b, h1, h2, h3, h4⟩ := st d ρ (List.mem_cons_self ..) h
    rw [List.length_cons] at hl
    cases b with
    | false =>
      obtain ⟨es, ρ', q1, q2, q3⟩ := lcL_filt I f ds acc (wipeC ρ2 vs) (h4 rfl) (by omega) fun e τ he hτ => st e τ (List.mem_cons_of_mem _ he) hτ
      refine ⟨es, ρ', ?_, q2, .cons _ q3⟩
      rw [lcL, h1]
      simp only [h2]
      exact q1
    | true =>
      obtain ⟨ρ3, h5, h6⟩ := h3 rfl
      obtain ⟨es, ρ', q1, q2, q3⟩ := lcL_filt I f ds (acc ++ [f d]) (wipeC ρ3 vs) h6 (by rw [List.length_append, List.length_singleton]; omega) fun e τ he hτ => st e τ (List.mem_cons_of_mem _ he) hτ
      refine ⟨d :: es, ρ', ?_, q2, .cons₂ _ q3⟩
      rw [lcL, h1]
      simp only [h2, h5]
      rw [if_pos (by omega), q1, List.append_assoc, List.map_cons]
      rfl
/-! ### data -/
theorem atI_ofNat {α : Type} {l : List α} {j : Nat} {v : α} (h : l[j]? = some v) : atI l (j : Int) = some v := atI_nat h
theorem unInts_map : ∀ ns : List Int, unInts (ns.map PyData.int) = some ns
  | [] => rfl
  | i :: r => by rw [List.map_cons, unInts, unInts_map r]; rfl
theorem unBools_map : ∀ bs : List Bool, unBools (bs.map PyData.bool) = some bs
  | [] => rfl
  | i :: r => by rw [List.map_cons, unBools, unBools_map r]; rfl
theorem seqOf_scr (ns : List Int) : seqOf (scrD ns) = some (.L, ns.map PyData.int) := by
  show (some (LK.L, (ns.map fun i => (PyData.int i, PyData.none)).map (·.1))) = _
  rw [unScr_map]
/-! ### == and shapes -/
@[simp] theorem eqv_int (i j : Int) : PyData.eqv (.int i) (.int j) = (i == j) := by rw [PyData.eqv]
@[simp] theorem eqv_bool (i j : Bool) : PyData.eqv (.bool i) (.bool j) = (i == j) := by rw [PyData.eqv]
@[simp] theorem eqv_str (i j : Str) : PyData.eqv (.str i) (.str j) = (i == j) := by rw [PyData.eqv]
@[simp] theorem eqv_none : PyData.eqv .none .none = true := by rw [PyData.eqv]
@[simp] theorem eqv_tuple (xs ys : List PyData) : PyData.eqv (.tuple xs) (.tuple ys) = PyData.eqvAll xs ys := by rw [PyData.eqv]
@[simp] theorem eqv_list (xs ys : List PyData) : PyData.eqv (.list xs) (.list ys) = PyData.eqvAll xs ys := by rw [PyData.eqv]
@[simp] theorem eqvAll_nil : PyData.eqvAll [] [] = true := by rw [PyData.eqvAll]
@[simp] theorem eqvAll_cons (x y : PyData) (xs ys : List PyData) : PyData.eqvAll (x :: xs) (y :: ys) = (PyData.eqv x y && PyData.eqvAll xs ys) := by rw [PyData.eqvAll]
@[simp] theorem eqvAll_nc (y : PyData) (ys : List PyData) : PyData.eqvAll [] (y :: ys) = false := by rw [PyData.eqvAll]
@[simp] theorem eqvAll_cn (x : PyData) (xs : List PyData) : PyData.eqvAll (x :: xs) [] = false := by rw [PyData.eqvAll]
theorem eqvAll_ints : ∀ ms ns : List Int, PyData.eqvAll (ms.map PyData.int) (ns.map PyData.int) = (ms == ns)
  | [], [] => by rw [List.map_nil, eqvAll_nil]; rfl
  | [], n :: ns => by rw [List.map_nil, List.map_cons, eqvAll_nc]; rfl
  | m :: ms, [] => by rw [List.map_nil, List.map_cons, eqvAll_cn]; rfl
  | m :: ms, n :: ns => by rw [List.map_cons, List.map_cons, eqvAll_cons, eqv_int, eqvAll_ints ms ns]; rfl
theorem canAll_of : ∀ ds : List PyData, (∀ d ∈ ds, d.canLay0 = true) → PyData.canLayAll0 ds = true
  | [], _ => by rw [PyData.canLayAll0]
  | d :: ds, h => by rw [PyData.canLayAll0, h d (List.mem_cons_self ..), canAll_of ds fun e he => h e (List.mem_cons_of_mem _ he)]; rfl
theorem depthAll_le {k : Nat} : ∀ ds : List PyData, (∀ d ∈ ds, d.depth ≤ k) → PyData.depthAll ds ≤ k
  | [], _ => by rw [PyData.depthAll]; exact Nat.zero_le _
  | d :: ds, h => by
    rw [PyData.depthAll]
    exact Nat.max_le.mpr ⟨h d (List.mem_cons_self ..), depthAll_le ds fun e he => h e (List.mem_cons_of_mem _ he)⟩
/-- d may be compared: it holds no dict and is at most k deep -/
def Shp (k : Nat) (d : PyData) : Prop := d.canLay0 = true ∧ d.depth ≤ k
theorem Shp.int {k : Nat} (i : Int) : Shp k (.int i) := ⟨by rw [PyData.canLay0], by rw [PyData.depth]; exact Nat.zero_le _⟩
theorem Shp.bool {k : Nat} (i : Bool) : Shp k (.bool i) := ⟨by rw [PyData.canLay0], by rw [PyData.depth]; exact Nat.zero_le _⟩
theorem Shp.none {k : Nat} : Shp k .none := ⟨by rw [PyData.canLay0], by rw [PyData.depth]; exact Nat.zero_le _⟩
theorem Shp.str {k : Nat} {x : Str} (h : PySem.PyData.strOk x = true) : Shp k (.str x) := ⟨by rw [PyData.canLay0]; exact h, by rw [PyData.depth]; exact Nat.zero_le _⟩
theorem Shp.tuple {k : Nat} {ds : List PyData} (h : ∀ d ∈ ds, Shp k d) : Shp (k + 1) (.tuple ds) := ⟨by rw [PyData.canLay0]; exact canAll_of ds fun d hd => (h d hd).1, by rw [PyData.depth]; exact Nat.succ_le_succ (depthAll_le ds fun d hd => (h d hd).2)⟩
theorem Shp.list {k : Nat} {ds : List PyData} (h : ∀ d ∈ ds, Shp k d) : Shp (k + 1) (.list ds) := ⟨by rw [PyData.canLay0]; exact canAll_of ds fun d hd => (h d hd).1, by rw [PyData.depth]; exact Nat.succ_le_succ (depthAll_le ds fun d hd => (h d hd).2)⟩
theorem Shp.mono {j k : Nat} {d : PyData} (h : Shp j d) (hk : j ≤ k) : Shp k d := ⟨h.1, Nat.le_trans h.2 hk⟩
theorem Shp.ok {k : Nat} {d : PyData} (h : Shp k d) (hk : k ≤ 64 := by decide) : okEq d = true := by
  unfold okEq SeqAt.shaped
  rw [h.1, decide_eq_true (Nat.le_trans h.2 hk)]
  rfl
theorem Shp.tupInts {k : Nat} (ns : List Int) : Shp (k + 1) (.tuple (ns.map PyData.int)) := .tuple fun d hd => by
  obtain ⟨i, _, rfl⟩ := List.mem_map.mp hd
  exact .int i
theorem Shp.lstInts {k : Nat} (ns : List Int) : Shp (k + 1) (.list (ns.map PyData.int)) := .list fun d hd => by
  obtain ⟨i, _, rfl⟩ := List.mem_map.mp hd
  exact .int i
end DL

set_option Elab.async false
set_option linter.all false
set_option maxRecDepth 100000
set_option maxHeartbeats 4000000
/-! DL part 10: meanings run forward. -/
namespace DL
open PySem PySem.Spec PyProof.Rows L2

/-- it ends well, and then Q -/
def Wq {α : Type} (Z : Exn → DEnv → Prop) (r : Res α) (Q : α → DEnv → Prop) : Prop := match r with
  | .ok a ρ => Q a ρ
  | .err x ρ => Z x ρ
  | .bad => False
abbrev Zn : Exn → DEnv → Prop := fun _ _ => False
section
variable {Z : Exn → DEnv → Prop}
theorem Wq.get {α : Type} {r : Res α} {Q : α → DEnv → Prop} (h : Wq Zn r Q) : ∃ a ρ, r = .ok a ρ ∧ Q a ρ := by
  cases r with
  | ok a ρ => exact ⟨a, ρ, rfl, h⟩
  | err x ρ => exact h.elim
  | bad => exact h.elim
theorem Wq.mono {α : Type} {r : Res α} {Q Q' : α → DEnv → Prop} (h : Wq Z r Q) (k : ∀ a ρ, Q a ρ → Q' a ρ) : Wq Z r Q' := by
  cases r with
  | ok a ρ => exact k a ρ h
  | err x ρ => exact h
  | bad => exact h
theorem wq_ok {α : Type} (a : α) (ρ : DEnv) (Q : α → DEnv → Prop) : Wq Z (.ok a ρ) Q = Q a ρ := rfl
theorem wq_bad {α : Type} (Q : α → DEnv → Prop) : Wq Z (.bad : Res α) Q = False := rfl
theorem wq_bind {α β : Type} (r : Res α) (k : α → DEnv → Res β) (Q : β → DEnv → Prop) : Wq Z (r.bind k) Q = Wq Z r fun a ρ => Wq Z (k a ρ) Q := by cases r <;> rfl
theorem wq_of {α : Type} (o : Option α) (ρ : DEnv) (Q : α → DEnv → Prop) : Wq Z (Res.of o ρ) Q = ∃ a, o = some a ∧ Q a ρ := by
  cases o with
  | none => exact propext ⟨fun h => h.elim, fun ⟨a, h, _⟩ => nomatch h⟩
  | some a => exact propext ⟨fun h => ⟨a, rfl, h⟩, fun ⟨b, h, q⟩ => by cases h; exact q⟩
theorem wq_of_some {α : Type} (a : α) (ρ : DEnv) (Q : α → DEnv → Prop) : Wq Z (Res.of (some a) ρ) Q = Q a ρ := rfl
theorem wq_ite {α : Type} {c : Prop} [Decidable c] (a b : Res α) (Q : α → DEnv → Prop) : Wq Z (if c then a else b) Q = if c then Wq Z a Q else Wq Z b Q := by
  by_cases h : c
  · rw [if_pos h, if_pos h]
  · rw [if_neg h, if_neg h]
section
variable (ρ : DEnv) (Q : PyData → DEnv → Prop) (S : Out → DEnv → Prop) (T : Bool → DEnv → Prop) (L : List PyData → DEnv → Prop) (O : OD → DEnv → Prop)
theorem wq_C (d : PyData) : Wq Z (dC d ρ) Q = Q d ρ := rfl
theorem wq_var (i : Nat) (d : PyData) (h : ρ[i]? = some (.val d)) : Wq Z (dVar i ρ) Q = Q d ρ := by unfold dVar; rw [h]; rfl
def cellQ (Q : PyData → DEnv → Prop) (c : Option Cell) (ρ : DEnv) : Prop := match c with
  | some (.val d) => Q d ρ
  | _ => False
theorem cellQ_val (d : PyData) : cellQ Q (some (.val d)) ρ = Q d ρ := rfl
theorem wq_vr (i : Nat) : Wq Z (dVar i ρ) Q = cellQ Q (ρ[i]?) ρ := by
  unfold dVar
  cases ρ[i]? with
  | none => rfl
  | some c => cases c <;> rfl
theorem wq_of_ite {α : Type} {c : Prop} [Decidable c] (a : α) (K : α → DEnv → Prop) : Wq Z (Res.of (if c then some a else none) ρ) K = (c ∧ K a ρ) := by
  by_cases h : c
  · rw [if_pos h]; exact propext ⟨fun q => ⟨h, q⟩, fun q => q.2⟩
  · rw [if_neg h]; exact propext ⟨fun q => q.elim, fun q => absurd q.1 h⟩
theorem wq_op (op : PyData → PyData → Option PyData) (f g : DEnv → Res PyData) : Wq Z (dOp op f g ρ) Q = Wq Z (f ρ) fun x ρ1 => Wq Z (g ρ1) fun y ρ2 => Wq Z (Res.of (op x y) ρ2) Q := by
  unfold dOp; rw [wq_bind]; congr 1; funext x ρ1; rw [wq_bind]
theorem wq_un (op : PyData → Option PyData) (f : DEnv → Res PyData) : Wq Z (dUn op f ρ) Q = Wq Z (f ρ) fun x ρ1 => Wq Z (Res.of (op x) ρ1) Q := by unfold dUn; rw [wq_bind]
theorem wq_nil : Wq Z (dNil ρ) L = L [] ρ := rfl
theorem wq_cons (f : DEnv → Res PyData) (g : DEnv → Res (List PyData)) : Wq Z (dCons f g ρ) L = Wq Z (f ρ) fun x ρ1 => Wq Z (g ρ1) fun xs ρ2 => L (x :: xs) ρ2 := by
  unfold dCons; rw [wq_bind]; congr 1; funext x ρ1; rw [wq_bind]; congr 1
theorem wq_call (op : List PyData → Option PyData) (f : DEnv → Res (List PyData)) : Wq Z (dCall op f ρ) Q = Wq Z (f ρ) fun x ρ1 => Wq Z (Res.of (op x) ρ1) Q := by unfold dCall; rw [wq_bind]
theorem wq_tup (f : DEnv → Res (List PyData)) : Wq Z (dTup f ρ) Q = Wq Z (f ρ) fun x ρ1 => x.length ≤ sizeLine ∧ Q (.tuple x) ρ1 := by
  unfold dTup; rw [wq_bind]; congr 1; funext x ρ1; unfold oTup
  by_cases h : x.length ≤ sizeLine
  · rw [if_pos h]; exact propext ⟨fun q => ⟨h, q⟩, fun q => q.2⟩
  · rw [if_neg h]; exact propext ⟨fun q => q.elim, fun q => absurd q.1 h⟩
theorem wq_lst (f : DEnv → Res (List PyData)) : Wq Z (fLst f ρ) O = Wq Z (f ρ) fun x ρ1 => x.length ≤ sizeLine ∧ O (.lst x) ρ1 := by
  unfold fLst; rw [wq_bind]; congr 1; funext x ρ1; unfold oLst
  by_cases h : x.length ≤ sizeLine
  · rw [if_pos h]; exact propext ⟨fun q => ⟨h, q⟩, fun q => q.2⟩
  · rw [if_neg h]; exact propext ⟨fun q => q.elim, fun q => absurd q.1 h⟩
def frzQ (Q : PyData → DEnv → Prop) (o : OD) (ρ : DEnv) : Prop := match o with
  | .lst ds => Q (.list ds) ρ
  | _ => False
theorem frzQ_lst (ds : List PyData) : frzQ Q (.lst ds) ρ = Q (.list ds) ρ := rfl
theorem wq_frz (f : DEnv → Res OD) : Wq Z (dFrz f ρ) Q = Wq Z (f ρ) (frzQ Q) := by
  unfold dFrz; rw [wq_bind]; congr 1; funext o ρ1; cases o <;> rfl
def boolQ (T : Bool → DEnv → Prop) (d : PyData) (ρ : DEnv) : Prop := match d with
  | .bool b => T b ρ
  | _ => False
theorem boolQ_bool (b : Bool) : boolQ T (.bool b) ρ = T b ρ := rfl
theorem wq_tof (f : DEnv → Res PyData) : Wq Z (tOf f ρ) T = Wq Z (f ρ) (boolQ T) := by
  unfold tOf; rw [wq_bind]; congr 1; funext d ρ1; cases d <;> rfl
theorem wq_tru (f : DEnv → Res PyData) : Wq Z (tTru f ρ) T = Wq Z (f ρ) fun x ρ1 => Wq Z (Res.of (tru x) ρ1) T := by unfold tTru; rw [wq_bind]
theorem wq_tnot (f : DEnv → Res Bool) : Wq Z (tNotD f ρ) T = Wq Z (f ρ) fun b ρ1 => T (!b) ρ1 := by unfold tNotD; rw [wq_bind]; rfl
theorem wq_tand (f g : DEnv → Res Bool) : Wq Z (tAndD f g ρ) T = Wq Z (f ρ) fun b ρ1 => if b = true then Wq Z (g ρ1) T else T false ρ1 := by
  unfold tAndD; rw [wq_bind]; congr 1; funext b ρ1; cases b <;> rfl
theorem wq_tor (f g : DEnv → Res Bool) : Wq Z (tOrD f g ρ) T = Wq Z (f ρ) fun b ρ1 => if b = true then T true ρ1 else Wq Z (g ρ1) T := by
  unfold tOrD; rw [wq_bind]; congr 1; funext b ρ1; cases b <;> rfl
theorem wq_and (f g : DEnv → Res PyData) : Wq Z (dAndD f g ρ) Q = Wq Z (f ρ) (boolQ fun b ρ1 => if b = true then Wq Z (g ρ1) Q else Q (.bool false) ρ1) := by
  unfold dAndD; rw [wq_bind, wq_tof]; congr 1; congr 1; funext b ρ1; cases b <;> rfl
theorem wq_or (f g : DEnv → Res PyData) : Wq Z (dOrD f g ρ) Q = Wq Z (f ρ) (boolQ fun b ρ1 => if b = true then Q (.bool true) ρ1 else Wq Z (g ρ1) Q) := by
  unfold dOrD; rw [wq_bind, wq_tof]; congr 1; congr 1; funext b ρ1; cases b <;> rfl
theorem wq_not (f : DEnv → Res PyData) : Wq Z (dNotD f ρ) Q = Wq Z (f ρ) (boolQ fun b ρ1 => Q (.bool (!b)) ρ1) := by
  unfold dNotD; rw [wq_bind, wq_tof]; rfl
theorem wq_if (c : DEnv → Res Bool) (f g : DEnv → Res PyData) : Wq Z (dIf c f g ρ) Q = Wq Z (c ρ) fun b ρ1 => if b = true then Wq Z (f ρ1) Q else Wq Z (g ρ1) Q := by
  unfold dIf; rw [wq_bind]; congr 1; funext b ρ1; cases b <;> rfl
theorem wq_chain (op1 op2 : PyData → PyData → Option PyData) (f g h : DEnv → Res PyData) : Wq Z (dChain op1 op2 f g h ρ) Q = Wq Z (f ρ) fun x ρ1 => Wq Z (g ρ1) fun y ρ2 => Wq Z (Res.of (op1 x y) ρ2) (boolQ fun b ρ3 => if b = true then Wq Z (h ρ3) fun z ρ4 => Wq Z (Res.of (op2 y z) ρ4) Q else Q (.bool false) ρ3) := by
  unfold dChain; rw [wq_bind]; congr 1; funext x ρ1; rw [wq_bind]; congr 1; funext y ρ2
  cases op1 x y with
  | none => rfl
  | some w =>
    cases w with
    | bool b => cases b with
      | true => show Wq Z ((h ρ2).bind _) Q = _; rw [wq_bind]; rfl
      | false => rfl
    | _ => rfl
theorem wq_len (f : DEnv → Res (LK × List PyData)) : Wq Z (dLen f ρ) Q = Wq Z (f ρ) fun kd ρ1 => Q (.int (kd.2.length : Nat)) ρ1 := by unfold dLen; rw [wq_bind]; rfl
theorem wq_tupleOf (f : DEnv → Res (LK × List PyData)) : Wq Z (dTupleOf f ρ) Q = Wq Z (f ρ) fun kd ρ1 => Q (.tuple kd.2) ρ1 := by unfold dTupleOf; rw [wq_bind]; rfl
theorem wq_listOf (f : DEnv → Res (LK × List PyData)) : Wq Z (fListOf f ρ) O = Wq Z (f ρ) fun kd ρ1 => O (.lst kd.2) ρ1 := by unfold fListOf; rw [wq_bind]; rfl
theorem wq_lof (f : DEnv → Res PyData) (K : LK × List PyData → DEnv → Prop) : Wq Z (lOf f ρ) K = Wq Z (f ρ) fun d ρ1 => Wq Z (Res.of (seqOf d) ρ1) K := by unfold lOf; rw [wq_bind]
theorem wq_lname (i : Nat) (K : LK × List PyData → DEnv → Prop) : Wq Z (lName i ρ) K = Wq Z (Res.of ((nameD i ρ).bind seqOf) ρ) K := rfl
theorem wq_guard {α : Type} {c : Prop} [Decidable c] (r : Res α) (K : α → DEnv → Prop) : Wq Z (if c then r else .bad) K = (c ∧ Wq Z r K) := by
  by_cases h : c
  · rw [if_pos h]; exact propext ⟨fun q => ⟨h, q⟩, fun q => q.2⟩
  · rw [if_neg h]; exact propext ⟨fun q => q.elim, fun q => absurd q.1 h⟩
theorem wq_ixN (i : Nat) (f : DEnv → Res PyData) : Wq Z (dIxN i f ρ) Q = ((nameD i ρ).isSome = true ∧ Wq Z (f ρ) fun k ρ1 => Wq Z (Res.of ((nameD i ρ1).bind fun d => oIx d k) ρ1) Q) := by
  unfold dIxN; rw [wq_guard, wq_bind]
theorem wq_inN (op : PyData → PyData → Option PyData) (i : Nat) (f : DEnv → Res PyData) : Wq Z (dInN op i f ρ) Q = Wq Z (f ρ) fun d ρ1 => Wq Z (Res.of ((nameD i ρ1).bind fun s => op d s) ρ1) Q := by unfold dInN; rw [wq_bind]
theorem wq_indexN (i : Nat) (f : DEnv → Res PyData) : Wq Z (dIndexN i f ρ) Q = (isLst (nameD i ρ) = true ∧ Wq Z (f ρ) fun k ρ1 => Wq Z (Res.of ((nameD i ρ1).bind fun d => oIndex d k) ρ1) Q) := by
  unfold dIndexN; rw [wq_guard, wq_bind]
def intQ (Q : Int → DEnv → Prop) (d : PyData) (ρ : DEnv) : Prop := match d with
  | .int i => Q i ρ
  | _ => False
theorem intQ_int (Q : Int → DEnv → Prop) (i : Int) : intQ Q (.int i) ρ = Q i ρ := rfl
theorem wq_tupRg (f : DEnv → Res PyData) : Wq Z (dTupRg f ρ) Q = Wq Z (f ρ) (intQ fun n ρ1 => RgOk 0 n ∧ Q (.tuple (intsD 0 n.toNat)) ρ1) := by
  unfold dTupRg; rw [wq_bind]; congr 1; funext d ρ1
  cases d with
  | int n =>
    show Wq Z (if RgOk 0 n then _ else _) Q = _
    by_cases h : RgOk 0 n
    · rw [if_pos h]; exact propext ⟨fun q => ⟨h, q⟩, fun q => q.2⟩
    · rw [if_neg h]; exact propext ⟨fun q => q.elim, fun q => absurd q.1 h⟩
  | _ => rfl
theorem wq_lstRg (f : DEnv → Res PyData) : Wq Z (fLstRg f ρ) O = Wq Z (f ρ) (intQ fun n ρ1 => RgOk 0 n ∧ O (.lst (intsD 0 n.toNat)) ρ1) := by
  unfold fLstRg; rw [wq_bind]; congr 1; funext d ρ1
  cases d with
  | int n =>
    show Wq Z (if RgOk 0 n then _ else _) O = _
    by_cases h : RgOk 0 n
    · rw [if_pos h]; exact propext ⟨fun q => ⟨h, q⟩, fun q => q.2⟩
    · rw [if_neg h]; exact propext ⟨fun q => q.elim, fun q => absurd q.1 h⟩
  | _ => rfl
theorem wq_sl (f : DEnv → Res PyData) (l u : DEnv → Res (Option Int)) : Wq Z (dSl f l u ρ) Q = Wq Z (f ρ) fun d ρ1 => Wq Z (l ρ1) fun lo ρ2 => Wq Z (u ρ2) fun hi ρ3 => Wq Z (Res.of (slOf d lo hi) ρ3) Q := by
  unfold dSl; rw [wq_bind]; congr 1; funext d ρ1; rw [wq_bind]; congr 1; funext lo ρ2; rw [wq_bind]
theorem wq_noPart (K : Option Int → DEnv → Prop) : Wq Z (oNoPart ρ) K = K none ρ := rfl
theorem wq_part (f : DEnv → Res PyData) (K : Option Int → DEnv → Prop) : Wq Z (oPart f ρ) K = Wq Z (f ρ) (intQ fun i ρ1 => K (some i) ρ1) := by
  unfold oPart; rw [wq_bind]; congr 1; funext d ρ1; cases d <;> rfl
theorem wq_cat (f g : DEnv → Res PyData) (xs ys : List PyData) : True := trivial
/-! calls -/
theorem wq_callV (den : DEnv → Res PyData) (f : DEnv → Res (List PyData)) : Wq Z (dCallV den f ρ) Q = Wq Z (f ρ) fun ds ρ1 => Wq Zn (den (ds.map .val)) fun d _ => Q d ρ1 := by
  unfold dCallV; rw [wq_bind]; congr 1; funext ds ρ1; cases den (ds.map .val) <;> rfl
theorem wq_callI (den : DEnv → Res PyData) (i : Nat) (f : DEnv → Res (List PyData)) : Wq Z (dCallI den i f ρ) Q = ((ρ[i]?.getD .un).isOwn = true ∧ Wq Z (f ρ) fun ds ρ1 => Wq Z (callIO den i ds ρ1) Q) := by
  unfold dCallI; rw [wq_guard, wq_bind]
theorem wq_callIO_io (den : DEnv → Res PyData) (i : Nat) (ds : List PyData) (o : OD) (h : ρ[i]? = some (.io o)) (k : Wq Zn (den (.io o :: ds.map .val)) fun d cs => ∃ o' r, cs = .io o' :: r ∧ Q d (ρ.set i (.io o'))) : Wq Z (callIO den i ds ρ) Q := by
  unfold callIO; rw [h]
  obtain ⟨d, cs, e, o', r, rfl, q⟩ := k.get
  simp only [e]; exact q
theorem wq_callIO_own (den : DEnv → Res PyData) (i : Nat) (ds : List PyData) (o : OD) (h : ρ[i]? = some (.own o)) (k : Wq Zn (den (.io o :: ds.map .val)) fun d cs => ∃ o' r, cs = .io o' :: r ∧ Q d (ρ.set i (.own o'))) : Wq Z (callIO den i ds ρ) Q := by
  unfold callIO; rw [h]
  obtain ⟨d, cs, e, o', r, rfl, q⟩ := k.get
  simp only [e]; exact q
/-! statements -/
def onNx (k : DEnv → Prop) (S : Out → DEnv → Prop) (o : Out) (ρ : DEnv) : Prop := match o with
  | .nx => k ρ
  | o => S o ρ
theorem onNx_nx (k : DEnv → Prop) : onNx k S .nx ρ = k ρ := rfl
theorem onNx_rt (k : DEnv → Prop) (d : PyData) : onNx k S (.rt d) ρ = S (.rt d) ρ := rfl
theorem onNx_bk (k : DEnv → Prop) : onNx k S .bk ρ = S .bk ρ := rfl
theorem onNx_ct (k : DEnv → Prop) : onNx k S .ct ρ = S .ct ρ := rfl
theorem wsq_seq (f g : DEnv → Res Out) : Wq Z (sSeq f g ρ) S = Wq Z (f ρ) (onNx (fun ρ1 => Wq Z (g ρ1) S) S) := by
  unfold sSeq
  cases f ρ with
  | ok o ρ1 => cases o <;> rfl
  | err x ρ1 => rfl
  | bad => rfl
theorem wsq_nx : Wq Z (sNx ρ) S = S .nx ρ := rfl
theorem wsq_bk : Wq Z (sBk ρ) S = S .bk ρ := rfl
theorem wsq_ct : Wq Z (sCt ρ) S = S .ct ρ := rfl
theorem wsq_ret (f : DEnv → Res PyData) : Wq Z (sRet f ρ) S = Wq Z (f ρ) fun d ρ1 => S (.rt d) ρ1 := by unfold sRet; rw [wq_bind]; rfl
theorem wsq_retN : Wq Z (sRetN ρ) S = S (.rt .none) ρ := rfl
theorem wsq_drop (f : DEnv → Res PyData) : Wq Z (sDrop f ρ) S = Wq Z (f ρ) fun _ ρ1 => S .nx ρ1 := by unfold sDrop; rw [wq_bind]; rfl
theorem wsq_if (c : DEnv → Res Bool) (f g : DEnv → Res Out) : Wq Z (sIf c f g ρ) S = Wq Z (c ρ) fun b ρ1 => if b = true then Wq Z (f ρ1) S else Wq Z (g ρ1) S := by
  unfold sIf; rw [wq_bind]; congr 1; funext b ρ1; cases b <;> rfl
theorem wsq_asg (f : DEnv → Res PyData) (g : PyData → DEnv → Option DEnv) : Wq Z (sAsg f g ρ) S = Wq Z (f ρ) fun d ρ1 => Wq Z (nxOf (g d ρ1)) S := by unfold sAsg; rw [wq_bind]
theorem wsq_new (i : Nat) (f : DEnv → Res OD) : Wq Z (sNew i f ρ) S = Wq Z (f ρ) fun o ρ1 => Wq Z (nxOf (setO i o ρ1)) S := by unfold sNew; rw [wq_bind]
theorem wsq_nxOf (ρ1 : DEnv) : Wq Z (nxOf (some ρ1)) S = S .nx ρ1 := rfl
theorem wsq_frz (i : Nat) (f : DEnv → Res Out) : Wq Z (sFrz i f ρ) S = Wq Z (f (frzC i ρ)) S := rfl
theorem wsq_for (fi : DEnv → Res (List PyData)) (g : PyData → DEnv → Option DEnv) (fb : DEnv → Res Out) : Wq Z (sFor fi g fb ρ) S = Wq Z (fi ρ) fun ds ρ1 => Wq Z (forL g fb ds ρ1) S := by unfold sFor; rw [wq_bind]
theorem wq_iseq (f : DEnv → Res PyData) : Wq Z (iSeq f ρ) L = Wq Z (f ρ) fun d ρ1 => Wq Z (Res.of ((seqOf d).map (·.2)) ρ1) L := by unfold iSeq; rw [wq_bind]
theorem wq_irng (op : List PyData → Option (List PyData)) (f : DEnv → Res (List PyData)) : Wq Z (iRng op f ρ) L = Wq Z (f ρ) fun ds ρ1 => Wq Z (Res.of (op ds) ρ1) L := by unfold iRng; rw [wq_bind]
def heldQ (K : List PyData → Prop) (o : Option (List PyData)) : Prop := match o with
  | some ds => K ds
  | none => False
theorem heldQ_some (K : List PyData → Prop) (ds : List PyData) : heldQ K (some ds) = K ds := rfl
def ixQ (K : Nat → Prop) (o : Option Nat) : Prop := match o with
  | some ds => K ds
  | none => False
theorem ixQ_some (K : Nat → Prop) (j : Nat) : ixQ K (some j) = K j := rfl
theorem wsq_app (i : Nat) (f : DEnv → Res PyData) : Wq Z (sApp i f ρ) S = (isHeld i ρ = true ∧ Wq Z (f ρ) fun d ρ1 => heldQ (fun ds => ds.length < sizeLine ∧ S .nx (setHeld i (.lst (ds ++ [d])) ρ1)) (heldL i ρ1)) := by
  unfold sApp; rw [wq_guard, wq_bind]; congr 1; congr 1; funext d ρ1
  cases heldL i ρ1 with
  | none => rfl
  | some ds => exact wq_guard _ _
theorem wsq_setH (i : Nat) (f g : DEnv → Res PyData) : Wq Z (sSetH i f g ρ) S = Wq Z (f ρ) fun d ρ1 => isHeld i ρ1 = true ∧ Wq Z (g ρ1) (intQ fun k ρ2 => heldQ (fun ds => ixQ (fun j => S .nx (setHeld i (.lst (ds.set j d)) ρ2)) (ixN ds.length k)) (heldL i ρ2)) := by
  unfold sSetH; rw [wq_bind]; congr 1; funext d ρ1
  rw [wq_guard, wq_bind]; congr 1; congr 1; funext k ρ2
  cases k with
  | int k =>
    show Wq Z (match heldL i ρ2, PyData.int k with
        | some ds, .int k => match ixN ds.length k with
          | some j => .ok .nx (setHeld i (.lst (ds.set j d)) ρ2)
          | none => .bad
        | _, _ => .bad) S = heldQ _ (heldL i ρ2)
    cases heldL i ρ2 with
    | none => rfl
    | some ds =>
      show Wq Z (match ixN ds.length k with
          | some j => .ok .nx (setHeld i (.lst (ds.set j d)) ρ2)
          | none => .bad) S = ixQ _ (ixN ds.length k)
      cases ixN ds.length k <;> rfl
  | _ => cases heldL i ρ2 <;> rfl
theorem wq_popAt (i : Nat) (f : DEnv → Res PyData) : Wq Z (dPopAt i f ρ) Q = (isHeld i ρ = true ∧ Wq Z (f ρ) (intQ fun k ρ1 => heldQ (fun ds => ixQ (fun j => Wq Z (Res.of (ds[j]?) ρ1) fun d ρ1 => ds.length ≤ sizeLine ∧ Q d (setHeld i (.lst (ds.eraseIdx j)) ρ1)) (ixN ds.length k)) (heldL i ρ1))) := by
  unfold dPopAt; rw [wq_guard, wq_bind]; congr 1; congr 1; funext d ρ1
  cases d with
  | int k =>
    show Wq Z (match heldL i ρ1, PyData.int k with
        | some ds, .int k => match ixN ds.length k with
          | some j => match ds[j]? with
            | some d => if ds.length ≤ sizeLine then .ok d (setHeld i (.lst (ds.eraseIdx j)) ρ1) else .bad
            | none => .bad
          | none => .bad
        | _, _ => .bad) Q = heldQ _ (heldL i ρ1)
    cases heldL i ρ1 with
    | none => rfl
    | some ds =>
      show Wq Z (match ixN ds.length k with
          | some j => match ds[j]? with
            | some d => if ds.length ≤ sizeLine then .ok d (setHeld i (.lst (ds.eraseIdx j)) ρ1) else .bad
            | none => .bad
          | none => .bad) Q = ixQ _ (ixN ds.length k)
      cases ixN ds.length k with
      | none => rfl
      | some j =>
        show Wq Z (match ds[j]? with
            | some d => if ds.length ≤ sizeLine then .ok d (setHeld i (.lst (ds.eraseIdx j)) ρ1) else .bad
            | none => .bad) Q = Wq Z (Res.of (ds[j]?) ρ1) _
        cases ds[j]? with
        | none => rfl
        | some d => exact wq_guard _ _
  | _ => cases heldL i ρ1 <;> rfl
def retQ (cs : DEnv) (Q : PyData → DEnv → Prop) (o : Out) (ρ : DEnv) : Prop := match o with
  | .nx => Q .none (backIO cs ρ)
  | .rt d => Q d (backIO cs ρ)
  | _ => False
theorem retQ_rt (cs : DEnv) (d : PyData) : retQ cs Q (.rt d) ρ = Q d (backIO cs ρ) := rfl
theorem retQ_nx (cs : DEnv) : retQ cs Q .nx ρ = Q .none (backIO cs ρ) := rfl
theorem wq_def (m : Nat) (body : DEnv → Res Out) (cs : DEnv) (h : Wq Zn (body (cs ++ List.replicate m .un)) (retQ cs Q)) : Wq Zn (defD m body cs) Q := by
  unfold defD
  cases e : body (cs ++ List.replicate m .un) with
  | ok o ρ => rw [e] at h; cases o <;> exact h
  | err x ρ => rw [e] at h; exact h
  | bad => rw [e] at h; exact h
/-! comprehensions -/
theorem wq_lc (vs : List Nat) (fi : DEnv → Res (List PyData)) (gd : PyData → DEnv → Option DEnv) (ft : DEnv → Res Bool) (fe : DEnv → Res PyData) : Wq Z (fLc vs fi gd ft fe ρ) O = Wq Z (fi ρ) fun ds ρ1 => Wq Zn (lcL vs gd ft fe ds [] (wipeC ρ1 vs)) fun acc ρ2 => O (.lst acc) (unwipe vs ρ1 ρ2) := by
  unfold fLc; rw [wq_bind]; congr 1; funext ds ρ1
  cases lcL vs gd ft fe ds [] (wipeC ρ1 vs) <;> rfl
end
/-- as Wq, and never unfolded -/
structure WpX {α : Type} (Z : Exn → DEnv → Prop) (r : Res α) (Q : α → DEnv → Prop) : Prop where
  of ::
  out : Wq Z r Q
theorem wpq : @WpX = @Wq := by funext α Z r Q; exact propext ⟨WpX.out, WpX.of⟩
theorem WpX.get {α : Type} {r : Res α} {Q : α → DEnv → Prop} (h : WpX Zn r Q) : ∃ a ρ, r = .ok a ρ ∧ Q a ρ := h.out.get
theorem WpX.mono {α : Type} {r : Res α} {Q Q' : α → DEnv → Prop} (h : WpX Z r Q) (k : ∀ a ρ, Q a ρ → Q' a ρ) : WpX Z r Q' := ⟨h.out.mono k⟩
theorem WpX.ok {α : Type} {r : Res α} {Q : α → DEnv → Prop} {a : α} {ρ : DEnv} (e : r = .ok a ρ) (h : Q a ρ) : WpX Z r Q := by subst e; exact ⟨h⟩
theorem wp_ok {α : Type} (a : α) (ρ : DEnv) (Q : α → DEnv → Prop) : WpX Z (.ok a ρ) Q = Q a ρ := by
  simp only [wpq] at *
  apply wq_ok <;> assumption
theorem wp_bad {α : Type} (Q : α → DEnv → Prop) : WpX Z (.bad : Res α) Q = False := by
  simp only [wpq] at *
  apply wq_bad <;> assumption
theorem wp_bind {α β : Type} (r : Res α) (k : α → DEnv → Res β) (Q : β → DEnv → Prop) : WpX Z (r.bind k) Q = WpX Z r fun a ρ => WpX Z (k a ρ) Q := by
  simp only [wpq] at *
  apply wq_bind <;> assumption
theorem wp_of {α : Type} (o : Option α) (ρ : DEnv) (Q : α → DEnv → Prop) : WpX Z (Res.of o ρ) Q = ∃ a, o = some a ∧ Q a ρ := by
  simp only [wpq] at *
  apply wq_of <;> assumption
theorem wp_of_some {α : Type} (a : α) (ρ : DEnv) (Q : α → DEnv → Prop) : WpX Z (Res.of (some a) ρ) Q = Q a ρ := by
  simp only [wpq] at *
  apply wq_of_some <;> assumption
theorem wp_ite {α : Type} {c : Prop} [Decidable c] (a b : Res α) (Q : α → DEnv → Prop) : WpX Z (if c then a else b) Q = if c then WpX Z a Q else WpX Z b Q := by
  simp only [wpq] at *
  apply wq_ite <;> assumption
section
variable (ρ : DEnv) (Q : PyData → DEnv → Prop) (S : Out → DEnv → Prop) (T : Bool → DEnv → Prop) (L : List PyData → DEnv → Prop) (O : OD → DEnv → Prop)
theorem wp_C (d : PyData) : WpX Z (dC d ρ) Q = Q d ρ := by
  simp only [wpq] at *
  apply wq_C <;> assumption
theorem wp_var (i : Nat) (d : PyData) (h : ρ[i]? = some (.val d)) : WpX Z (dVar i ρ) Q = Q d ρ := by
  simp only [wpq] at *
  apply wq_var <;> assumption
theorem wp_vr (i : Nat) : WpX Z (dVar i ρ) Q = cellQ Q (ρ[i]?) ρ := by
  simp only [wpq] at *
  apply wq_vr <;> assumption
theorem wp_of_ite {α : Type} {c : Prop} [Decidable c] (a : α) (K : α → DEnv → Prop) : WpX Z (Res.of (if c then some a else none) ρ) K = (c ∧ K a ρ) := by
  simp only [wpq] at *
  apply wq_of_ite <;> assumption
theorem wp_op (op : PyData → PyData → Option PyData) (f g : DEnv → Res PyData) : WpX Z (dOp op f g ρ) Q = WpX Z (f ρ) fun x ρ1 => WpX Z (g ρ1) fun y ρ2 => WpX Z (Res.of (op x y) ρ2) Q := by
  simp only [wpq] at *
  apply wq_op <;> assumption
theorem wp_un (op : PyData → Option PyData) (f : DEnv → Res PyData) : WpX Z (dUn op f ρ) Q = WpX Z (f ρ) fun x ρ1 => WpX Z (Res.of (op x) ρ1) Q := by
  simp only [wpq] at *
  apply wq_un <;> assumption
theorem wp_nil : WpX Z (dNil ρ) L = L [] ρ := by
  simp only [wpq] at *
  apply wq_nil <;> assumption
theorem wp_cons (f : DEnv → Res PyData) (g : DEnv → Res (List PyData)) : WpX Z (dCons f g ρ) L = WpX Z (f ρ) fun x ρ1 => WpX Z (g ρ1) fun xs ρ2 => L (x :: xs) ρ2 := by
  simp only [wpq] at *
  apply wq_cons <;> assumption
theorem wp_call (op : List PyData → Option PyData) (f : DEnv → Res (List PyData)) : WpX Z (dCall op f ρ) Q = WpX Z (f ρ) fun x ρ1 => WpX Z (Res.of (op x) ρ1) Q := by
  simp only [wpq] at *
  apply wq_call <;> assumption
theorem wp_tup (f : DEnv → Res (List PyData)) : WpX Z (dTup f ρ) Q = WpX Z (f ρ) fun x ρ1 => x.length ≤ sizeLine ∧ Q (.tuple x) ρ1 := by
  simp only [wpq] at *
  apply wq_tup <;> assumption
theorem wp_lst (f : DEnv → Res (List PyData)) : WpX Z (fLst f ρ) O = WpX Z (f ρ) fun x ρ1 => x.length ≤ sizeLine ∧ O (.lst x) ρ1 := by
  simp only [wpq] at *
  apply wq_lst <;> assumption
theorem wp_frz (f : DEnv → Res OD) : WpX Z (dFrz f ρ) Q = WpX Z (f ρ) (frzQ Q) := by
  simp only [wpq] at *
  apply wq_frz <;> assumption
theorem wp_tof (f : DEnv → Res PyData) : WpX Z (tOf f ρ) T = WpX Z (f ρ) (boolQ T) := by
  simp only [wpq] at *
  apply wq_tof <;> assumption
theorem wp_tru (f : DEnv → Res PyData) : WpX Z (tTru f ρ) T = WpX Z (f ρ) fun x ρ1 => WpX Z (Res.of (tru x) ρ1) T := by
  simp only [wpq] at *
  apply wq_tru <;> assumption
theorem wp_tnot (f : DEnv → Res Bool) : WpX Z (tNotD f ρ) T = WpX Z (f ρ) fun b ρ1 => T (!b) ρ1 := by
  simp only [wpq] at *
  apply wq_tnot <;> assumption
theorem wp_tand (f g : DEnv → Res Bool) : WpX Z (tAndD f g ρ) T = WpX Z (f ρ) fun b ρ1 => if b = true then WpX Z (g ρ1) T else T false ρ1 := by
  simp only [wpq] at *
  apply wq_tand <;> assumption
theorem wp_tor (f g : DEnv → Res Bool) : WpX Z (tOrD f g ρ) T = WpX Z (f ρ) fun b ρ1 => if b = true then T true ρ1 else WpX Z (g ρ1) T := by
  simp only [wpq] at *
  apply wq_tor <;> assumption
theorem wp_and (f g : DEnv → Res PyData) : WpX Z (dAndD f g ρ) Q = WpX Z (f ρ) (boolQ fun b ρ1 => if b = true then WpX Z (g ρ1) Q else Q (.bool false) ρ1) := by
  simp only [wpq] at *
  apply wq_and <;> assumption
theorem wp_or (f g : DEnv → Res PyData) : WpX Z (dOrD f g ρ) Q = WpX Z (f ρ) (boolQ fun b ρ1 => if b = true then Q (.bool true) ρ1 else WpX Z (g ρ1) Q) := by
  simp only [wpq] at *
  apply wq_or <;> assumption
theorem wp_not (f : DEnv → Res PyData) : WpX Z (dNotD f ρ) Q = WpX Z (f ρ) (boolQ fun b ρ1 => Q (.bool (!b)) ρ1) := by
  simp only [wpq] at *
  apply wq_not <;> assumption
theorem wp_if (c : DEnv → Res Bool) (f g : DEnv → Res PyData) : WpX Z (dIf c f g ρ) Q = WpX Z (c ρ) fun b ρ1 => if b = true then WpX Z (f ρ1) Q else WpX Z (g ρ1) Q := by
  simp only [wpq] at *
  apply wq_if <;> assumption
theorem wp_chain (op1 op2 : PyData → PyData → Option PyData) (f g h : DEnv → Res PyData) : WpX Z (dChain op1 op2 f g h ρ) Q = WpX Z (f ρ) fun x ρ1 => WpX Z (g ρ1) fun y ρ2 => WpX Z (Res.of (op1 x y) ρ2) (boolQ fun b ρ3 => if b = true then WpX Z (h ρ3) fun z ρ4 => WpX Z (Res.of (op2 y z) ρ4) Q else Q (.bool false) ρ3) := by
  simp only [wpq] at *
  apply wq_chain <;> assumption
theorem wp_len (f : DEnv → Res (LK × List PyData)) : WpX Z (dLen f ρ) Q = WpX Z (f ρ) fun kd ρ1 => Q (.int (kd.2.length : Nat)) ρ1 := by
  simp only [wpq] at *
  apply wq_len <;> assumption
theorem wp_tupleOf (f : DEnv → Res (LK × List PyData)) : WpX Z (dTupleOf f ρ) Q = WpX Z (f ρ) fun kd ρ1 => Q (.tuple kd.2) ρ1 := by
  simp only [wpq] at *
  apply wq_tupleOf <;> assumption
theorem wp_listOf (f : DEnv → Res (LK × List PyData)) : WpX Z (fListOf f ρ) O = WpX Z (f ρ) fun kd ρ1 => O (.lst kd.2) ρ1 := by
  simp only [wpq] at *
  apply wq_listOf <;> assumption
theorem wp_lof (f : DEnv → Res PyData) (K : LK × List PyData → DEnv → Prop) : WpX Z (lOf f ρ) K = WpX Z (f ρ) fun d ρ1 => WpX Z (Res.of (seqOf d) ρ1) K := by
  simp only [wpq] at *
  apply wq_lof <;> assumption
theorem wp_lname (i : Nat) (K : LK × List PyData → DEnv → Prop) : WpX Z (lName i ρ) K = WpX Z (Res.of ((nameD i ρ).bind seqOf) ρ) K := by
  simp only [wpq] at *
  apply wq_lname <;> assumption
theorem wp_guard {α : Type} {c : Prop} [Decidable c] (r : Res α) (K : α → DEnv → Prop) : WpX Z (if c then r else .bad) K = (c ∧ WpX Z r K) := by
  simp only [wpq] at *
  apply wq_guard <;> assumption
theorem wp_ixN (i : Nat) (f : DEnv → Res PyData) : WpX Z (dIxN i f ρ) Q = ((nameD i ρ).isSome = true ∧ WpX Z (f ρ) fun k ρ1 => WpX Z (Res.of ((nameD i ρ1).bind fun d => oIx d k) ρ1) Q) := by
  simp only [wpq] at *
  apply wq_ixN <;> assumption
theorem wp_inN (op : PyData → PyData → Option PyData) (i : Nat) (f : DEnv → Res PyData) : WpX Z (dInN op i f ρ) Q = WpX Z (f ρ) fun d ρ1 => WpX Z (Res.of ((nameD i ρ1).bind fun s => op d s) ρ1) Q := by
  simp only [wpq] at *
  apply wq_inN <;> assumption
theorem wp_indexN (i : Nat) (f : DEnv → Res PyData) : WpX Z (dIndexN i f ρ) Q = (isLst (nameD i ρ) = true ∧ WpX Z (f ρ) fun k ρ1 => WpX Z (Res.of ((nameD i ρ1).bind fun d => oIndex d k) ρ1) Q) := by
  simp only [wpq] at *
  apply wq_indexN <;> assumption
theorem wp_tupRg (f : DEnv → Res PyData) : WpX Z (dTupRg f ρ) Q = WpX Z (f ρ) (intQ fun n ρ1 => RgOk 0 n ∧ Q (.tuple (intsD 0 n.toNat)) ρ1) := by
  simp only [wpq] at *
  apply wq_tupRg <;> assumption
theorem wp_lstRg (f : DEnv → Res PyData) : WpX Z (fLstRg f ρ) O = WpX Z (f ρ) (intQ fun n ρ1 => RgOk 0 n ∧ O (.lst (intsD 0 n.toNat)) ρ1) := by
  simp only [wpq] at *
  apply wq_lstRg <;> assumption
theorem wp_sl (f : DEnv → Res PyData) (l u : DEnv → Res (Option Int)) : WpX Z (dSl f l u ρ) Q = WpX Z (f ρ) fun d ρ1 => WpX Z (l ρ1) fun lo ρ2 => WpX Z (u ρ2) fun hi ρ3 => WpX Z (Res.of (slOf d lo hi) ρ3) Q := by
  simp only [wpq] at *
  apply wq_sl <;> assumption
theorem wp_noPart (K : Option Int → DEnv → Prop) : WpX Z (oNoPart ρ) K = K none ρ := by
  simp only [wpq] at *
  apply wq_noPart <;> assumption
theorem wp_part (f : DEnv → Res PyData) (K : Option Int → DEnv → Prop) : WpX Z (oPart f ρ) K = WpX Z (f ρ) (intQ fun i ρ1 => K (some i) ρ1) := by
  simp only [wpq] at *
  apply wq_part <;> assumption
theorem wp_callV (den : DEnv → Res PyData) (f : DEnv → Res (List PyData)) : WpX Z (dCallV den f ρ) Q = WpX Z (f ρ) fun ds ρ1 => WpX Zn (den (ds.map .val)) fun d _ => Q d ρ1 := by
  simp only [wpq] at *
  apply wq_callV <;> assumption
theorem wp_callI (den : DEnv → Res PyData) (i : Nat) (f : DEnv → Res (List PyData)) : WpX Z (dCallI den i f ρ) Q = ((ρ[i]?.getD .un).isOwn = true ∧ WpX Z (f ρ) fun ds ρ1 => WpX Z (callIO den i ds ρ1) Q) := by
  simp only [wpq] at *
  apply wq_callI <;> assumption
theorem wp_callIO_io (den : DEnv → Res PyData) (i : Nat) (ds : List PyData) (o : OD) (h : ρ[i]? = some (.io o)) (k : WpX Zn (den (.io o :: ds.map .val)) fun d cs => ∃ o' r, cs = .io o' :: r ∧ Q d (ρ.set i (.io o'))) : WpX Z (callIO den i ds ρ) Q := by
  simp only [wpq] at *
  apply wq_callIO_io <;> assumption
theorem wp_callIO_own (den : DEnv → Res PyData) (i : Nat) (ds : List PyData) (o : OD) (h : ρ[i]? = some (.own o)) (k : WpX Zn (den (.io o :: ds.map .val)) fun d cs => ∃ o' r, cs = .io o' :: r ∧ Q d (ρ.set i (.own o'))) : WpX Z (callIO den i ds ρ) Q := by
  simp only [wpq] at *
  apply wq_callIO_own <;> assumption
theorem ws_seq (f g : DEnv → Res Out) : WpX Z (sSeq f g ρ) S = WpX Z (f ρ) (onNx (fun ρ1 => WpX Z (g ρ1) S) S) := by
  simp only [wpq] at *
  apply wsq_seq <;> assumption
theorem ws_nx : WpX Z (sNx ρ) S = S .nx ρ := by
  simp only [wpq] at *
  apply wsq_nx <;> assumption
theorem ws_bk : WpX Z (sBk ρ) S = S .bk ρ := by
  simp only [wpq] at *
  apply wsq_bk <;> assumption
theorem ws_ct : WpX Z (sCt ρ) S = S .ct ρ := by
  simp only [wpq] at *
  apply wsq_ct <;> assumption
theorem ws_ret (f : DEnv → Res PyData) : WpX Z (sRet f ρ) S = WpX Z (f ρ) fun d ρ1 => S (.rt d) ρ1 := by
  simp only [wpq] at *
  apply wsq_ret <;> assumption
theorem ws_retN : WpX Z (sRetN ρ) S = S (.rt .none) ρ := by
  simp only [wpq] at *
  apply wsq_retN <;> assumption
theorem ws_drop (f : DEnv → Res PyData) : WpX Z (sDrop f ρ) S = WpX Z (f ρ) fun _ ρ1 => S .nx ρ1 := by
  simp only [wpq] at *
  apply wsq_drop <;> assumption
theorem ws_if (c : DEnv → Res Bool) (f g : DEnv → Res Out) : WpX Z (sIf c f g ρ) S = WpX Z (c ρ) fun b ρ1 => if b = true then WpX Z (f ρ1) S else WpX Z (g ρ1) S := by
  simp only [wpq] at *
  apply wsq_if <;> assumption
theorem ws_asg (f : DEnv → Res PyData) (g : PyData → DEnv → Option DEnv) : WpX Z (sAsg f g ρ) S = WpX Z (f ρ) fun d ρ1 => WpX Z (nxOf (g d ρ1)) S := by
  simp only [wpq] at *
  apply wsq_asg <;> assumption
theorem ws_new (i : Nat) (f : DEnv → Res OD) : WpX Z (sNew i f ρ) S = WpX Z (f ρ) fun o ρ1 => WpX Z (nxOf (setO i o ρ1)) S := by
  simp only [wpq] at *
  apply wsq_new <;> assumption
theorem ws_nxOf (ρ1 : DEnv) : WpX Z (nxOf (some ρ1)) S = S .nx ρ1 := by
  simp only [wpq] at *
  apply wsq_nxOf <;> assumption
theorem ws_frz (i : Nat) (f : DEnv → Res Out) : WpX Z (sFrz i f ρ) S = WpX Z (f (frzC i ρ)) S := by
  simp only [wpq] at *
  apply wsq_frz <;> assumption
theorem ws_for (fi : DEnv → Res (List PyData)) (g : PyData → DEnv → Option DEnv) (fb : DEnv → Res Out) : WpX Z (sFor fi g fb ρ) S = WpX Z (fi ρ) fun ds ρ1 => WpX Z (forL g fb ds ρ1) S := by
  simp only [wpq] at *
  apply wsq_for <;> assumption
theorem wp_iseq (f : DEnv → Res PyData) : WpX Z (iSeq f ρ) L = WpX Z (f ρ) fun d ρ1 => WpX Z (Res.of ((seqOf d).map (·.2)) ρ1) L := by
  simp only [wpq] at *
  apply wq_iseq <;> assumption
theorem wp_irng (op : List PyData → Option (List PyData)) (f : DEnv → Res (List PyData)) : WpX Z (iRng op f ρ) L = WpX Z (f ρ) fun ds ρ1 => WpX Z (Res.of (op ds) ρ1) L := by
  simp only [wpq] at *
  apply wq_irng <;> assumption
theorem ws_app (i : Nat) (f : DEnv → Res PyData) : WpX Z (sApp i f ρ) S = (isHeld i ρ = true ∧ WpX Z (f ρ) fun d ρ1 => heldQ (fun ds => ds.length < sizeLine ∧ S .nx (setHeld i (.lst (ds ++ [d])) ρ1)) (heldL i ρ1)) := by
  simp only [wpq] at *
  apply wsq_app <;> assumption
theorem ws_setH (i : Nat) (f g : DEnv → Res PyData) : WpX Z (sSetH i f g ρ) S = WpX Z (f ρ) fun d ρ1 => isHeld i ρ1 = true ∧ WpX Z (g ρ1) (intQ fun k ρ2 => heldQ (fun ds => ixQ (fun j => S .nx (setHeld i (.lst (ds.set j d)) ρ2)) (ixN ds.length k)) (heldL i ρ2)) := by
  simp only [wpq] at *
  apply wsq_setH <;> assumption
theorem wp_popAt (i : Nat) (f : DEnv → Res PyData) : WpX Z (dPopAt i f ρ) Q = (isHeld i ρ = true ∧ WpX Z (f ρ) (intQ fun k ρ1 => heldQ (fun ds => ixQ (fun j => WpX Z (Res.of (ds[j]?) ρ1) fun d ρ1 => ds.length ≤ sizeLine ∧ Q d (setHeld i (.lst (ds.eraseIdx j)) ρ1)) (ixN ds.length k)) (heldL i ρ1))) := by
  simp only [wpq] at *
  apply wq_popAt <;> assumption
theorem wp_def (m : Nat) (body : DEnv → Res Out) (cs : DEnv) (h : WpX Zn (body (cs ++ List.replicate m .un)) (retQ cs Q)) : WpX Zn (defD m body cs) Q := by
  simp only [wpq] at *
  apply wq_def <;> assumption
theorem wp_lc (vs : List Nat) (fi : DEnv → Res (List PyData)) (gd : PyData → DEnv → Option DEnv) (ft : DEnv → Res Bool) (fe : DEnv → Res PyData) : WpX Z (fLc vs fi gd ft fe ρ) O = WpX Z (fi ρ) fun ds ρ1 => WpX Zn (lcL vs gd ft fe ds [] (wipeC ρ1 vs)) fun acc ρ2 => O (.lst acc) (unwipe vs ρ1 ρ2) := by
  simp only [wpq] at *
  apply wq_lc <;> assumption
end
end
theorem cmul_r {i j : Int} (h : -(2 ^ 64) < j ∧ j < 2 ^ 64) : CMul i j = True := eq_true (.inr h)
theorem cmul_l {i j : Int} (h : -(2 ^ 64) < i ∧ i < 2 ^ 64) : CMul i j = True := eq_true (.inl h)
/-! what is reckoned where the kinds are known -/
def setVo (c : Option Cell) (i : Nat) (d : PyData) (ρ : DEnv) : Option DEnv := match c with
  | some (.io _) => none
  | some _ => some (ρ.set i (.val d))
  | none => none
theorem setV_eq (i : Nat) (d : PyData) (ρ : DEnv) : setV i d ρ = setVo (ρ[i]?) i d ρ := rfl
theorem setVo_val (x : PyData) (i : Nat) (d : PyData) (ρ : DEnv) : setVo (some (.val x)) i d ρ = some (ρ.set i (.val d)) := rfl
theorem setVo_un (i : Nat) (d : PyData) (ρ : DEnv) : setVo (some .un) i d ρ = some (ρ.set i (.val d)) := rfl
theorem setVo_own (x : OD) (i : Nat) (d : PyData) (ρ : DEnv) : setVo (some (.own x)) i d ρ = some (ρ.set i (.val d)) := rfl
def setOo (c : Option Cell) (i : Nat) (d : OD) (ρ : DEnv) : Option DEnv := match c with
  | some (.io _) => none
  | some _ => some (ρ.set i (.own d))
  | none => none
theorem setO_eq (i : Nat) (d : OD) (ρ : DEnv) : setO i d ρ = setOo (ρ[i]?) i d ρ := rfl
theorem setOo_val (x : PyData) (i : Nat) (d : OD) (ρ : DEnv) : setOo (some (.val x)) i d ρ = some (ρ.set i (.own d)) := rfl
theorem setOo_un (i : Nat) (d : OD) (ρ : DEnv) : setOo (some .un) i d ρ = some (ρ.set i (.own d)) := rfl
theorem setOo_own (x : OD) (i : Nat) (d : OD) (ρ : DEnv) : setOo (some (.own x)) i d ρ = some (ρ.set i (.own d)) := rfl
def nameO (c : Option Cell) : Option PyData := match c with
  | some (.val d) => some d
  | some (.own (.lst ds)) => some (.list ds)
  | some (.io (.lst ds)) => some (.list ds)
  | _ => none
theorem nameD_eq (i : Nat) (ρ : DEnv) : nameD i ρ = nameO (ρ[i]?) := rfl
theorem nameO_val (d : PyData) : nameO (some (.val d)) = some d := rfl
theorem nameO_own (ds : List PyData) : nameO (some (.own (.lst ds))) = some (.list ds) := rfl
theorem nameO_io (ds : List PyData) : nameO (some (.io (.lst ds))) = some (.list ds) := rfl
def heldO (c : Option Cell) : Option (List PyData) := match c with
  | some (.own (.lst ds)) => some ds
  | some (.io (.lst ds)) => some ds
  | _ => none
theorem heldL_eq (i : Nat) (ρ : DEnv) : heldL i ρ = heldO (ρ[i]?) := rfl
theorem heldO_own (ds : List PyData) : heldO (some (.own (.lst ds))) = some ds := rfl
theorem heldO_io (ds : List PyData) : heldO (some (.io (.lst ds))) = some ds := rfl
theorem isHeld_eq (i : Nat) (ρ : DEnv) : isHeld i ρ = (heldO (ρ[i]?)).isSome := by
  unfold isHeld
  rw [heldL_eq]
  cases heldO (ρ[i]?) <;> rfl
def setHeldO (c : Option Cell) (i : Nat) (o : OD) (ρ : DEnv) : DEnv := match c with
  | some (.own _) => ρ.set i (.own o)
  | some (.io _) => ρ.set i (.io o)
  | _ => ρ
theorem setHeld_eq (i : Nat) (o : OD) (ρ : DEnv) : setHeld i o ρ = setHeldO (ρ[i]?) i o ρ := rfl
theorem setHeldO_own (x : OD) (i : Nat) (o : OD) (ρ : DEnv) : setHeldO (some (.own x)) i o ρ = ρ.set i (.own o) := rfl
theorem setHeldO_io (x : OD) (i : Nat) (o : OD) (ρ : DEnv) : setHeldO (some (.io x)) i o ρ = ρ.set i (.io o) := rfl
def frzO (c : Option Cell) (i : Nat) (ρ : DEnv) : DEnv := match c with
  | some (.own (.lst ds)) => ρ.set i (.val (.list ds))
  | _ => ρ
theorem frzC_eq (i : Nat) (ρ : DEnv) : frzC i ρ = frzO (ρ[i]?) i ρ := rfl
theorem frzO_own (ds : List PyData) (i : Nat) (ρ : DEnv) : frzO (some (.own (.lst ds))) i ρ = ρ.set i (.val (.list ds)) := rfl
theorem frzO_val (d : PyData) (i : Nat) (ρ : DEnv) : frzO (some (.val d)) i ρ = ρ := rfl
theorem frzO_io (o : OD) (i : Nat) (ρ : DEnv) : frzO (some (.io o)) i ρ = ρ := rfl
theorem frzO_un (i : Nat) (ρ : DEnv) : frzO (some .un) i ρ = ρ := rfl
theorem own_own (o : OD) : (Cell.own o).isOwn = true := rfl
theorem own_io (o : OD) : (Cell.io o).isOwn = true := rfl
theorem isLst_some (ds : List PyData) : isLst (some (.list ds)) = true := rfl
theorem oAdd_int (i j : Int) : oAdd (.int i) (.int j) = some (.int (i + j)) := rfl
theorem oAdd_tup (xs ys : List PyData) : oAdd (.tuple xs) (.tuple ys) = if xs.length + ys.length ≤ sizeLine then some (.tuple (xs ++ ys)) else none := rfl
theorem oAdd_lst (xs ys : List PyData) : oAdd (.list xs) (.list ys) = if xs.length + ys.length ≤ sizeLine then some (.list (xs ++ ys)) else none := rfl
theorem oAdd_str (x y : Str) : oAdd (.str x) (.str y) = if x.length + y.length ≤ sizeLine then some (.str (x ++ y)) else none := rfl
theorem oAddI_dummy : True := trivial
theorem oSub_int (i j : Int) : oSub (.int i) (.int j) = some (.int (i - j)) := rfl
theorem oMul_int (i j : Int) : oMul (.int i) (.int j) = if CMul i j then some (.int (i * j)) else none := rfl
theorem oMul_tup (xs : List PyData) (k : Int) : oMul (.tuple xs) (.int k) = if xs ≠ [] ∧ 2 ≤ k ∧ k ≤ 1000 ∧ xs.length ≤ 1000 then some (.tuple (List.replicate k.toNat xs).flatten) else none := rfl
theorem oMul_lst (xs : List PyData) (k : Int) : oMul (.list xs) (.int k) = if -(2 ^ 63) ≤ k ∧ k < 2 ^ 63 ∧ xs.length * k.toNat ≤ sizeLine then some (.list (List.replicate k.toNat xs).flatten) else none := rfl
theorem oDiv_int (i j : Int) : oDiv (.int i) (.int j) = if 0 < j ∧ j < 1073741824 then some (.int (i / j)) else none := rfl
theorem oMod_int (i j : Int) : oMod (.int i) (.int j) = if 0 < j then some (.int (i % j)) else none := rfl
theorem oPow_int (i j : Int) : oPow (.int i) (.int j) = if 0 ≤ j ∧ j ≤ 1000000 ∧ i.natAbs < 2 ^ 64 then some (.int (i ^ j.toNat)) else none := rfl
theorem oNeg_int (i : Int) : oNeg (.int i) = some (.int (-i)) := rfl
theorem oLt_int (i j : Int) : oLt (.int i) (.int j) = some (.bool (decide (i < j))) := rfl
theorem oLe_int (i j : Int) : oLe (.int i) (.int j) = some (.bool (decide (i ≤ j))) := rfl
theorem oGt_int (i j : Int) : oGt (.int i) (.int j) = some (.bool (decide (j < i))) := rfl
theorem oGe_int (i j : Int) : oGe (.int i) (.int j) = some (.bool (decide (j ≤ i))) := rfl
theorem oIx_lst (ds : List PyData) (k : Int) : oIx (.list ds) (.int k) = atI ds k := rfl
theorem oIx_tup (ds : List PyData) (k : Int) : oIx (.tuple ds) (.int k) = atI ds k := rfl
theorem oInt_int (i : Int) : oInt [.int i] = some (.int i) := rfl
theorem oInt_bool (b : Bool) : oInt [.bool b] = some (.int (if b then 1 else 0)) := rfl
theorem oMax2_int (i j : Int) : oMax2 [.int i, .int j] = some (.int (if j > i then j else i)) := rfl
theorem oMin2_int (i j : Int) : oMin2 [.int i, .int j] = some (.int (if j < i then j else i)) := rfl
theorem oEq_int (i j : Int) : oEq (.int i) (.int j) = some (.bool (i == j)) := by
  unfold oEq
  rw [if_pos ⟨Shp.ok (.int (k := 0) i), Shp.ok (.int (k := 0) j)⟩, eqv_int]
theorem oNe_int (i j : Int) : oNe (.int i) (.int j) = some (.bool (i != j)) := by
  unfold oNe
  rw [if_pos ⟨Shp.ok (.int (k := 0) i), Shp.ok (.int (k := 0) j)⟩, eqv_int]
  rfl
theorem oEq_bool (i j : Bool) : oEq (.bool i) (.bool j) = some (.bool (i == j)) := by
  unfold oEq
  rw [if_pos ⟨Shp.ok (.bool (k := 0) i), Shp.ok (.bool (k := 0) j)⟩, eqv_bool]
theorem oNe_bool (i j : Bool) : oNe (.bool i) (.bool j) = some (.bool (i != j)) := by
  unfold oNe
  rw [if_pos ⟨Shp.ok (.bool (k := 0) i), Shp.ok (.bool (k := 0) j)⟩, eqv_bool]
  rfl
theorem oIsN_none (d : PyData) : oIsN d .none = some (.bool (isNone d)) := rfl
theorem oNotN_none (d : PyData) : oNotN d .none = some (.bool (!isNone d)) := rfl
theorem isNone_none : isNone .none = true := rfl
theorem isNone_int (i : Int) : isNone (.int i) = false := rfl
theorem isNone_tup (ds : List PyData) : isNone (.tuple ds) = false := rfl
theorem isNone_lst (ds : List PyData) : isNone (.list ds) = false := rfl
theorem isNone_str (x : Str) : isNone (.str x) = false := rfl
theorem tru_bool (b : Bool) : tru (.bool b) = some b := rfl
theorem tru_int (i : Int) : tru (.int i) = some (i != 0) := rfl
theorem tru_none : tru .none = some false := rfl
theorem tru_lst (ds : List PyData) : tru (.list ds) = some (!ds.isEmpty) := rfl
theorem tru_tup (ds : List PyData) : tru (.tuple ds) = some (!ds.isEmpty) := rfl
theorem seqOf_lst (ds : List PyData) : seqOf (.list ds) = some (.L, ds) := rfl
theorem seqOf_tup (ds : List PyData) : seqOf (.tuple ds) = some (.T, ds) := rfl
theorem slOf_lst (ds : List PyData) (lo hi : Option Int) : slOf (.list ds) lo hi = some (.list (cutD ds lo hi)) := rfl
theorem slOf_tup (ds : List PyData) (lo hi : Option Int) : slOf (.tuple ds) lo hi = some (.tuple (cutD ds lo hi)) := rfl
theorem rng1_int (j : Int) : rng1 [.int j] = if inR j then some (intsD 0 j.toNat) else none := rfl
theorem rng2_int (i j : Int) : rng2 [.int i, .int j] = if inR i ∧ inR j then some (intsD i (j - i).toNat) else none := rfl
theorem wipeC_nil (ρ : DEnv) : wipeC ρ [] = ρ := rfl
theorem wipeC_cons (ρ : DEnv) (v : Nat) (vs : List Nat) : wipeC ρ (v :: vs) = (wipeC ρ vs).set v .un := rfl
theorem backIO_nil (ρ : DEnv) : backIO [] ρ = [] := by cases ρ <;> rfl
theorem backIO_io' (o : OD) (cs : DEnv) (c : Cell) (ρ : DEnv) : backIO (.io o :: cs) (c :: ρ) = c :: backIO cs ρ := rfl
theorem backIO_val (d : PyData) (cs : DEnv) (c : Cell) (ρ : DEnv) : backIO (.val d :: cs) (c :: ρ) = .val d :: backIO cs ρ := rfl
theorem ixN_lit {n : Nat} {k : Int} (h0 : 0 ≤ k) (h1 : k < n) : ixN n k = some k.toNat := by unfold ixN; rw [if_pos h0, if_pos h1]
theorem atI_lit {α : Type} {l : List α} {k : Int} {x : α} (h0 : 0 ≤ k) (h : l[k.toNat]? = some x) : atI l k = some x := by
  unfold atI
  rw [ixN_lit h0 (by have := (List.getElem?_eq_some_iff.mp h).1; omega)]
  exact h
theorem atI_0 {α : Type} (a : α) (r : List α) : atI (a :: r) 0 = some a := atI_lit (by decide) rfl
theorem ixN_0 {α : Type} (a : α) (r : List α) : ixN (a :: r).length 0 = some 0 := ixN_lit (by decide) (by simp only [List.length_cons]; omega)
theorem atI_1 {α : Type} (a b : α) (r : List α) : atI (a :: b :: r) 1 = some b := atI_lit (by decide) rfl
theorem ixN_1 {α : Type} (a b : α) (r : List α) : ixN (a :: b :: r).length 1 = some 1 := ixN_lit (by decide) (by simp only [List.length_cons]; omega)
theorem atI_2 {α : Type} (a b c : α) (r : List α) : atI (a :: b :: c :: r) 2 = some c := atI_lit (by decide) rfl
theorem ixN_2 {α : Type} (a b c : α) (r : List α) : ixN (a :: b :: c :: r).length 2 = some 2 := ixN_lit (by decide) (by simp only [List.length_cons]; omega)
theorem atI_3 {α : Type} (a b c d : α) (r : List α) : atI (a :: b :: c :: d :: r) 3 = some d := atI_lit (by decide) rfl
theorem ixN_3 {α : Type} (a b c d : α) (r : List α) : ixN (a :: b :: c :: d :: r).length 3 = some 3 := ixN_lit (by decide) (by simp only [List.length_cons]; omega)
theorem atI_4 {α : Type} (a b c d e : α) (r : List α) : atI (a :: b :: c :: d :: e :: r) 4 = some e := atI_lit (by decide) rfl
theorem ixN_4 {α : Type} (a b c d e : α) (r : List α) : ixN (a :: b :: c :: d :: e :: r).length 4 = some 4 := ixN_lit (by decide) (by simp only [List.length_cons]; omega)
theorem atI_5 {α : Type} (a b c d e f : α) (r : List α) : atI (a :: b :: c :: d :: e :: f :: r) 5 = some f := atI_lit (by decide) rfl
theorem ixN_5 {α : Type} (a b c d e f : α) (r : List α) : ixN (a :: b :: c :: d :: e :: f :: r).length 5 = some 5 := ixN_lit (by decide) (by simp only [List.length_cons]; omega)
theorem atI_6 {α : Type} (a b c d e f g : α) (r : List α) : atI (a :: b :: c :: d :: e :: f :: g :: r) 6 = some g := atI_lit (by decide) rfl
theorem ixN_6 {α : Type} (a b c d e f g : α) (r : List α) : ixN (a :: b :: c :: d :: e :: f :: g :: r).length 6 = some 6 := ixN_lit (by decide) (by simp only [List.length_cons]; omega)
theorem atI_7 {α : Type} (a b c d e f g h : α) (r : List α) : atI (a :: b :: c :: d :: e :: f :: g :: h :: r) 7 = some h := atI_lit (by decide) rfl
theorem ixN_7 {α : Type} (a b c d e f g h : α) (r : List α) : ixN (a :: b :: c :: d :: e :: f :: g :: h :: r).length 7 = some 7 := ixN_lit (by decide) (by simp only [List.length_cons]; omega)
theorem len_0 {α : Type} : (([] : List α).length ≤ sizeLine) = True := eq_true (by show 0 ≤ sizeLine; decide)
theorem len_1 {α : Type} (a : α) : (([a] : List α).length ≤ sizeLine) = True := eq_true (by show 1 ≤ sizeLine; decide)
theorem len_2 {α : Type} (a b : α) : (([a, b] : List α).length ≤ sizeLine) = True := eq_true (by show 2 ≤ sizeLine; decide)
theorem len_3 {α : Type} (a b c : α) : (([a, b, c] : List α).length ≤ sizeLine) = True := eq_true (by show 3 ≤ sizeLine; decide)
theorem len_4 {α : Type} (a b c d : α) : (([a, b, c, d] : List α).length ≤ sizeLine) = True := eq_true (by show 4 ≤ sizeLine; decide)
theorem len_5 {α : Type} (a b c d e : α) : (([a, b, c, d, e] : List α).length ≤ sizeLine) = True := eq_true (by show 5 ≤ sizeLine; decide)
theorem len_6 {α : Type} (a b c d e f : α) : (([a, b, c, d, e, f] : List α).length ≤ sizeLine) = True := eq_true (by show 6 ≤ sizeLine; decide)
theorem len_7 {α : Type} (a b c d e f g : α) : (([a, b, c, d, e, f, g] : List α).length ≤ sizeLine) = True := eq_true (by show 7 ≤ sizeLine; decide)
theorem len_8 {α : Type} (a b c d e f g h : α) : (([a, b, c, d, e, f, g, h] : List α).length ≤ sizeLine) = True := eq_true (by show 8 ≤ sizeLine; decide)
end DL

set_option Elab.async false
set_option linter.all false
set_option maxRecDepth 100000
set_option maxHeartbeats 4000000
/-! DL part 11: loops run forward. -/
namespace DL
open PySem PySem.Spec PyProof.Rows L2

/-- a turn's end: the next turn's J, or what is wanted behind the loop -/
def loopQ (J : DEnv → Prop) (S : Out → DEnv → Prop) (o : Out) (ρ : DEnv) : Prop := match o with
  | .nx => J ρ
  | .ct => J ρ
  | .bk => S .nx ρ
  | .rt d => S (.rt d) ρ
theorem loopQ_nx (J : DEnv → Prop) (S : Out → DEnv → Prop) (ρ : DEnv) : loopQ J S .nx ρ = J ρ := rfl
theorem loopQ_ct (J : DEnv → Prop) (S : Out → DEnv → Prop) (ρ : DEnv) : loopQ J S .ct ρ = J ρ := rfl
theorem loopQ_bk (J : DEnv → Prop) (S : Out → DEnv → Prop) (ρ : DEnv) : loopQ J S .bk ρ = S .nx ρ := rfl
theorem loopQ_rt (J : DEnv → Prop) (S : Out → DEnv → Prop) (d : PyData) (ρ : DEnv) : loopQ J S (.rt d) ρ = S (.rt d) ρ := rfl
theorem wp_forL_from {Z : Exn → DEnv → Prop} {gd : PyData → DEnv → Option DEnv} {fb : DEnv → Res Out} {S : Out → DEnv → Prop} (I : Nat → DEnv → Prop) : ∀ (ds : List PyData) (n : Nat) (ρ : DEnv), I n ρ →
    (∀ (i : Nat) (d : PyData) (ρ : DEnv), ds[i]? = some d → I (n + i) ρ → ∃ ρ1, gd d ρ = some ρ1 ∧ WpX Z (fb ρ1) (loopQ (I (n + i + 1)) S)) → (∀ ρ', I (n + ds.length) ρ' → S .nx ρ') → WpX Z (forL gd fb ds ρ) S
  | [], n, ρ, h, _, fin => .ok rfl (fin ρ h)
  | d :: ds, n, ρ, h, st, fin => by
    obtain ⟨ρ1, h1, h2⟩ := st 0 d ρ rfl h
    cases e : fb ρ1 with
    | bad => rw [e] at h2; exact h2.out.elim
    | err x ρ2 =>
      rw [e] at h2
      have e2 : forL gd fb (d :: ds) ρ = .err x ρ2 := by rw [forL, h1]; simp only [e]
      rw [e2]; exact ⟨h2.out⟩
    | ok o ρ2 =>
    rw [e] at h2
    have q : loopQ (I (n + 0 + 1)) S o ρ2 := h2.out
    have next : I (n + 1) ρ2 → WpX Z (forL gd fb ds ρ2) S := fun q => wp_forL_from I ds (n + 1) ρ2 q (fun i e τ hi hτ => by
        have := st (i + 1) e τ (by simpa using hi) (by rw [show n + (i + 1) = n + 1 + i by omega]; exact hτ)
        rw [show n + (i + 1) + 1 = n + 1 + i + 1 by omega] at this
        exact this) fun ρ' hq => fin ρ' (by rw [List.length_cons, show n + (ds.length + 1) = n + 1 + ds.length by omega]; exact hq)
    cases o with
    | nx =>
      have e2 : forL gd fb (d :: ds) ρ = forL gd fb ds ρ2 := by rw [forL, h1]; simp only [e]
      rw [e2]; exact next q
    | ct =>
      have e2 : forL gd fb (d :: ds) ρ = forL gd fb ds ρ2 := by rw [forL, h1]; simp only [e]
      rw [e2]; exact next q
    | bk => exact .ok (a := .nx) (ρ := ρ2) (by rw [forL, h1]; simp only [e]) q
    | rt v => exact .ok (a := .rt v) (ρ := ρ2) (by rw [forL, h1]; simp only [e]) q
/-- a loop by an invariant of the turn's number and the cells -/
theorem wp_forL {Z : Exn → DEnv → Prop} {gd : PyData → DEnv → Option DEnv} {fb : DEnv → Res Out} {S : Out → DEnv → Prop} {ds : List PyData} {ρ : DEnv} (I : Nat → DEnv → Prop) (h0 : I 0 ρ)
    (st : ∀ (i : Nat) (d : PyData) (ρ : DEnv), ds[i]? = some d → I i ρ → ∃ ρ1, gd d ρ = some ρ1 ∧ WpX Z (fb ρ1) (loopQ (I (i + 1)) S)) (fin : ∀ ρ', I ds.length ρ' → S .nx ρ') : WpX Z (forL gd fb ds ρ) S :=
  wp_forL_from I ds 0 ρ h0 (fun i d ρ hi h => by
    have := st i d ρ hi (by rw [Nat.zero_add] at h; exact h)
    rw [Nat.zero_add]
    exact this) fun ρ' h => fin ρ' (by rw [Nat.zero_add] at h; exact h)
theorem wp_lcL_from {vs : List Nat} {gd : PyData → DEnv → Option DEnv} {ft : DEnv → Res Bool} {fe : DEnv → Res PyData} {L : List PyData → DEnv → Prop} (I : Nat → List PyData → DEnv → Prop) : ∀ (ds : List PyData) (n : Nat) (acc : List PyData) (ρ : DEnv), I n acc ρ → acc.length + ds.length ≤ sizeLine →
    (∀ (i : Nat) (d : PyData) (acc : List PyData) (ρ : DEnv), ds[i]? = some d → I (n + i) acc ρ → ∃ ρ1, gd d ρ = some ρ1 ∧ WpX Zn (ft ρ1) fun b ρ2 => if b = true then WpX Zn (fe ρ2) fun y ρ3 => I (n + i + 1) (acc ++ [y]) (wipeC ρ3 vs) else I (n + i + 1) acc (wipeC ρ2 vs)) →
    (∀ acc ρ', I (n + ds.length) acc ρ' → L acc ρ') → WpX Zn (lcL vs gd ft fe ds acc ρ) L
  | [], n, acc, ρ, h, _, _, fin => .ok rfl (fin acc ρ h)
  | d :: ds, n, acc, ρ, h, hl, st, fin => by
    rw [List.length_cons] at hl
    obtain ⟨ρ1, h1, h2⟩ := st 0 d acc ρ rfl h
    obtain ⟨b, ρ2, e, q⟩ := h2.get
    have next : ∀ acc' ρ', I (n + 1) acc' ρ' → acc'.length + ds.length ≤ sizeLine → WpX Zn (lcL vs gd ft fe ds acc' ρ') L := fun acc' ρ' q hl => wp_lcL_from I ds (n + 1) acc' ρ' q hl (fun i e a τ hi hτ => by
        have := st (i + 1) e a τ (by simpa using hi) (by rw [show n + (i + 1) = n + 1 + i by omega]; exact hτ)
        rw [show n + (i + 1) + 1 = n + 1 + i + 1 by omega] at this
        exact this) fun a ρ' hq => fin a ρ' (by rw [List.length_cons, show n + (ds.length + 1) = n + 1 + ds.length by omega]; exact hq)
    cases b with
    | false =>
      rw [if_neg Bool.false_ne_true] at q
      have e2 : lcL vs gd ft fe (d :: ds) acc ρ = lcL vs gd ft fe ds acc (wipeC ρ2 vs) := by rw [lcL, h1]; simp only [e]
      rw [e2]; exact next _ _ q (by omega)
    | true =>
      rw [if_pos rfl] at q
      obtain ⟨y, ρ3, e3, q⟩ := q.get
      have e2 : lcL vs gd ft fe (d :: ds) acc ρ = lcL vs gd ft fe ds (acc ++ [y]) (wipeC ρ3 vs) := by
        rw [lcL, h1]; simp only [e, e3]; rw [if_pos (by omega)]
      rw [e2]; exact next _ _ q (by rw [List.length_append, List.length_singleton]; omega)
/-- a comprehension by an invariant of the turn's number, what is made and the cells -/
theorem wp_lcL {vs : List Nat} {gd : PyData → DEnv → Option DEnv} {ft : DEnv → Res Bool} {fe : DEnv → Res PyData} {L : List PyData → DEnv → Prop} {ds : List PyData} {ρ : DEnv} (I : Nat → List PyData → DEnv → Prop) (h0 : I 0 [] ρ) (hl : ds.length ≤ sizeLine)
    (st : ∀ (i : Nat) (d : PyData) (acc : List PyData) (ρ : DEnv), ds[i]? = some d → I i acc ρ → ∃ ρ1, gd d ρ = some ρ1 ∧ WpX Zn (ft ρ1) fun b ρ2 => if b = true then WpX Zn (fe ρ2) fun y ρ3 => I (i + 1) (acc ++ [y]) (wipeC ρ3 vs) else I (i + 1) acc (wipeC ρ2 vs))
    (fin : ∀ acc ρ', I ds.length acc ρ' → L acc ρ') : WpX Zn (lcL vs gd ft fe ds [] ρ) L :=
  wp_lcL_from I ds 0 [] ρ h0 (by rw [List.length_nil]; omega) (fun i d a ρ hi h => by
    have := st i d a ρ hi (by rw [Nat.zero_add] at h; exact h)
    rw [Nat.zero_add]
    exact this) fun a ρ' h => fin a ρ' (by rw [Nat.zero_add] at h; exact h)
theorem wp_tTrue {Z : Exn → DEnv → Prop} (ρ : DEnv) (T : Bool → DEnv → Prop) : WpX Z (tTrue ρ) T = T true ρ := by
  rw [wpq]; rfl
/-- a comprehension that leaves the cells as they are -/
theorem wp_lcMap {vs : List Nat} {gd : PyData → DEnv → Option DEnv} {fe : DEnv → Res PyData} {L : List PyData → DEnv → Prop} {ds : List PyData} {ρ : DEnv} (f : PyData → PyData) (hl : ds.length ≤ sizeLine)
    (st : ∀ d ∈ ds, ∃ ρ1, gd d ρ = some ρ1 ∧ WpX Zn (fe ρ1) fun y ρ3 => y = f d ∧ wipeC ρ3 vs = ρ) (fin : L (ds.map f) ρ) : WpX Zn (lcL vs gd tTrue fe ds [] ρ) L := by
  refine wp_lcL (fun i acc ρ' => ρ' = ρ ∧ acc = (ds.take i).map f) ⟨rfl, rfl⟩ hl (fun i d acc ρ' hd h => ?_) fun acc ρ' h => ?_
  · obtain ⟨rfl, rfl⟩ := h
    obtain ⟨ρ1, h1, h2⟩ := st d (List.mem_of_getElem? hd)
    refine ⟨ρ1, h1, ?_⟩
    rw [wp_tTrue, if_pos rfl]
    refine h2.mono fun y ρ3 ⟨e1, e2⟩ => ⟨e2, ?_⟩
    rw [e1, List.take_add_one, hd, List.map_append]
    rfl
  · obtain ⟨rfl, rfl⟩ := h
    rw [List.take_length]
    exact fin
/-- the numbers below n -/
def nI (n : Nat) : PyData := .int (n : Nat)
theorem intsD_nI (n : Nat) : intsD 0 n = (List.range n).map nI := by
  unfold intsD nI
  congr 1
  funext i
  rw [Int.zero_add]
theorem atI_map {α : Type} {f : α → PyData} {l : List α} {j : Nat} {x : α} (h : l[j]? = some x) : atI (l.map f) (j : Nat) = some (f x) := atI_nat (by rw [List.getElem?_map, h]; rfl)
theorem inR_nat {n : Nat} (h : n ≤ 1000000) : inR (n : Nat) := ⟨by omega, by omega⟩
theorem RgOk_nat {n : Nat} (h : n ≤ 1000000) : RgOk 0 (n : Nat) := ⟨by omega, by omega, by omega, by omega, by omega⟩
theorem small_line {n : Nat} (h : n ≤ 1000000) : n ≤ sizeLine := by show n ≤ 2 ^ 24; omega
theorem small_line' {n : Nat} (h : n ≤ 1000000) : n < sizeLine := by show n < 2 ^ 24; omega
theorem eqv_nI (i j : Nat) : PyData.eqv (nI i) (nI j) = (i == j) := by
  unfold nI
  rw [eqv_int]
  by_cases h : i = j
  · subst h; simp
  · rw [beq_eq_false_iff_ne.mpr h]
    exact beq_eq_false_iff_ne.mpr fun e => h (by omega)
theorem Shp.nI {k : Nat} (n : Nat) : Shp k (DL.nI n) := .int _
theorem Shp.mapN {k : Nat} (ns : List Nat) : ∀ d ∈ ns.map DL.nI, Shp k d := fun d hd => by
  obtain ⟨i, _, rfl⟩ := List.mem_map.mp hd
  exact .nI i
/-- the first place of a number in a list of numbers -/
theorem idxOf_nI (ns : List Nat) (n : Nat) (h : n ∈ ns) : idxOf (ns.map nI) (nI n) = some (nI (ns.idxOf n)) := by
  unfold DL.idxOf
  have e : ((ns.map nI).findIdx? fun z => PyData.eqv z (nI n)) = some (ns.idxOf n) := by
    rw [List.findIdx?_map]
    have : ((fun z => PyData.eqv z (nI n)) ∘ nI) = fun i => i == n := by funext i; exact eqv_nI i n
    rw [this]
    induction ns with
    | nil => cases h
    | cons a r ih =>
      rw [List.findIdx?_cons, List.idxOf_cons]
      by_cases hq : a = n
      · subst hq; simp
      · rw [beq_eq_false_iff_ne.mpr hq]
        have hr := (List.mem_cons.mp h).resolve_left fun z => hq z.symm
        rw [ih hr]
        rfl
  rw [e]
  rfl
/-- a slot that may be stored to -/
def Loose (c : Cell) : Prop := c = .un ∨ ∃ d, c = .val d
theorem Loose.un : Loose .un := .inl rfl
theorem Loose.val (d : PyData) : Loose (.val d) := .inr ⟨d, rfl⟩
theorem setV_fr {ρ : DEnv} {i : Nat} {c : Cell} (h : ρ[i]? = some c) (f : Loose c) (d : PyData) : setV i d ρ = some (ρ.set i (.val d)) := by
  rw [setV_eq, h]
  rcases f with rfl | ⟨e, rfl⟩ <;> rfl
theorem unwipe_one (v : Nat) (ρ ρ' : DEnv) : unwipe [v] ρ ρ' = ρ'.set v (ρ[v]?.getD .un) := by
  apply List.ext_getElem?
  intro i
  unfold unwipe
  rw [List.getElem?_mapIdx]
  by_cases h : v = i
  · subst h
    by_cases hl : v < ρ'.length
    · rw [List.getElem?_set_self hl, List.getElem?_eq_getElem hl]
      show some (if v ∈ [v] then _ else _) = _
      rw [if_pos (List.mem_singleton.mpr rfl)]
    · have e1 : ρ'[v]? = none := List.getElem?_eq_none (by omega)
      have e2 : (ρ'.set v (ρ[v]?.getD .un))[v]? = none := List.getElem?_eq_none (by rw [List.length_set]; omega)
      rw [e1, e2]
      rfl
  · rw [List.getElem?_set_ne h]
    cases ρ'[i]? with
    | none => rfl
    | some c =>
      show some (if i ∈ [v] then _ else c) = _
      rw [if_neg fun z => h (List.mem_singleton.mp z).symm]
theorem setVo_loose {c : Cell} (f : Loose c) (i : Nat) (d : PyData) (ρ : DEnv) : setVo (some c) i d ρ = some (ρ.set i (.val d)) := by
  rcases f with rfl | ⟨e, rfl⟩ <;> rfl
theorem wp_lcMapOf {α : Type} {vs : List Nat} {gd : PyData → DEnv → Option DEnv} {fe : DEnv → Res PyData} {L : List PyData → DEnv → Prop} {xs : List α} {e : α → PyData} {ρ : DEnv} (f : α → PyData) (hl : xs.length ≤ 1000000)
    (st : ∀ x ∈ xs, ∃ ρ1, gd (e x) ρ = some ρ1 ∧ WpX Zn (fe ρ1) fun y ρ3 => y = f x ∧ wipeC ρ3 vs = ρ) (fin : L (xs.map f) ρ) : WpX Zn (lcL vs gd tTrue fe (xs.map e) [] ρ) L := by
  refine wp_lcL (fun i acc ρ' => ρ' = ρ ∧ acc = (xs.take i).map f) ⟨rfl, rfl⟩ (small_line (by rw [List.length_map]; exact hl)) (fun i d acc ρ' hd h => ?_) fun acc ρ' h => ?_
  · obtain ⟨rfl, rfl⟩ := h
    rw [List.getElem?_map] at hd
    cases q : xs[i]? with
    | none => rw [q] at hd; cases hd
    | some x =>
      rw [q] at hd
      cases hd
      obtain ⟨ρ1, h1, h2⟩ := st x (List.mem_of_getElem? q)
      refine ⟨ρ1, h1, ?_⟩
      rw [wp_tTrue, if_pos rfl]
      refine h2.mono fun y ρ3 ⟨e1, e2⟩ => ⟨e2, ?_⟩
      rw [e1, List.take_add_one, q, List.map_append]
      rfl
  · obtain ⟨rfl, rfl⟩ := h
    rw [List.length_map, List.take_length]
    exact fin
theorem cutD_to (xs : List PyData) (c : Nat) (h : c ≤ xs.length) : cutD xs none (some (c : Nat)) = xs.take c := by
  unfold cutD
  rw [HT.sIx_none, HT.sIx_nat, Nat.min_eq_left h, Nat.sub_zero, List.drop_zero]
theorem cutD_from (xs : List PyData) (c : Nat) (h : c ≤ xs.length) : cutD xs (some (c : Nat)) none = xs.drop c := by
  unfold cutD
  rw [HT.sIx_none, HT.sIx_nat, Nat.min_eq_left h]
  exact List.take_of_length_le (by rw [List.length_drop]; omega)
theorem isi_int_int (i : Int) : oIsi "int" (.int i) = some (.bool true) := rfl
theorem isi_bool_int (i : Int) : oIsi "bool" (.int i) = some (.bool false) := by
  show (kitB "int" "bool").map PyData.bool = _
  rw [show kitB "int" "bool" = some false by decide +kernel]
  rfl
theorem isi_bool_bool (i : Bool) : oIsi "bool" (.bool i) = some (.bool true) := rfl
theorem isi_int_bool (i : Bool) : oIsi "int" (.bool i) = some (.bool true) := by
  show (kitB "bool" "int").map PyData.bool = _
  rw [show kitB "bool" "int" = some true by decide +kernel]
  rfl
end DL

set_option Elab.async false
set_option linter.all false
set_option maxRecDepth 100000
set_option maxHeartbeats 4000000
/-! DL part 12: dicts that a def holds or was lent, defs that hand out a fresh object. -/
namespace DL
open PySem PySem.Spec PyProof.Rows L2

/-! ### entries -/
section
variable {κ : Type} [DecidableEq κ]
def valD (kvs : List (κ × PyData)) (k : κ) : Option PyData := (kvs.find? fun kv => decide (kv.1 = k)).map (·.2)
def putD (kvs : List (κ × PyData)) (k : κ) (d : PyData) : List (κ × PyData) := if (kvs.any fun kv => decide (kv.1 = k)) = true then kvs.map (fun kv => if kv.1 = k then (kv.1, d) else kv) else kvs ++ [(k, d)]
def mergeD (kvs more : List (κ × PyData)) : List (κ × PyData) := more.foldl (fun acc kv => putD acc kv.1 kv.2) kvs
variable {K : PySem.W.Frag} {G : Hp}
theorem kv_len : ∀ {vs : List (κ × V)} {kvs : List (κ × PyData)}, KvAll K G vs kvs → vs.length = kvs.length
  | _, _, .nil => rfl
  | _, _, .cons _ t => congrArg (· + 1) (kv_len t)
theorem kv_get {k : κ} {d : PyData} : ∀ {vs : List (κ × V)} {kvs : List (κ × PyData)}, KvAll K G vs kvs → valD kvs k = some d → ∃ v, valV vs k = some v ∧ Rp K G v d
  | _, _, .nil, h => by cases h
  | (k1, v1) :: vs, (k2, d2) :: kvs, .cons h t, e => by
    obtain ⟨h1, h2⟩ := h
    cases h1
    by_cases hk : k1 = k
    · subst hk
      have : valD ((k1, d2) :: kvs) k1 = some d2 := by unfold valD; rw [List.find?_cons_of_pos (by simp)]; rfl
      rw [this] at e
      cases e
      exact ⟨v1, valV_pos (p := (k1, v1)) rfl, h2⟩
    · have : valD ((k1, d2) :: kvs) k = valD kvs k := by unfold valD; rw [List.find?_cons_of_neg (by simpa using hk)]
      rw [this] at e
      obtain ⟨v, a, b⟩ := kv_get t e
      exact ⟨v, by rw [valV_neg (p := (k1, v1)) hk]; exact a, b⟩
theorem kv_any {k : κ} : ∀ {vs : List (κ × V)} {kvs : List (κ × PyData)}, KvAll K G vs kvs → (vs.any fun kv => decide (kv.1 = k)) = (kvs.any fun kv => decide (kv.1 = k))
  | _, _, .nil => rfl
  | (k1, v1) :: vs, (k2, d2) :: kvs, .cons h t => by
    obtain ⟨h1, _⟩ := h
    cases h1
    rw [List.any_cons, List.any_cons, kv_any t]
theorem kv_map {k : κ} {v : V} {d : PyData} (hd : Rp K G v d) : ∀ {vs : List (κ × V)} {kvs : List (κ × PyData)}, KvAll K G vs kvs → KvAll K G (vs.map fun kv => if kv.1 = k then (kv.1, v) else kv) (kvs.map fun kv => if kv.1 = k then (kv.1, d) else kv)
  | _, _, .nil => .nil
  | (k1, v1) :: vs, (k2, d2) :: kvs, .cons h t => by
    obtain ⟨h1, h2⟩ := h
    cases h1
    rw [List.map_cons, List.map_cons]
    refine .cons ?_ (kv_map hd t)
    show (if k1 = k then (k1, v) else (k1, v1)).1 = (if k1 = k then (k1, d) else (k1, d2)).1 ∧ Rp K G (if k1 = k then (k1, v) else (k1, v1)).2 (if k1 = k then (k1, d) else (k1, d2)).2
    by_cases hk : k1 = k
    · rw [if_pos hk, if_pos hk]; exact ⟨rfl, hd⟩
    · rw [if_neg hk, if_neg hk]; exact ⟨rfl, h2⟩
theorem kv_snoc {k : κ} {v : V} {d : PyData} (hd : Rp K G v d) : ∀ {vs : List (κ × V)} {kvs : List (κ × PyData)}, KvAll K G vs kvs → KvAll K G (vs ++ [(k, v)]) (kvs ++ [(k, d)])
  | _, _, .nil => .cons ⟨rfl, hd⟩ .nil
  | _ :: _, _ :: _, .cons h t => .cons h (kv_snoc hd t)
theorem kv_put {k : κ} {v : V} {d : PyData} (hd : Rp K G v d) {vs : List (κ × V)} {kvs : List (κ × PyData)} (h : KvAll K G vs kvs) : KvAll K G (putK vs k v) (putD kvs k d) := by
  unfold putK putD
  rw [kv_any h]
  by_cases hc : (kvs.any fun kv => decide (kv.1 = k)) = true
  · rw [if_pos hc, if_pos hc]; exact kv_map hd h
  · rw [if_neg hc, if_neg hc]; exact kv_snoc hd h
end
theorem kv_merge {K : PySem.W.Frag} {G : Hp} : ∀ {more : List (Key × V)} {moreD : List (Key × PyData)} {vs : List (Key × V)} {kvs : List (Key × PyData)}, KvAll K G vs kvs → KvAll K G more moreD → KvAll K G (mergeK vs more) (mergeD kvs moreD)
  | _, _, _, _, h, .nil => h
  | (k1, v1) :: more, (k2, d2) :: moreD, vs, kvs, h, .cons q t => by
    obtain ⟨h1, h2⟩ := q
    cases h1
    exact kv_merge (more := more) (moreD := moreD) (kv_put h2 h) t

/-! ### a held object of any kind -/
def hobj (i : Nat) (ρ : DEnv) : Option OD := match ρ[i]? with
  | some (.own o) => some o
  | some (.io o) => some o
  | _ => none
theorem Rel.hobjAny {K : PySem.W.Frag} {G H : Hp} {σ : St} {ρ : DEnv} {i : Nat} {o : OD} (R : Rel K G σ H ρ) (h : hobj i ρ = some o) : ∃ p, σ[i]? = some (some (.ref p)) ∧ G p = none ∧ OwnAt K G H p o ∧
    ∀ (o' : OD) (u : HO), OwnAt K G (upd H p u) p o' → Rel K G σ (upd H p u) (setHeld i o' ρ) ∧ Stp G H σ ρ G (upd H p u) σ (setHeld i o' ρ) := by
  unfold hobj at h
  cases q : ρ[i]? with
  | none => rw [q] at h; cases h
  | some cl =>
    rw [q] at h
    obtain ⟨v0, e0, q0⟩ := R.cell i cl q
    cases cl with
    | un => cases h
    | val _ => cases h
    | own o => cases h; obtain ⟨b, rfl, g, h1⟩ := q0; exact ⟨b, e0, g, h1, fun o' u hn => by unfold setHeld; rw [q]; exact R.heldObj (mk := .own) (.inr rfl) q e0 g h1.ex hn⟩
    | io o => cases h; obtain ⟨b, rfl, g, h1⟩ := q0; exact ⟨b, e0, g, h1, fun o' u hn => by unfold setHeld; rw [q]; exact R.heldObj (mk := .io) (.inl rfl) q e0 g h1.ex hn⟩
def keyD : PyData → Option Key
  | .int i => some (.inl i)
  | .str x => some (.inr x)
  | _ => none
def keysD : List PyData → Option (List Key)
  | [] => some []
  | d :: ds => match keyD d, keysD ds with
    | some k, some ks => some (k :: ks)
    | _, _ => none
theorem keyD_kV {K : PySem.W.Frag} {G : Hp} {v : V} {d : PyData} {k : Key} (h : Rp K G v d) (e : keyD d = some k) : v = kV k := by
  cases h <;> cases e <;> rfl
theorem keysD_kV {K : PySem.W.Frag} {G : Hp} : ∀ {vs : List V} {ds : List PyData} {ks : List Key}, RpAll K G vs ds → keysD ds = some ks → vs = ks.map kV
  | _, _, _, .nil, e => by cases e; rfl
  | _, d :: ds, ks, .cons h t, e => by
    unfold keysD at e
    cases q : keyD d with
    | none => rw [q] at e; cases e
    | some k =>
      cases q2 : keysD ds with
      | none => rw [q, q2] at e; cases e
      | some ks2 =>
        rw [q, q2] at e
        cases e
        rw [keyD_kV h q, keysD_kV t q2]
        rfl
/-- b[k] -/
def dDGet (i : Nat) (f : DEnv → Res PyData) : DEnv → Res PyData := fun ρ => if (ρ[i]?.getD .un).isOwn = true then (f ρ).bind fun k ρ1 => match hobj i ρ1 with
  | some (.dk kvs) => Res.of ((keyD k).bind fun k => valD kvs k) ρ1
  | _ => .bad else .bad
/-- b[(k, ..)] -/
def dDGetT (i : Nat) (f : DEnv → Res (List PyData)) : DEnv → Res PyData := fun ρ => if (ρ[i]?.getD .un).isOwn = true then (f ρ).bind fun ds ρ1 => if ds.length ≤ sizeLine then match hobj i ρ1 with
  | some (.dt kvs) => Res.of ((keysD ds).bind fun k => valD kvs k) ρ1
  | _ => .bad else .bad else .bad
/-- b[k] = e -/
def sDPutD (i : Nat) (f g : DEnv → Res PyData) : DEnv → Res Out := fun ρ => (f ρ).bind fun d ρ1 => if (ρ1[i]?.getD .un).isOwn = true then (g ρ1).bind fun k ρ2 => match hobj i ρ2, keyD k with
  | some (.dk kvs), some k => if kvs.length < sizeLine then .ok .nx (setHeld i (.dk (putD kvs k d)) ρ2) else .bad
  | _, _ => .bad else .bad
def sDPutT (i : Nat) (f : DEnv → Res PyData) (g : DEnv → Res (List PyData)) : DEnv → Res Out := fun ρ => (f ρ).bind fun d ρ1 => if (ρ1[i]?.getD .un).isOwn = true then (g ρ1).bind fun ds ρ2 => if ds.length ≤ sizeLine then match hobj i ρ2, keysD ds with
  | some (.dt kvs), some k => if kvs.length < sizeLine then .ok .nx (setHeld i (.dt (putD kvs k d)) ρ2) else .bad
  | _, _ => .bad else .bad else .bad
section
variable {X : Cx} {E : WX} {a b : Expr} {es : List Expr} {fa fb : DEnv → Res PyData} {fs : DEnv → Res (List PyData)} {pos p px sp : Pos} {x : Str}
theorem e_dget (i : Nat) (hu : X.A.units + 1 < cLine) (hx : PE X (.Name x px) (tVar i)) (ha : EJ X E a fa) (hs : NoSl a) : EJ X E (.Subscript (.Name x px) a pos) (dDGet i fa) := by
  obtain ⟨t, q, p⟩ := ha
  refine ⟨_, pe_dget hu hx q hs, fun σ G H ρ Q R h => ?_⟩
  unfold dDGet at h
  by_cases hc : (ρ[i]?.getD .un).isOwn = true
  case neg => rw [if_neg hc] at h; exact h.elim
  rw [if_pos hc] at h
  obtain ⟨b, e0⟩ := R.heldV hc
  refine ⟨.ref b, e0, p σ G H ρ _ R (Post.bind h fun G1 H1 y d ρ1 R1 S1 hy h1 => ?_)⟩
  cases q0 : hobj i ρ1 with
  | none => rw [q0] at h1; exact h1.elim
  | some o =>
    rw [q0] at h1
    obtain ⟨b1, f0, g1, o1, _⟩ := R1.hobjAny q0
    rw [e0] at f0
    cases f0
    cases o with
    | dk kvs =>
      obtain ⟨vs, u1, u2⟩ := o1
      cases q1 : keyD d with
      | none => simp only [q1] at h1; exact h1.elim
      | some k =>
        cases q2 : valD kvs k with
        | none => simp only [q1, Option.bind_some, q2] at h1; exact h1.elim
        | some c =>
          simp only [q1, Option.bind_some, q2] at h1
          obtain ⟨v, w1, w2⟩ := kv_get u2 q2
          exact ⟨b, v, rfl, .inl ⟨vs, k, .inl u1, keyD_kV hy q1, w1.symm⟩, Post.done R1 h1 w2⟩
    | _ => exact h1.elim
theorem e_dgetT {x1} {tp : Pos} (i : Nat) (hu : X.A.units + 1 < cLine) (hx : PE X (.Name x px) (tVar i)) (ha : AJ X E es fs) (hs : NoSl (.Tuple es x1 tp)) : EJ X E (.Subscript (.Name x px) (.Tuple es x1 tp) pos) (dDGetT i fs) := by
  obtain ⟨_, t, q, p⟩ := ha
  refine ⟨_, pe_dget hu hx (pe_tup q) hs, fun σ G H ρ Q R h => ?_⟩
  unfold dDGetT at h
  by_cases hc : (ρ[i]?.getD .un).isOwn = true
  case neg => rw [if_neg hc] at h; exact h.elim
  rw [if_pos hc] at h
  obtain ⟨b, e0⟩ := R.heldV hc
  refine ⟨.ref b, e0, p σ G H ρ _ R (Post.bind h fun G1 H1 ys ds ρ1 R1 S1 hy h1 => ?_)⟩
  by_cases hz : ds.length ≤ sizeLine
  case neg => rw [if_neg hz] at h1; exact h1.elim
  rw [if_pos hz] at h1
  have hl := RpAll.len hy
  refine ⟨by omega, fun r hr => ?_⟩
  cases q0 : hobj i ρ1 with
  | none => rw [q0] at h1; exact h1.elim
  | some o =>
    rw [q0] at h1
    obtain ⟨b1, f0, g1, o1, _⟩ := R1.hobjAny q0
    rw [e0] at f0
    cases f0
    cases o with
    | dt kvs =>
      obtain ⟨vs, u1, u2⟩ := o1
      cases q1 : keysD ds with
      | none => simp only [q1] at h1; exact h1.elim
      | some k =>
        cases q2 : valD kvs k with
        | none => simp only [q1, Option.bind_some, q2] at h1; exact h1.elim
        | some c =>
          simp only [q1, Option.bind_some, q2] at h1
          obtain ⟨v, w1, w2⟩ := kv_get u2 q2
          refine ⟨b, v, rfl, .inr ⟨vs, k, r, .inl ?_, rfl, ?_, w1.symm⟩, Post.new R1 h1 hr (Rp.mono (same_upd (R1.noneG hr)) w2)⟩
          · rw [upd_ne (ne_of_none u1 hr)]; exact u1
          · rw [upd_same, keysD_kV hy q1]
    | _ => exact h1.elim
theorem s_dput (i : Nat) (hu : X.A.units + 1 < cLine) (hx : PE X (.Name x px) (tVar i)) (ha : EJ X E a fa) (hb : EJ X E b fb) (hs : swapsWith a (some (.Subscript (.Name x px) b sp)) pos.line X.env = pure false := by rfl) : SJ X E (.Assign [.Subscript (.Name x px) b sp] a pos) (sDPutD i fa fb) := by
  obtain ⟨t, q, p⟩ := ha
  obtain ⟨tb, qb, pb⟩ := hb
  refine ⟨_, ps_dput hu hx qb q hs, fun σ G H ρ D R h => p σ G H ρ _ R (SPost.bind h fun G1 H1 y d ρ1 R1 S1 hy h1 => ?_)⟩
  by_cases hc : (ρ1[i]?.getD .un).isOwn = true
  case neg => rw [if_neg hc] at h1; exact h1.elim
  rw [if_pos hc] at h1
  obtain ⟨b, e0⟩ := R1.heldV hc
  refine ⟨.ref b, e0, pb σ G1 H1 ρ1 _ R1 (SPost.bind h1 fun G2 H2 z k ρ2 R2 S2 hz h2 => ?_)⟩
  cases q0 : hobj i ρ2 with
  | none => rw [q0] at h2; exact h2.elim
  | some o =>
    rw [q0] at h2
    obtain ⟨b1, f0, g1, o1, f3⟩ := R2.hobjAny q0
    rw [e0] at f0
    cases f0
    cases o with
    | dk kvs =>
      obtain ⟨vs, u1, u2⟩ := o1
      cases q1 : keyD k with
      | none => simp only [q1] at h2; exact h2.elim
      | some kk =>
        simp only [q1] at h2
        by_cases hz2 : kvs.length < sizeLine
        case neg => rw [if_neg hz2] at h2; exact h2.elim
        rw [if_pos hz2] at h2
        have hl := kv_len u2
        obtain ⟨R3, S3⟩ := f3 (.dk (putD kvs kk d)) (.dK (putK vs kk y)) ⟨_, upd_same, kv_put (Rp.mono S2.same hy) u2⟩
        exact ⟨b, _, rfl, .inl ⟨vs, kk, u1, keyD_kV hz q1, by omega, rfl⟩, h2 _ _ _ R3 S3⟩
    | _ => exact h2.elim
theorem s_dputT {x1} {tp : Pos} (i : Nat) (hu : X.A.units + 1 < cLine) (hx : PE X (.Name x px) (tVar i)) (ha : EJ X E a fa) (hb : AJ X E es fs) (hs : swapsWith a (some (.Subscript (.Name x px) (.Tuple es x1 tp) sp)) pos.line X.env = pure false := by rfl) : SJ X E (.Assign [.Subscript (.Name x px) (.Tuple es x1 tp) sp] a pos) (sDPutT i fa fs) := by
  obtain ⟨t, q, p⟩ := ha
  obtain ⟨_, tb, qb, pb⟩ := hb
  refine ⟨_, ps_dput hu hx (pe_tup qb) q hs, fun σ G H ρ D R h => p σ G H ρ _ R (SPost.bind h fun G1 H1 y d ρ1 R1 S1 hy h1 => ?_)⟩
  by_cases hc : (ρ1[i]?.getD .un).isOwn = true
  case neg => rw [if_neg hc] at h1; exact h1.elim
  rw [if_pos hc] at h1
  obtain ⟨b, e0⟩ := R1.heldV hc
  refine ⟨.ref b, e0, pb σ G1 H1 ρ1 _ R1 (SPost.bind h1 fun G2 H2 zs ds ρ2 R2 S2 hzs h2 => ?_)⟩
  by_cases hz : ds.length ≤ sizeLine
  case neg => rw [if_neg hz] at h2; exact h2.elim
  rw [if_pos hz] at h2
  have hl := RpAll.len hzs
  refine ⟨by omega, fun r hr => ?_⟩
  have R2' := R2.alloc hr (.tup zs)
  have S2' := Stp.alloc (σ := σ) (ρ := ρ2) hr (R2.noneG hr) (.tup zs)
  cases q0 : hobj i ρ2 with
  | none => rw [q0] at h2; exact h2.elim
  | some o =>
    rw [q0] at h2
    obtain ⟨b1, f0, g1, o1, f3⟩ := R2'.hobjAny q0
    rw [e0] at f0
    cases f0
    cases o with
    | dt kvs =>
      obtain ⟨vs, u1, u2⟩ := o1
      cases q1 : keysD ds with
      | none => simp only [q1] at h2; exact h2.elim
      | some kk =>
        simp only [q1] at h2
        by_cases hz2 : kvs.length < sizeLine
        case neg => rw [if_neg hz2] at h2; exact h2.elim
        rw [if_pos hz2] at h2
        have hl := kv_len u2
        obtain ⟨R3, S3⟩ := f3 (.dt (putD kvs kk d)) (.dT (putK vs kk y)) ⟨_, upd_same, kv_put (Rp.mono S2'.same (Rp.mono S2.same hy)) u2⟩
        exact ⟨b, _, rfl, .inr ⟨vs, kk, r, u1, rfl, by rw [upd_same, keysD_kV hzs q1], by omega, rfl⟩, h2 _ _ _ R3 (S2'.trans S3)⟩
    | _ => exact h2.elim
/-! ### new dicts -/
def fNewT : DEnv → Res OD := fun ρ => .ok (.dt []) ρ
def fNewK : DEnv → Res OD := fun ρ => .ok (.dk []) ρ
theorem f_newT : FJ X E (.Dict [] [] pos) fNewT := ⟨_, pe_dnewT, fun σ G H ρ Q R h => fun p hp => FPost.new R h hp ⟨[], upd_same, .nil⟩⟩
theorem f_newK : FJ X E (.Dict [] [] pos) fNewK := ⟨_, pe_dnewK, fun σ G H ρ Q R h => fun p hp => FPost.new R h hp ⟨[], upd_same, .nil⟩⟩
/-- a display's pairs, its keys texts -/
structure DispJ (X : Cx) (E : WX) (pos : Pos) (keys : List (Option Expr)) (es : List Expr) (ks : List Key) (f : DEnv → Res (List PyData)) : Prop where
  len : keys.length = es.length ∧ keys.all (·.isSome) = true ∧ keys.length = ks.length
  ex : ∃ trs, PPs X pos keys es trs ∧ ∀ (σ : St) (G H : Hp) (ρ : DEnv) (Q : List (V × V) → Hp → Prop), Rel X.K G σ H ρ →
    Post X.K X.mg E (fun G' ps ds => ∃ kvs : List (Key × V), ps = kvs.map (fun kv => (kV kv.1, kv.2)) ∧ KvAll X.K G' kvs (ks.zip ds) ∧ kvs.length = ks.length) σ G H ρ Q (f ρ) → tPairs trs σ H Q
theorem dp_nil : DispJ X E pos [] [] [] dNil := ⟨⟨rfl, rfl, rfl⟩, [], pps_nil, fun σ G H ρ Q R h => Post.done R h ⟨[], rfl, .nil, rfl⟩⟩
theorem dp_cons {keys : List (Option Expr)} {ks : List Key} {j : Nat} {kp : Pos} (ha : EJ X E a fa) (hr : DispJ X E pos keys es ks fs) : DispJ X E pos (some (.Constant (.str x) j kp) :: keys) (a :: es) (.inr x :: ks) (dCons fa fs) := by
  obtain ⟨ta, qa, pa⟩ := ha
  obtain ⟨⟨l1, l2, l3⟩, trs, q, p⟩ := hr
  refine ⟨⟨congrArg (· + 1) l1, l2, congrArg (· + 1) l3⟩, (tC (.str x), ta) :: trs, pps_cons pe_str qa q, fun σ G H ρ Q R h => ?_⟩
  show ta σ H fun y H1 => tPairs trs σ H1 fun ps H2 => Q ((.str x, y) :: ps) H2
  refine pa σ G H ρ _ R (Post.bind h fun G1 H1 y d ρ1 R1 S1 hy h1 => p σ G1 H1 ρ1 _ R1 (Post.bind h1 fun G2 H2 ps ds ρ2 R2 S2 hps h2 => ?_))
  obtain ⟨kvs, e1, e2, e3⟩ := hps
  exact Post.done R2 h2 ⟨(.inr x, y) :: kvs, by rw [e1]; rfl, .cons ⟨rfl, Rp.mono S2.same hy⟩ e2, congrArg (· + 1) e3⟩
def fDisp (ks : List Key) (f : DEnv → Res (List PyData)) : DEnv → Res OD := fun ρ => (f ρ).bind fun ds ρ1 => .ok (.dk (mergeD [] (ks.zip ds))) ρ1
theorem f_disp {keys : List (Option Expr)} {ks : List Key} (h : DispJ X E pos keys es ks fs) (h0 : keys ≠ []) (h15 : keys.length ≤ 15) : FJ X E (.Dict keys es pos) (fDisp ks fs) := by
  obtain ⟨⟨l1, l2, l3⟩, trs, q, p⟩ := h
  refine ⟨_, pe_disp q l2 l1 h0 h15, fun σ G H ρ Q R h => fun r hr => ?_⟩
  have n1 : ¬ OwnL σ ρ r := fun z => by obtain ⟨w, e⟩ := R.ownH z; rw [hr] at e; cases e
  have n2 : ¬ OwnI σ ρ r := fun z => by obtain ⟨w, e⟩ := R.ownHI z; rw [hr] at e; cases e
  have R0 := R.beside (R.noneG hr) n1 n2 (.dK [])
  refine p σ G _ ρ _ R0 ?_
  unfold fDisp at h
  have eH : DL.era r (upd H r (.dK [])) = H := by
    rw [era_upd]
    funext b
    by_cases hb : b = r
    · subst hb; rw [era_same, hr]
    · rw [era_ne hb]
  have back : ∀ {G1 H1 : Hp} {ρ1 : DEnv}, Stp G (upd H r (.dK [])) σ ρ G1 H1 σ ρ1 → Stp G H σ ρ G1 H1 σ ρ1 := fun S => by
    have := S.era r
    rw [eH] at this
    exact this.unera
  cases z : fs ρ with
  | bad => rw [z] at h; exact h
  | err x c => rw [z] at h; exact fun G1 H1 cc od R1 S1 hh => h G1 H1 cc od R1 (back S1) hh
  | ok ds ρ1 =>
    rw [z] at h
    intro G1 H1 ps R1 S1 hps
    obtain ⟨kvs, e1, e2, e3⟩ := hps
    obtain ⟨t1, t2, t3, t4⟩ := S1.track (R.noneG hr) upd_same n1 n2
    refine ⟨t2, kvs, e1, by omega, ?_⟩
    have R2 := R1.beside t1 t3 t4 (.dK (mergeK [] kvs))
    refine h G1 _ r R2 ?_ t1 ⟨_, upd_same, kv_merge .nil e2⟩ hr t3 t4
    have := S1.era r
    rw [eH, ← era_upd (o := HO.dK (mergeK [] kvs))] at this
    exact this.unera
end
/-! ### defs that hand out a fresh object -/
def RPost (K : PySem.W.Frag) (mg : Str → Option Value) (E : WX) (D : Ends) (σ : St) (G H : Hp) (ρ : DEnv) : Res OD → Prop
  | .ok o ρ' => ∀ G' H' σ' p, Rel K G' σ' H' ρ' → Stp G H σ ρ G' H' σ' ρ' → G' p = none → OwnAt K G' H' p o → H p = none → ¬ OwnL σ' ρ' p → ¬ OwnI σ' ρ' p → D.rt (.ref p) H'
  | .err x ρ' => ∀ G' H' σ' c od, Rel K G' σ' H' ρ' → Stp G H σ ρ G' H' σ' ρ' → ErrAt K mg G' H' x c od → E c od σ' H'
  | .bad => False
structure FBJ (X : Cx) (E : WX) (sts : List Stmt) (f : DEnv → Res OD) : Prop where
  ex : ∃ t : TS, PSs X sts t ∧ ∀ (σ : St) (G H : Hp) (ρ : DEnv) (D : Ends), Rel X.K G σ H ρ → RPost X.K X.mg E D σ G H ρ (f ρ) → t D σ H
def seqF (f : DEnv → Res Out) (g : DEnv → Res OD) : DEnv → Res OD := fun ρ => match f ρ with
  | .ok .nx ρ1 => g ρ1
  | .err x ρ1 => .err x ρ1
  | _ => .bad
def frzF (i : Nat) (f : DEnv → Res OD) : DEnv → Res OD := fun ρ => f (frzC i ρ)
def spDF (K : PySem.W.Frag) (mg : Str → Option Value) (n : Nat) (den : DEnv → Res OD) : Sp := fun vs H Q E => ∃ (G : Hp) (cs : DEnv), vs.length = n ∧ cs.all Cell.isArg = true ∧ Rel K G (vs.map some) H cs ∧ FPost K mg (upE E) (vs.map some) G H cs Q (den cs)
def defF (m : Nat) (body : DEnv → Res OD) : DEnv → Res OD := fun cs => match body (cs ++ List.replicate m .un) with
  | .ok o ρ => .ok o (backIO cs ρ)
  | .err x ρ => .err x (backIO cs ρ)
  | .bad => .bad
structure KeptF (P : Program) (w : World) (K : PySem.W.Frag) (mg : Str → Option Value) (base : Heap) (CX : CXT) (k : Nat) (x : Str) (ps : List Str) (den : DEnv → Res OD) : Prop where
  ex : ∃ (f : Addr) (fd : FuncData), mg x = some (.ref f) ∧ PySem.W.keepIn K (.ref f) = true ∧ Binds K fd ps [] ∧ FnOk P w K mg base CX k f fd ps (spDF K mg ps.length den)
theorem fb_ret {X : Cx} {E : WX} {e : Expr} {ff : DEnv → Res OD} {pos : Pos} (h : FJ X E e ff) : FBJ X E [.Return (some e) pos] ff := by
  obtain ⟨t, q, p⟩ := h
  refine ⟨_, pss_one (ps_ret q), fun σ G H ρ D R h => p σ G H ρ _ R ?_⟩
  cases r : ff ρ with
  | bad => rw [r] at h; exact h
  | err x c => rw [r] at h; exact fun G' H' c od R' S' hh => h G' H' σ c od R' S' hh
  | ok o ρ1 => rw [r] at h; exact fun G' H' p R' S' q1 q2 q3 q4 q5 => h G' H' σ p R' S' q1 q2 q3 q4 q5
theorem RPost.from {K : PySem.W.Frag} {mg : Str → Option Value} {E : WX} {D : Ends} {σ σ1 : St} {G H G1 H1 : Hp} {ρ ρ1 : DEnv} {r : Res OD} (s : Stp G H σ ρ G1 H1 σ1 ρ1) (h : RPost K mg E D σ G H ρ r) : RPost K mg E D σ1 G1 H1 ρ1 r := by
  cases r with
  | ok o ρ' => exact fun G' H' σ' p R S q1 q2 q3 q4 q5 => h G' H' σ' p R (s.trans S) q1 q2 (s.keep p q3) q4 q5
  | err x ρ' => exact fun G' H' σ' c od R S q => h G' H' σ' c od R (s.trans S) q
  | bad => exact h
theorem fb_cons {X : Cx} {E : WX} {st : Stmt} {rest : List Stmt} {f : DEnv → Res Out} {g : DEnv → Res OD} (h : SJ X E st f) (h2 : FBJ X E rest g) : FBJ X E (st :: rest) (seqF f g) := by
  obtain ⟨t, q, p⟩ := h
  obtain ⟨t2, q2, p2⟩ := h2
  refine ⟨_, pss_cons q q2, fun σ G H ρ D R h => p σ G H ρ _ R ?_⟩
  unfold seqF at h
  cases r : f ρ with
  | bad => rw [r] at h; exact h
  | err x ρ' => rw [r] at h; exact h
  | ok o ρ' =>
    rw [r] at h
    cases o with
    | nx => exact fun G' H' σ' R' S' => p2 σ' G' H' ρ' D R' (RPost.from S' h)
    | bk => exact h.elim
    | ct => exact h.elim
    | rt d => exact h.elim
theorem fb_frz {X : Cx} {E : WX} {sts : List Stmt} {f : DEnv → Res OD} (i : Nat) (h : FBJ X E sts f) : FBJ X E sts (frzF i f) := by
  obtain ⟨t, q, p⟩ := h
  refine ⟨t, q, fun σ G H ρ D R h => ?_⟩
  have h : RPost X.K X.mg E D σ G H ρ (f (frzC i ρ)) := h
  unfold frzC at h
  cases e : ρ[i]? with
  | none => rw [e] at h; exact p σ G H ρ D R h
  | some c =>
    cases c with
    | un => rw [e] at h; exact p σ G H ρ D R h
    | val _ => rw [e] at h; exact p σ G H ρ D R h
    | io _ => rw [e] at h; exact p σ G H ρ D R h
    | own o =>
      cases o with
      | dk _ => rw [e] at h; exact p σ G H ρ D R h
      | dt _ => rw [e] at h; exact p σ G H ρ D R h
      | ins _ _ => rw [e] at h; exact p σ G H ρ D R h
      | dn _ => rw [e] at h; exact p σ G H ρ D R h
      | ts _ _ _ => rw [e] at h; exact p σ G H ρ D R h
      | lst ds =>
        rw [e] at h
        obtain ⟨G', R', S'⟩ := R.frz e
        exact p σ G' H _ D R' (RPost.from S' h)
section
variable {P : Program} {w : World} {K : PySem.W.Frag} {mg : Str → Option Value} {base : Heap}
theorem keptF_of {x qual : Str} {st : Stmt} {f : Addr} {fd : FuncData} {N ps : List Str} {k m : Nat} {body : DEnv → Res OD} (D : IsDef K mg x qual st ps f fd) (S : FnScope N ps (defScope st)) (hN : N.length = ps.length + m)
    (hb : ∀ (cdv : Value) (A : Around) (outer : List Env) (s : Shared) (H : Hp) (E : XK), Room k (A.deeper (envOfC qual (defScope st) s.heap.objs.size f cdv)) → FBJ (cxOf CX0 P w K mg base N qual (defScope st) f cdv A outer s H E).nox (upE E) (defBody st) body) :
    KeptF P w K mg base CX0 (k + 1) x ps (defF m body) := by
  refine ⟨f, fd, D.gl, D.fn.kp, D.bi, D.fn.ok S (fun vs H Q E h => ?_) fun cdv A outer s H vs Q E hr h => ?_⟩
  · obtain ⟨_, _, h, _⟩ := h
    exact h
  · obtain ⟨G, cs, hl, ha, R, h⟩ := h
    obtain ⟨t, q, p⟩ := (hb cdv A outer s H E hr).ex
    refine ⟨t, q, ?_⟩
    have hst : L2.start N vs = vs.map some ++ List.replicate m none := by
      unfold L2.start
      rw [hN, hl]
      congr 2
      omega
    rw [hst]
    have R0 := R.ext m
    have p' : ∀ (σ : St) (G H : Hp) (ρ : DEnv) (D : Ends), Rel K G σ H ρ → RPost K mg (upE E) D σ G H ρ (body ρ) → t D σ H := p
    refine p' _ G H (cs ++ List.replicate m .un) _ R0 ?_
    show RPost K mg (upE E) _ (vs.map some ++ List.replicate m none) G H (cs ++ List.replicate m .un) (body (cs ++ List.replicate m .un))
    unfold defF at h
    cases r : body (cs ++ List.replicate m .un) with
    | bad => rw [r] at h; exact h
    | err x ρ' =>
      rw [r] at h
      intro G' H' σ' c od R' S' q
      obtain ⟨R2, S2⟩ := back_ok ha R R' S'
      exact h G' H' c od R2 S2 q
    | ok o ρ' =>
      rw [r] at h
      intro G' H' σ' p R' S' q1 q2 q3 q4 q5
      obtain ⟨R2, S2⟩ := back_ok ha R R' S'
      have hcs : cs.length ≤ ρ'.length := by
        have h1 := S'.len
        have h2 := R'.len
        have h3 := R.len
        rw [List.length_append, List.length_replicate] at h1
        omega
      refine h G' H' p R2 S2 q1 q2 q3 (fun z => ?_) fun z => ?_
      · obtain ⟨i, o2, z1, z2⟩ := z
        rcases backIO_get cs ρ' i _ hcs z1 with ⟨⟨o3, y⟩, y2⟩ | ⟨_, y⟩
        · have hi : (cs ++ List.replicate m Cell.un)[i]? = some (.io o3) := by
            rw [List.getElem?_append_left (List.getElem?_eq_some_iff.mp y).1]; exact y
          obtain ⟨_, o4, y3⟩ := S'.io i o3 hi
          rw [y2] at y3
          cases y3
        · have := List.all_eq_true.mp ha _ (List.mem_of_getElem? y)
          cases this
      · have z := (S2.owni p).mp z
        obtain ⟨u, hu⟩ := R.ownHI z
        rw [q3] at hu
        cases hu
end
def dCallF (den : DEnv → Res OD) (fs : DEnv → Res (List PyData)) : DEnv → Res OD := fun ρ => (fs ρ).bind fun ds ρ1 => match den (ds.map .val) with
  | .ok d _ => .ok d ρ1
  | _ => .bad
theorem f_callF {X : Cx} {E : WX} {e : Expr} {es : List Expr} {fs : DEnv → Res (List PyData)} {den : DEnv → Res OD} {pos p : Pos} {x : Str} {k : Nat} {ps : List Str} (F : KeptF X.prog X.w X.K X.mg X.base CX0 k x ps den) (hn : es.length + 1 = ps.length) (hr : Room k X.A) (hg : Gl X x) (ha : AJ X E (e :: es) fs) (hdb : (x == ("__debug__" : Str)) = false := by decide)
    (he : starEach (e :: es) X.env = (false, eval e X.env) :: starEach es X.env := by rfl) (hpl : (backTo pos (starEach es X.env)).any (·.1) = false := by rfl) :
    FJ X E (.Call (.Name x p) (e :: es) [] pos) (dCallF den fs) := by
  obtain ⟨f, fd, gm, kp, bi, F⟩ := F
  obtain ⟨hl, t, q, p⟩ := ha
  refine ⟨_, pe_call F hr hg gm kp bi .nil pass0 q hdb he hpl, fun σ G H ρ Q R h => p σ G H ρ _ R ?_⟩
  unfold dCallF at h
  cases r : fs ρ with
  | bad => rw [r] at h; exact h
  | err x c => rw [r] at h; exact h
  | ok ds ρ1 =>
    rw [r] at h
    intro G1 H1 vs R1 S1 hv
    have h1 : FPost X.K X.mg E σ G1 H1 ρ1 Q (match den (ds.map .val) with
      | .ok d _ => .ok d ρ1
      | _ => .bad) := FPost.from S1 h
    rw [List.append_nil]
    refine ⟨G1, ds.map .val, by rw [RpAll.len hv]; exact (hl ρ ds ρ1 r).trans hn, vals_arg ds, vals_rel R1.gh hv, ?_⟩
    cases r2 : den (ds.map .val) with
    | bad => rw [r2] at h1; exact h1
    | err x c => rw [r2] at h1; exact h1.elim
    | ok d cs =>
      rw [r2] at h1
      intro G' H' b R' S' q1 q2 q3 q4 q5
      obtain ⟨R2, S2⟩ := call_step R1 hv R'.gh S'
      refine h1 G' H' b R2 S2 q1 q2 q3 (fun z => ?_) fun z => ?_
      · obtain ⟨u, hu⟩ := R1.ownH z; rw [q3] at hu; cases hu
      · obtain ⟨u, hu⟩ := R1.ownHI z; rw [q3] at hu; cases hu
end DL

set_option Elab.async false
set_option linter.all false
set_option maxRecDepth 100000
set_option maxHeartbeats 4000000
/-! DL part 13: how dicts and fresh objects are reckoned. -/
namespace DL
open PySem PySem.Spec PyProof.Rows L2

def dkQ (K : List (Key × PyData) → Prop) (o : Option OD) : Prop := match o with
  | some (.dk kvs) => K kvs
  | _ => False
def dtQ (K : List (List Key × PyData) → Prop) (o : Option OD) : Prop := match o with
  | some (.dt kvs) => K kvs
  | _ => False
def keyQ {κ : Type} (K : κ → Prop) (o : Option κ) : Prop := match o with
  | some k => K k
  | none => False
theorem dkQ_dk (K : List (Key × PyData) → Prop) (kvs : List (Key × PyData)) : dkQ K (some (.dk kvs)) = K kvs := rfl
theorem dtQ_dt (K : List (List Key × PyData) → Prop) (kvs : List (List Key × PyData)) : dtQ K (some (.dt kvs)) = K kvs := rfl
theorem keyQ_some {κ : Type} (K : κ → Prop) (k : κ) : keyQ K (some k) = K k := rfl
def hobjO (c : Option Cell) : Option OD := match c with
  | some (.own o) => some o
  | some (.io o) => some o
  | _ => none
theorem hobj_eq (i : Nat) (ρ : DEnv) : hobj i ρ = hobjO (ρ[i]?) := rfl
theorem hobjO_own (o : OD) : hobjO (some (.own o)) = some o := rfl
theorem hobjO_io (o : OD) : hobjO (some (.io o)) = some o := rfl
theorem keyD_int (i : Int) : keyD (.int i) = some (.inl i) := rfl
theorem keyD_str (x : Str) : keyD (.str x) = some (.inr x) := rfl
theorem keysD_nil : keysD [] = some [] := rfl
theorem keysD_int (i : Int) (ds : List PyData) : keysD (.int i :: ds) = (keysD ds).map (.inl i :: ·) := by
  show (match some (Sum.inl i : Key), keysD ds with
    | some k, some ks => some (k :: ks)
    | _, _ => none) = _
  cases keysD ds <;> rfl
section
variable {Z : Exn → DEnv → Prop} (ρ : DEnv) (Q : PyData → DEnv → Prop) (S : Out → DEnv → Prop) (O : OD → DEnv → Prop)
theorem wp_dget (i : Nat) (f : DEnv → Res PyData) : WpX Z (dDGet i f ρ) Q = ((ρ[i]?.getD .un).isOwn = true ∧ WpX Z (f ρ) fun k ρ1 => dkQ (fun kvs => WpX Z (Res.of ((keyD k).bind fun k => valD kvs k) ρ1) Q) (hobj i ρ1)) := by
  unfold dDGet; rw [wp_guard, wp_bind]; congr 1; congr 1; funext k ρ1
  cases hobj i ρ1 with
  | none => exact wp_bad _
  | some o => cases o <;> first | rfl | exact wp_bad _
theorem wp_dgetT (i : Nat) (f : DEnv → Res (List PyData)) : WpX Z (dDGetT i f ρ) Q = ((ρ[i]?.getD .un).isOwn = true ∧ WpX Z (f ρ) fun ds ρ1 => ds.length ≤ sizeLine ∧ dtQ (fun kvs => WpX Z (Res.of ((keysD ds).bind fun k => valD kvs k) ρ1) Q) (hobj i ρ1)) := by
  unfold dDGetT; rw [wp_guard, wp_bind]; congr 1; congr 1; funext k ρ1
  rw [wp_guard]; congr 1
  cases hobj i ρ1 with
  | none => exact wp_bad _
  | some o => cases o <;> first | rfl | exact wp_bad _
theorem ws_dput (i : Nat) (f g : DEnv → Res PyData) : WpX Z (sDPutD i f g ρ) S = WpX Z (f ρ) fun d ρ1 => (ρ1[i]?.getD .un).isOwn = true ∧ WpX Z (g ρ1) fun k ρ2 => dkQ (fun kvs => keyQ (fun k => kvs.length < sizeLine ∧ S .nx (setHeld i (.dk (putD kvs k d)) ρ2)) (keyD k)) (hobj i ρ2) := by
  unfold sDPutD; rw [wp_bind]; congr 1; funext d ρ1
  rw [wp_guard, wp_bind]; congr 1; congr 1; funext k ρ2
  cases hobj i ρ2 with
  | none => exact wp_bad _
  | some o =>
    cases o with
    | dk kvs =>
      show WpX Z (match some (OD.dk kvs), keyD k with
        | some (.dk kvs), some k => if kvs.length < sizeLine then .ok .nx (setHeld i (.dk (putD kvs k d)) ρ2) else .bad
        | _, _ => .bad) S = keyQ _ (keyD k)
      cases keyD k with
      | none => exact wp_bad _
      | some kk => exact (wp_guard _ _).trans (congrArg _ (wp_ok _ _ _))
    | _ => exact wp_bad _
theorem ws_dputT (i : Nat) (f : DEnv → Res PyData) (g : DEnv → Res (List PyData)) : WpX Z (sDPutT i f g ρ) S = WpX Z (f ρ) fun d ρ1 => (ρ1[i]?.getD .un).isOwn = true ∧ WpX Z (g ρ1) fun ds ρ2 => ds.length ≤ sizeLine ∧ dtQ (fun kvs => keyQ (fun k => kvs.length < sizeLine ∧ S .nx (setHeld i (.dt (putD kvs k d)) ρ2)) (keysD ds)) (hobj i ρ2) := by
  unfold sDPutT; rw [wp_bind]; congr 1; funext d ρ1
  rw [wp_guard, wp_bind]; congr 1; congr 1; funext k ρ2
  rw [wp_guard]; congr 1
  cases hobj i ρ2 with
  | none => exact wp_bad _
  | some o =>
    cases o with
    | dt kvs =>
      show WpX Z (match some (OD.dt kvs), keysD k with
        | some (.dt kvs), some k => if kvs.length < sizeLine then .ok .nx (setHeld i (.dt (putD kvs k d)) ρ2) else .bad
        | _, _ => .bad) S = keyQ _ (keysD k)
      cases keysD k with
      | none => exact wp_bad _
      | some kk => exact (wp_guard _ _).trans (congrArg _ (wp_ok _ _ _))
    | _ => exact wp_bad _
theorem wp_newT : WpX Z (fNewT ρ) O = O (.dt []) ρ := wp_ok _ _ _
theorem wp_newK : WpX Z (fNewK ρ) O = O (.dk []) ρ := wp_ok _ _ _
theorem wp_disp (ks : List Key) (f : DEnv → Res (List PyData)) : WpX Z (fDisp ks f ρ) O = WpX Z (f ρ) fun ds ρ1 => O (.dk (mergeD [] (ks.zip ds))) ρ1 := by
  unfold fDisp; rw [wp_bind]; congr 1; funext ds ρ1; exact wp_ok _ _ _
theorem wp_callF (den : DEnv → Res OD) (f : DEnv → Res (List PyData)) : WpX Z (dCallF den f ρ) O = WpX Z (f ρ) fun ds ρ1 => WpX Zn (den (ds.map .val)) fun d _ => O d ρ1 := by
  unfold dCallF; rw [wp_bind]; congr 1; funext ds ρ1
  cases den (ds.map .val) with
  | ok d c => exact (wp_ok _ _ _).trans (wp_ok d c fun d _ => O d ρ1).symm
  | err x c => exact (wp_bad _).trans (propext ⟨False.elim, fun h => h.out.elim⟩)
  | bad => exact (wp_bad _).trans (wp_bad _).symm
def nxF (K : DEnv → Prop) (o : Out) (ρ : DEnv) : Prop := match o with
  | .nx => K ρ
  | _ => False
theorem nxF_nx (K : DEnv → Prop) : nxF K .nx ρ = K ρ := rfl
theorem wf_seq (f : DEnv → Res Out) (g : DEnv → Res OD) : WpX Z (seqF f g ρ) O = WpX Z (f ρ) (nxF fun ρ1 => WpX Z (g ρ1) O) := by
  unfold seqF
  cases f ρ with
  | ok o ρ1 =>
    rw [wp_ok]
    cases o <;> first | rfl | exact wp_bad _
  | err x c => exact propext ⟨fun h => ⟨h.out⟩, fun h => ⟨h.out⟩⟩
  | bad => exact (wp_bad _).trans (wp_bad _).symm
theorem wf_frz (i : Nat) (f : DEnv → Res OD) : WpX Z (frzF i f ρ) O = WpX Z (f (frzC i ρ)) O := rfl
def retF (cs : DEnv) (O : OD → DEnv → Prop) (o : OD) (ρ : DEnv) : Prop := O o (backIO cs ρ)
theorem retF_eq (cs : DEnv) (o : OD) : retF cs O o ρ = O o (backIO cs ρ) := rfl
theorem wp_defF (m : Nat) (body : DEnv → Res OD) (cs : DEnv) (h : WpX Zn (body (cs ++ List.replicate m .un)) (retF cs O)) : WpX Zn (defF m body cs) O := by
  unfold defF
  cases e : body (cs ++ List.replicate m .un) with
  | ok o ρ => rw [e] at h; exact ⟨h.out⟩
  | err x ρ => rw [e] at h; exact h.out.elim
  | bad => rw [e] at h; exact h.out.elim
end
theorem frzO_dk (kvs : List (Key × PyData)) (i : Nat) (ρ : DEnv) : frzO (some (.own (.dk kvs))) i ρ = ρ := rfl
theorem frzO_dt (kvs : List (List Key × PyData)) (i : Nat) (ρ : DEnv) : frzO (some (.own (.dt kvs))) i ρ = ρ := rfl
/-! a box: the row, and how far it is read -/
def boxO (row : List Int) (at_ : Int) : OD := .dk [(.inr "row", .list (row.map .int)), (.inr "at", .int at_)]
theorem box_merge (row : List Int) (a : Int) : OD.dk (mergeD [] (List.zip [Sum.inr "row", Sum.inr "at"] [.list (row.map .int), .int a])) = boxO row a := rfl
theorem box_row (row : List Int) (a : Int) : valD [((Sum.inr "row" : Key), PyData.list (row.map .int)), ((Sum.inr "at" : Key), .int a)] (Sum.inr "row" : Key) = some (.list (row.map .int)) := rfl
theorem box_at (row : List Int) (a : Int) : valD [((Sum.inr "row" : Key), PyData.list (row.map .int)), ((Sum.inr "at" : Key), .int a)] (Sum.inr "at" : Key) = some (.int a) := rfl
theorem box_put (row : List Int) (a b : Int) : putD [((Sum.inr "row" : Key), PyData.list (row.map .int)), ((Sum.inr "at" : Key), .int a)] (Sum.inr "at" : Key) (.int b) = [((Sum.inr "row" : Key), PyData.list (row.map .int)), ((Sum.inr "at" : Key), .int b)] := rfl
end DL

set_option Elab.async false
set_option linter.all false
set_option maxRecDepth 100000
set_option maxHeartbeats 4000000
/-! DL part 14: exceptions: raise, calls that may raise, try .. except. -/
namespace DL
open PySem PySem.Spec PyProof.Rows L2

section
variable {K : PySem.W.Frag} {G H : Hp} {σ : St} {ρ : DEnv} {i : Nat} {c0 : Cell}
theorem Rel.setUn (R : Rel K G σ H ρ) (h0 : ρ[i]? = some c0) (hio : ∀ o, c0 ≠ .io o) (v : Option V) :
    Rel K G (σ.set i v) H (ρ.set i .un) ∧ Stp G H σ ρ G H (σ.set i v) (ρ.set i .un) := by
  obtain ⟨v0, hv0, _⟩ := R.cell i c0 h0
  refine ⟨⟨R.gh, by rw [List.length_set, List.length_set]; exact R.len, fun j c e => ?_, fun j k p hjk a b => ?_⟩, ⟨Same.refl _, fun _ _ h _ _ => h, fun _ h => h, fun _ _ h => .inl h, fun b => ?_, fun j o e => ?_, fun j o e => ?_, by first | rfl | simp⟩⟩
  · rcases getset e with ⟨rfl, rfl, _⟩ | ⟨ne, e⟩
    · exact ⟨v, setself hv0, trivial⟩
    · rw [List.getElem?_set_ne (Ne.symm ne)]
      exact R.cell j c e
  · obtain ⟨a1, c1, a2, a3⟩ := a
    obtain ⟨b1, c2, b2, b3⟩ := b
    rcases getset a2 with ⟨rfl, rfl, _⟩ | ⟨ne, e⟩
    · cases a3
    · rcases getset b2 with ⟨rfl, rfl, _⟩ | ⟨ne2, e2⟩
      · cases b3
      · rw [List.getElem?_set_ne (Ne.symm ne)] at a1
        rw [List.getElem?_set_ne (Ne.symm ne2)] at b1
        exact R.sep j k p hjk ⟨a1, c1, e, a3⟩ ⟨b1, c2, e2, b3⟩
  · rintro ⟨j, o, e, w⟩
    rcases getset e with ⟨rfl, z, _⟩ | ⟨ne, e⟩
    · cases z
    · rw [List.getElem?_set_ne (Ne.symm ne)] at w
      exact .inl ⟨j, o, e, w⟩
  · by_cases hj : j = i
    · subst hj
      rw [h0] at e
      exact absurd (Option.some.inj e) (hio o)
    · rw [List.getElem?_set_ne (Ne.symm hj), List.getElem?_set_ne (Ne.symm hj)]
      exact ⟨rfl, o, e⟩
  · rcases getset e with ⟨rfl, z, _⟩ | ⟨ne, e⟩
    · cases z
    · exact ⟨o, e⟩
end
/-! ### a def that may raise -/
theorem kept_ofX {P : Program} {w : World} {K : PySem.W.Frag} {mg : Str → Option Value} {base : Heap} {x qual : Str} {st : Stmt} {f : Addr} {fd : FuncData} {N ps : List Str} {k m : Nat} {body : DEnv → Res Out} (D : IsDef K mg x qual st ps f fd) (S : FnScope N ps (defScope st)) (hN : N.length = ps.length + m)
    (hb : ∀ (cdv : Value) (A : Around) (outer : List Env) (s : Shared) (H : Hp) (E : XK), Room k (A.deeper (envOfC qual (defScope st) s.heap.objs.size f cdv)) → BJ (cxOf (CX P w) P w K mg base N qual (defScope st) f cdv A outer s H E) (upE E) (defBody st) body) :
    Kept P w K mg base (CX P w) (k + 1) x ps (defD m body) := by
  refine ⟨f, fd, D.gl, D.fn.kp, D.bi, D.fn.okX S (fun vs H Q E h => ?_) fun cdv A outer s H vs Q E hr h => ?_⟩
  · obtain ⟨_, _, h, _⟩ := h
    exact h
  · obtain ⟨G, cs, hl, ha, R, h⟩ := h
    obtain ⟨t, q, p⟩ := (hb cdv A outer s H E hr).ex
    refine ⟨t, q, ?_⟩
    have hst : L2.start N vs = vs.map some ++ List.replicate m none := by
      unfold L2.start
      rw [hN, hl]
      congr 2
      omega
    rw [hst]
    have R0 := R.ext m
    have p' : ∀ (σ : St) (G H : Hp) (ρ : DEnv) (D : Ends), Rel K G σ H ρ → SPost K mg (upE E) D σ G H ρ (body ρ) → t D σ H := p
    refine p' _ G H (cs ++ List.replicate m .un) _ R0 ?_
    show SPost K mg (upE E) _ (vs.map some ++ List.replicate m none) G H (cs ++ List.replicate m .un) (body (cs ++ List.replicate m .un))
    unfold defD at h
    cases r : body (cs ++ List.replicate m .un) with
    | bad => rw [r] at h; exact h
    | err x ρ' =>
      rw [r] at h
      intro G' H' σ' c od R' S' q
      obtain ⟨R2, S2⟩ := back_ok ha R R' S'
      exact h G' H' c od R2 S2 q
    | ok o ρ' =>
      rw [r] at h
      cases o with
      | nx =>
        intro G' H' σ' R' S'
        obtain ⟨R2, S2⟩ := back_ok ha R R' S'
        exact h G' H' .non R2 S2 .non
      | rt d =>
        intro G' H' σ' v R' S' q
        obtain ⟨R2, S2⟩ := back_ok ha R R' S'
        exact h G' H' v R2 S2 q
      | bk => exact h.elim
      | ct => exact h.elim
/-- what is proved where nothing is raised holds where something may be -/
theorem BJ.nox {X : Cx} {E : WX} {sts : List Stmt} {f : DEnv → Res Out} (h : BJ X.nox E sts f) : BJ X E sts f := by
  obtain ⟨t, q, p⟩ := h
  exact ⟨t, q.nox, p⟩
/-! ### a call that may raise -/
def dCallX (den : DEnv → Res PyData) (fs : DEnv → Res (List PyData)) : DEnv → Res PyData := fun ρ => (fs ρ).bind fun ds ρ1 => match den (ds.map .val) with
  | .ok d _ => .ok d ρ1
  | .err x _ => .err x ρ1
  | .bad => .bad
theorem e_callX {X : Cx} {W : WX} {e : Expr} {es : List Expr} {fs : DEnv → Res (List PyData)} {den : DEnv → Res PyData} {pos p : Pos} {x : Str} {k : Nat} {ps : List Str} (tk : Takes X W) (F : Kept X.prog X.w X.K X.mg X.base (CX X.prog X.w) k x ps den) (hn : es.length + 1 = ps.length) (hr : Room k X.A) (hg : Gl X x) (ha : AJ X W (e :: es) fs) (hdb : (x == ("__debug__" : Str)) = false := by decide)
    (he : starEach (e :: es) X.env = (false, eval e X.env) :: starEach es X.env := by rfl) (hpl : (backTo pos (starEach es X.env)).any (·.1) = false := by rfl) :
    EJ X W (.Call (.Name x p) (e :: es) [] pos) (dCallX den fs) := by
  obtain ⟨f, fd, gm, kp, bi, F⟩ := F
  obtain ⟨hl, t, q, p⟩ := ha
  refine ⟨_, pe_callS F hr hg gm kp bi (fun σ => passAt tk σ) q hdb he hpl, fun σ G H ρ Q R h => p σ G H ρ _ R ?_⟩
  unfold dCallX at h
  cases r : fs ρ with
  | bad => rw [r] at h; exact h
  | err x c => rw [r] at h; exact h
  | ok ds ρ1 =>
    rw [r] at h
    intro G1 H1 vs R1 S1 hv
    have h1 : EPost X W σ G1 H1 ρ1 Q (match den (ds.map .val) with
      | .ok d _ => .ok d ρ1
      | .err x _ => .err x ρ1
      | .bad => .bad) := Post.from S1 h
    refine ⟨G1, ds.map .val, by rw [RpAll.len hv]; exact (hl ρ ds ρ1 r).trans hn, vals_arg ds, vals_rel R1.gh hv, ?_⟩
    cases r2 : den (ds.map .val) with
    | bad => rw [r2] at h1; exact h1
    | err x cs =>
      rw [r2] at h1
      intro G' H' c od R' S' q
      obtain ⟨R2, S2⟩ := call_step R1 hv R'.gh S'
      exact h1 G' H' c od R2 S2 q
    | ok d cs =>
      rw [r2] at h1
      intro G' H' v R' S' q
      obtain ⟨R2, S2⟩ := call_step R1 hv R'.gh S'
      exact h1 G' H' v R2 S2 q
/-! ### raise X(e, ..), X an own class without an own __init__ -/
structure ExF (K : PySem.W.Frag) (mg : Str → Option Value) (x : Str) : Prop where
  ex : ∃ C, mg x = some (.ref C) ∧ PySem.W.excIn K C [.type "ValueError", .type "Exception", .type "BaseException", .type "object"] "ValueError.__new__" = true ∧ PySem.W.keepIn K (.ref C) = true ∧
    PySem.W.subIn K (.ref C) (.type "BaseException") = some true ∧ PySem.W.typeIn K (.ref C) = some (.type "type")
def sRaise (x : Str) (f : DEnv → Res (List PyData)) : DEnv → Res Out := fun ρ => (f ρ).bind fun ds ρ1 => if ds.length ≤ sizeLine then .err ⟨x, []⟩ ρ1 else .bad
theorem s_raise {X : Cx} {W : WX} {e : Expr} {es : List Expr} {fs : DEnv → Res (List PyData)} {pos p pos' : Pos} {x : Str} (hc : X.calm = true) (tk : Takes X W) (F : ExF X.K X.mg x) (hg : Gl X x) (ha : AJ X W (e :: es) fs) (hdb : (x == ("__debug__" : Str)) = false := by decide)
    (he : starEach (e :: es) X.env = (false, eval e X.env) :: starEach es X.env := by rfl) (hpl : (backTo pos (starEach es X.env)).any (·.1) = false := by rfl) :
    SJ X W (.Raise (some (.Call (.Name x p) (e :: es) [] pos)) none pos') (sRaise x fs) := by
  obtain ⟨C, g, ex, kp, sb, ty⟩ := F
  obtain ⟨hl, t, q, p⟩ := ha
  refine ⟨_, ps_raise hc tk (pmk_ownA PySem.F.excBase_ValueError ex g kp (raises_own sb ty) hg q hdb he hpl), fun σ G H ρ D R h => p σ G H ρ _ R (SPost.bind h fun G1 H1 xs ds ρ1 R1 S1 hx h1 => ?_)⟩
  by_cases hz : ds.length ≤ sizeLine
  case neg => rw [if_neg hz] at h1; exact h1.elim
  rw [if_pos hz] at h1
  have hl2 := RpAll.len hx
  exact ⟨by omega, h1 G1 H1 σ (.ref C) none R1 Stp.refl ⟨C, g, rfl, rfl⟩⟩
/-! ### try .. except X as n -/
def setU (i : Nat) (ρ : DEnv) : Option DEnv := match ρ[i]? with
  | some (.io _) => none
  | some _ => some (ρ.set i .un)
  | none => none
def endU (i : Nat) (o : Out) (ρ : DEnv) : Res Out := match o with
  | .rt d => .ok (.rt d) ρ
  | o => match setU i ρ with
    | some ρ' => .ok o ρ'
    | none => .bad
def endR (i : Nat) : Res Out → Res Out
  | .ok o ρ => endU i o ρ
  | _ => .bad
def sTryAs (i : Nat) (m : Str → Option Bool) (fb : DEnv → Res Out) (fs : Exn → DEnv → Res Out) : DEnv → Res Out := fun ρ => match fb ρ with
  | .err x ρ1 => match m x.cls with
    | some true => match setU i ρ1 with
      | some ρ2 => endR i (fs x ρ2)
      | none => .bad
    | some false => .err x ρ1
    | none => .bad
  | r => r
theorem setU_some {i : Nat} {ρ ρ' : DEnv} (h : setU i ρ = some ρ') : ∃ c0, ρ[i]? = some c0 ∧ (∀ o, c0 ≠ .io o) ∧ ρ' = ρ.set i .un := by
  unfold setU at h
  cases q : ρ[i]? with
  | none => rw [q] at h; cases h
  | some c =>
    rw [q] at h
    cases c with
    | io o => cases h
    | un => cases h; exact ⟨_, rfl, fun _ z => (nomatch z), rfl⟩
    | val o => cases h; exact ⟨_, rfl, fun _ z => (nomatch z), rfl⟩
    | own o => cases h; exact ⟨_, rfl, fun _ z => (nomatch z), rfl⟩
/-- a block, read by its meaning -/
def tBlk (K : PySem.W.Frag) (mg : Str → Option Value) (E : WX) (f : DEnv → Res Out) : TS := fun D σ H => ∃ G ρ, Rel K G σ H ρ ∧ SPost K mg E D σ G H ρ (f ρ)
theorem pss_t {X : Cx} {E : WX} {sts : List Stmt} {f : DEnv → Res Out} (h : BJ X E sts f) : PSs X sts (tBlk X.K X.mg E f) := by
  obtain ⟨t, q, p⟩ := h
  exact ⟨fun pins s σ H D I hh => q.run pins s σ H D I (by obtain ⟨G, ρ, R, hs⟩ := hh; exact p σ G H ρ D R hs)⟩
/-- a suite: it knows the exception, whose name is in slot i -/
structure UJ (X : Cx) (i : Nat) (sts : List Stmt) (f : Exn → DEnv → Res Out) : Prop where
  ex : ∀ (a : Addr) (oe : Obj) (C : Addr) (od : Option Addr) (pn : List (Addr × Obj)), Zc (.ref C) od oe → (∃ vs, oe.data = .fields vs) →
    ∃ t : TS, PSs (X.suite a ((a, oe) :: pn)) sts t ∧ ∀ (σ : St) (G H : Hp) (ρ : DEnv) (D : Ends) (x : Exn), Rel X.K G σ H ρ → σ[i]? = some (some (.ref a)) → H a = none → ErrAt X.K X.mg G H x (.ref C) od →
      SPost X.K X.mg W0 D σ G H ρ (f x ρ) → t D σ H
def tSuite (K : PySem.W.Frag) (mg : Str → Option Value) (i : Nat) (fs : Exn → DEnv → Res Out) : Addr → Value → Option Addr → TS := fun a cls d D σ H =>
  ∃ (G : Hp) (ρ : DEnv) (x : Exn) (C : Addr), cls = .ref C ∧ Rel K G σ H ρ ∧ σ[i]? = some (some (.ref a)) ∧ H a = none ∧ ErrAt K mg G H x (.ref C) d ∧ SPost K mg W0 D σ G H ρ (fs x ρ)
theorem suite_t {X : Cx} {i : Nat} {sts : List Stmt} {f : Exn → DEnv → Res Out} (h : UJ X i sts f) (a : Addr) (oe : Obj) (cls : Value) (d : Option Addr) (pn : List (Addr × Obj)) (hz : Zc cls d oe) (hf : ∃ vs, oe.data = .fields vs) :
    PSs (X.suite a ((a, oe) :: pn)) sts (tSuite X.K X.mg i f a cls d) := by
  refine ⟨fun pins s σ H D I hh => ?_⟩
  obtain ⟨G, ρ, x, C, rfl, R, h1, h2, h3, h4⟩ := hh
  obtain ⟨t, q, p⟩ := h.ex a oe C d pn hz hf
  exact q.run pins s σ H D I (p σ G H ρ D x R h1 h2 h3 h4)
/-- what a handler takes, by the classes' names -/
abbrev Matches (K : PySem.W.Frag) (mg : Str → Option Value) (c : Value) (m : Str → Option Bool) : Prop := ∀ n b, m n = some b → ∀ C, mg n = some (.ref C) → PySem.W.exmOne K (.ref C) c = some b
theorem try_read {X : Cx} {W : WX} {c : Value} {i : Nat} {m : Str → Option Bool} {fb : DEnv → Res Out} {fs : Exn → DEnv → Res Out} (hm : Matches X.K X.mg c m) {σ : St} {G H : Hp} {ρ : DEnv} {D : Ends} (R : Rel X.K G σ H ρ) (h : SPost X.K X.mg W D σ G H ρ (sTryAs i m fb fs ρ)) :
    tBlk X.K X.mg (wAs X.K c i (tSuite X.K X.mg i fs) W D) fb D σ H := by
  refine ⟨G, ρ, R, ?_⟩
  unfold sTryAs at h
  cases r : fb ρ with
  | bad => rw [r] at h; exact h
  | ok o ρ1 => rw [r] at h; cases o <;> exact h
  | err x ρ1 =>
    rw [r] at h
    intro G1 H1 σ1 cc od R1 S1 hE
    obtain ⟨C, g1, rfl, g3⟩ := hE
    have hE : ErrAt X.K X.mg G1 H1 x (.ref C) od := ⟨C, g1, rfl, g3⟩
    have h : SPost X.K X.mg W D σ G H ρ (match m x.cls with
      | some true => match setU i ρ1 with
        | some ρ2 => endR i (fs x ρ2)
        | none => .bad
      | some false => .err x ρ1
      | none => .bad) := h
    cases q : m x.cls with
    | none => rw [q] at h; exact h.elim
    | some b =>
      rw [q] at h
      refine ⟨b, hm _ _ q C g1, fun hb a ha => ?_, fun hb => ?_⟩
      · subst hb
        have h : SPost X.K X.mg W D σ G H ρ (match setU i ρ1 with
          | some ρ2 => endR i (fs x ρ2)
          | none => .bad) := h
        cases q2 : setU i ρ1 with
        | none => rw [q2] at h; exact h.elim
        | some ρ2 =>
          rw [q2] at h
          obtain ⟨c0, h0, hio, rfl⟩ := setU_some q2
          obtain ⟨v0, hv0, _⟩ := R1.cell i c0 h0
          obtain ⟨R2, S2⟩ := R1.setUn h0 hio (some (.ref a))
          have h : SPost X.K X.mg W D (σ1.set i (some (.ref a))) G1 H1 (ρ1.set i .un) (endR i (fs x (ρ1.set i .un))) := SPost.from (S1.trans S2) h
          refine ⟨G1, _, x, C, rfl, R2, setself hv0, ha, hE, ?_⟩
          -- the suite's ends: the name is gone
          cases r2 : fs x (ρ1.set i .un) with
          | bad => rw [r2] at h; exact h
          | err y ρ3 => rw [r2] at h; exact h.elim
          | ok o ρ3 =>
            rw [r2] at h
            have h : SPost X.K X.mg W D (σ1.set i (some (.ref a))) G1 H1 (ρ1.set i .un) (endU i o ρ3) := h
            have done : ∀ {k : St → Hp → Prop}, (∀ ρ4, setU i ρ3 = some ρ4 → ∀ G' H' σ', Rel X.K G' σ' H' ρ4 → Stp G1 H1 (σ1.set i (some (.ref a))) (ρ1.set i .un) G' H' σ' ρ4 → k σ' H') → (∃ ρ4, setU i ρ3 = some ρ4) →
                ∀ G' H' σ', Rel X.K G' σ' H' ρ3 → Stp G1 H1 (σ1.set i (some (.ref a))) (ρ1.set i .un) G' H' σ' ρ3 → k (σ'.set i none) H' := fun {k} hk he G' H' σ' R' S' => by
              obtain ⟨ρ4, e4⟩ := he
              obtain ⟨c1, k0, kio, rfl⟩ := setU_some e4
              obtain ⟨R5, S5⟩ := R'.setUn k0 kio none
              exact hk _ e4 G' H' _ R5 (S'.trans S5)
            cases o with
            | rt d => exact h
            | nx =>
              cases q3 : setU i ρ3 with
              | none => unfold endU at h; rw [q3] at h; exact h.elim
              | some ρ4 =>
                unfold endU at h; rw [q3] at h
                exact done (k := D.nx) (fun ρ5 e5 => by rw [q3] at e5; cases e5; exact h) ⟨ρ4, q3⟩
            | bk =>
              cases q3 : setU i ρ3 with
              | none => unfold endU at h; rw [q3] at h; exact h.elim
              | some ρ4 =>
                unfold endU at h; rw [q3] at h
                exact done (k := D.bk) (fun ρ5 e5 => by rw [q3] at e5; cases e5; exact h) ⟨ρ4, q3⟩
            | ct =>
              cases q3 : setU i ρ3 with
              | none => unfold endU at h; rw [q3] at h; exact h.elim
              | some ρ4 =>
                unfold endU at h; rw [q3] at h
                exact done (k := D.ct) (fun ρ5 e5 => by rw [q3] at e5; cases e5; exact h) ⟨ρ4, q3⟩
      · subst hb
        exact h G1 H1 σ1 (.ref C) od R1 S1 hE
theorem s_tryAs {X : Cx} {W : WX} {x n : Str} {c : Value} {body suite : List Stmt} {b₀ : Stmt} {np pos pos' : Pos} {m : Str → Option Bool} {fb : DEnv → Res Out} {fs : Exn → DEnv → Res Out} (i : Nat)
    (hs : X.stack = X.env :: X.outer) (hf : X.env.frame = some X.env.locals) (hN : X.N.Nodup) (hi : X.N[i]? = some n) (hln : X.env.kindOf n = some .local) (hc : Names X x c) (tk : Takes X W) (hm : Matches X.K X.mg c m)
    (hb : ∀ (W' : WX) (pn : List (Addr × Obj)) (xe : Value → Shared → Prop), Takes (X.tr pn xe) W' → PassesOwn (model X.prog X.w) X.A X.env xe → BJ (X.tr pn xe) W' body fb) (hu : UJ X i (b₀ :: suite) fs) :
    SJ X W (.Try body [.ExceptHandler (some (.Name x np)) (some n) (b₀ :: suite) pos'] [] [] pos) (sTryAs i m fb fs) :=
  ⟨_, ps_try_as (tb := fun W' => tBlk X.K X.mg W' fb) (ts := tSuite X.K X.mg i fs) hs hf hN hi hln hc tk (fun W' pn xe t1 t2 => pss_t (hb W' pn xe t1 t2)) (fun a oe cls d pn hz hv => suite_t hu a oe cls d pn hz hv), fun σ G H ρ D R h => try_read hm R h⟩
/-! ### suites -/
/-- isinstance(n, T) of the caught one -/
structure IsF (K : PySem.W.Frag) (mg : Str → Option Value) (D : Value) (q : Str → Option Bool) : Prop where
  ex : ∀ n b, q n = some b → ∀ C, mg n = some (.ref C) → ExcC K C ∧ PySem.W.kitOne K (.ref C) D = some b
structure UE (X : Cx) (i : Nat) (e : Expr) (f : Exn → DEnv → Res PyData) : Prop where
  ex : ∀ (a : Addr) (oe : Obj) (C : Addr) (od : Option Addr) (pn : List (Addr × Obj)), Zc (.ref C) od oe → (∃ vs, oe.data = .fields vs) →
    ∃ t : TE, PE (X.suite a ((a, oe) :: pn)) e t ∧ ∀ (σ : St) (G H : Hp) (ρ : DEnv) (Q : VK) (x : Exn), Rel X.K G σ H ρ → σ[i]? = some (some (.ref a)) → H a = none → ErrAt X.K X.mg G H x (.ref C) od →
      Post X.K X.mg W0 (Rp X.K) σ G H ρ Q (f x ρ) → t σ H Q
theorem ue_e {X : Cx} {i : Nat} {e : Expr} {f : DEnv → Res PyData} (h : ∀ a pn, EJ (X.suite a pn) W0 e f) : UE X i e (fun _ => f) := by
  refine ⟨fun a oe C od pn _ _ => ?_⟩
  obtain ⟨t, q, p⟩ := h a ((a, oe) :: pn)
  exact ⟨t, q, fun σ G H ρ Q x R _ _ _ hh => p σ G H ρ Q R hh⟩
theorem u_ret {X : Cx} {i : Nat} {e : Expr} {f : Exn → DEnv → Res PyData} {pos : Pos} (h : UE X i e f) : UJ X i [.Return (some e) pos] (fun x => sRet (f x)) := by
  refine ⟨fun a oe C od pn hz hv => ?_⟩
  obtain ⟨t, q, p⟩ := h.ex a oe C od pn hz hv
  refine ⟨_, pss_one (ps_ret q), fun σ G H ρ D x R h1 h2 h3 hh => p σ G H ρ _ x R h1 h2 h3 (SPost.bind hh fun G1 H1 v d ρ1 R1 S1 hx h4 => h4 G1 H1 σ v R1 Stp.refl hx)⟩
def dIsX (q : Str → Option Bool) (x : Exn) : DEnv → Res PyData := fun ρ => match x.fs with
  | [] => Res.of ((q x.cls).map PyData.bool) ρ
  | _ => .bad
theorem ue_isi {X : Cx} {i : Nat} {n : Str} {eT : Expr} {cV : V} {cv : Value} {q : Str → Option Bool} {p1 p2 pos : Pos} (hg : Gl X "isinstance") (hm : X.mg "isinstance" = none) (hn : ∀ a pn, PE (X.suite a pn) (.Name n p2) (tVar i)) (hT : ∀ a pn, PE (X.suite a pn) eT (tC cV)) (hv : ∀ u, RelV cV u → u = cv) (F : IsF X.K X.mg cv q)
    (hs : ∀ a pn, starEach [.Name n p2, eT] (X.suite a pn).env = (false, eval (.Name n p2) (X.suite a pn).env) :: starEach [eT] (X.suite a pn).env := by intros; rfl) (hs2 : ∀ a pn, starEach [eT] (X.suite a pn).env = (false, eval eT (X.suite a pn).env) :: starEach [] (X.suite a pn).env := by intros; rfl)
    (hpl : ∀ a pn, (backTo pos (starEach [eT] (X.suite a pn).env)).any (·.1) = false := by intros; rfl) :
    UE X i (.Call (.Name "isinstance" p1) [.Name n p2, eT] [] pos) (dIsX q) := by
  refine ⟨fun a oe C od pn hz hf => ?_⟩
  by_cases ho : od = none ∧ ExcC X.K C
  · obtain ⟨rfl, hC⟩ := ho
    refine ⟨_, pe_callB (call_isE hC hz hf) hg hm (by decide +kernel) (pa_cons (hn _ _) (pa_cons (hT _ _) pa_nil (hs2 _ _)) (hs _ _)) (he := hs _ _) (hpl := hpl _ _), fun σ G H ρ Q x R h1 h2 h3 h4 => ?_⟩
    unfold dIsX at h4
    cases e : x.fs with
    | cons y ys => rw [e] at h4; exact h4.elim
    | nil =>
      rw [e] at h4
      obtain ⟨C', g1, g2, _⟩ := h3
      cases g2
      cases e2 : q x.cls with
      | none => simp only [e2] at h4; exact h4.elim
      | some b =>
        simp only [e2] at h4
        obtain ⟨_, k2⟩ := F.ex _ b e2 C g1
        exact ⟨.ref a, h1, cV, cv, b, rfl, hv, k2, Post.done R h4 (.bl b)⟩
  · refine ⟨fun _ _ _ => False, ⟨fun _ _ _ _ _ _ h => h.elim⟩, fun σ G H ρ Q x R h1 h2 h3 h4 => ho ?_⟩
    unfold dIsX at h4
    obtain ⟨C', g1, g2, g3⟩ := h3
    cases g2
    cases e : x.fs with
    | cons y ys => rw [e] at h4; exact h4.elim
    | nil =>
      rw [e] at h4 g3
      cases e2 : q x.cls with
      | none => simp only [e2] at h4; exact h4.elim
      | some b =>
        exact ⟨g3, (F.ex _ b e2 C g1).1⟩
end DL

set_option Elab.async false
set_option linter.all false
set_option maxRecDepth 100000
set_option maxHeartbeats 4000000
/-! DL part 15: enumerate over a tuple. -/
namespace DL
open PySem PySem.Spec PyProof.Rows L2

theorem wp_either {M : Model} {A : Around} {E : Value → Shared → Prop} {s : Shared} {α : Type} {c : Prop} [inst : Decidable c] {a b : Sem α} {Q : α → Shared → Prop} (h1 : c → wpAny M A a Q E s) (h2 : ¬ c → wpAny M A b Q E s) : wpAny M A (if c then a else b) Q E s := by
  by_cases h : c
  · rw [if_pos h]; exact h1 h
  · rw [if_neg h]; exact h2 h
theorem meets_enumT {v : Value} {o : Obj} {H : Heap → Prop} (B : Begins v o H) : Meets (Builtin.«enumerate.__new__» { pos := [Value.type "enumerate", v] }) fun _ R s =>
    H s.heap ∧ R (Except.ok (Flow.ret (Value.ref (s.heap.push o).objs.size)))
      { heap := (s.heap.push o).push { cls := Value.type "enumerate", data := Data.fields #[Value.none, Value.bool false, Value.ref s.heap.objs.size, rawInt 0, Value.none, Value.none] }, gens := s.gens, drawn := s.drawn, toks := s.toks, os := s.os } := by
  intro prog w A R s ⟨hH, hR⟩
  obtain ⟨h, g, d, t, os⟩ := s
  unfold Builtin.«enumerate.__new__» Builtin.SmallTypes.newClass
  refine wpAny_bind ?_
  refine wpAny_bind ?_
  simp only [sub_enumerate]
  refine wpAny_of_eq (t := isType (Value.type "enumerate")) (a := true) rfl ?_
  refine wpAny_ite_false (by decide) ?_
  refine wpAny_bind (wpAny_pure ?_)
  refine wpAny_ite_false (by decide) ?_
  refine wpAny_pure ?_
  have tail : ∀ it : Value, wpAny (model prog w) A.in1 (do
          let __do_lift ← pyIter v
          let __do_lift ← Builtin.SmallTypes.newRecord (Value.type "enumerate") (Builtin.SmallTypes.ownedTupleFields ++ [__do_lift, rawInt 0, Value.none, Value.none])
          ret __do_lift) (fun fin s' =>
      match fin with
      | Fin.done f => R (Except.ok f) s'
      | Fin.again c' => c'.quiet = true ∧ codeAny (model prog w) A c' R s')
    (fun e s' => R (Except.error e) s') { heap := h, gens := g, drawn := d, toks := t, os := os } := fun _ => by
    refine wpAny_bind (B.iter _ _ _ _ _ _ hH ?_)
    refine wpAny_bind ?_
    unfold Builtin.SmallTypes.newRecord newObj
    refine wpAny_ite_false (decide_eq_false (by show ¬ (6 > sizeLine + 2); decide)) ?_
    unfold newObjAsIs
    refine wpAny_bind (wpAny_alloc ?_)
    refine wpAny_pure ?_
    refine wpAny_pure ?_
    exact hR
  refine wpAny_ite_true (by rfl) ?_
  refine wpAny_bind ?_
  unfold Builtin.SmallTypes.calledThroughType
  refine wpAny_bind (wpAny_stack_any fun st => wpAny_pure ?_)
  refine wp_either (fun _ => ?_) fun _ => ?_
  · refine wpAny_bind (wpAny_of_eq (a := (v, none)) rfl ?_)
    exact tail .none
  · refine wpAny_bind (wpAny_of_eq (a := (v, none)) rfl ?_)
    exact tail .none

theorem begins_tup (t : Addr) (items : Array Value) : Begins (.ref t) { cls := .type "tuple_iterator", data := .fields #[.ref t, .int 0 0] } (fun h => h.IsTuple t items) :=
  ⟨fun prog w A E s Q hH hQ => wpAny_pyIter_tuple hH hQ, fun h h' ⟨o, a, b⟩ k => ⟨o, k _ _ a, b⟩, rfl⟩
theorem call_enumT {prog : Program} {w : World} {A : Around} {E : Value → Shared → Prop} {s : Shared} {t : Addr} {items : Array Value} {Q : Value → Shared → Prop} (ht : s.heap.IsTuple t items)
    (hq : ∀ h' : Heap, IsEnum h' (s.heap.objs.size + 1) s.heap.objs.size 0 .none → h'.IsTupleIter s.heap.objs.size t 0 → h'.objs.size = s.heap.objs.size + 2 → (∀ (b : Addr) (o : Obj), s.heap.get? b = some o → h'.get? b = some o) →
      Q (.ref (s.heap.objs.size + 1)) { heap := h', gens := s.gens, drawn := s.drawn, toks := s.toks, os := s.os }) : wpAny (model prog w) A (call (.type "enumerate") [.ref t]) Q E s := by
  refine callType_new F.called_enumerate (by decide) (F.typeCall_enumerate_1 _) (F.newCall_enumerate_1 _) (fun _ => F.args_object_init_2 _ _) F.entry_enumerate_new (meets_enumT (begins_tup t items)) ⟨ht, ?_⟩
  have sz : ∀ o : Obj, (s.heap.push o).objs.size = s.heap.objs.size + 1 := fun o => Heap.size_push ..
  refine ⟨⟨_, Heap.get?_push_size _ rfl, rfl⟩, ?_⟩
  have g2 := Heap.get?_push_size (s.heap.push { cls := .type "tuple_iterator", data := .fields #[.ref t, .int 0 0] }) (o := { cls := .type "enumerate", data := .fields #[.none, .bool false, .ref s.heap.objs.size, rawInt 0, .none, .none] }) rfl
  have g1 : ((s.heap.push { cls := .type "tuple_iterator", data := .fields #[.ref t, .int 0 0] }).push { cls := .type "enumerate", data := .fields #[.none, .bool false, .ref s.heap.objs.size, rawInt 0, .none, .none] }).get? s.heap.objs.size = some { cls := .type "tuple_iterator", data := .fields #[.ref t, .int 0 0] } :=
    Heap.get?_push_of_some _ (Heap.get?_push_size _ rfl)
  rw [sz] at g2 ⊢
  exact hq _ g2 ⟨_, g1, rfl, rfl⟩ (by rw [Heap.size_push, Heap.size_push]) fun b o e => Heap.get?_push_of_some _ (Heap.get?_push_of_some _ e)
theorem vals_len : ∀ {xs : List V} {us : List Value}, Vals xs us → xs.length = us.length
  | _, _, .nil => rfl
  | _, _, .cons _ t => congrArg (· + 1) (vals_len t)
theorem vals_get : ∀ {xs : List V} {us : List Value} {i : Nat} {x : V}, Vals xs us → xs[i]? = some x → ∃ u, us[i]? = some u ∧ RelV x u
  | _, _, 0, _, .cons r _, h => by simp at h; subst h; exact ⟨_, rfl, r⟩
  | _, _, i + 1, _, .cons _ t, h => by
    obtain ⟨u, h1, h2⟩ := vals_get (i := i) t (by simpa using h)
    exact ⟨u, by simpa using h1, h2⟩
/-- the turns of enumerate over a tuple -/
def IteT (K : PySem.W.Frag) (a : Addr) (n : Nat) : It where
  go := fun i H => ∃ xs x, SqT K H a xs ∧ xs.length = n ∧ xs[i]? = some x
  yld := fun i H v H' => ∃ T x, v = .ref T ∧ H T = none ∧ H' = upd H T (.tup [.int (i : Nat), x]) ∧ ∀ xs : List V, SqT K H a xs → xs[i]? = some x
  stop := fun i H => ∃ xs, SqT K H a xs ∧ xs.length = n ∧ n ≤ i
theorem turn_enumT {P : Program} {w : World} {K : PySem.W.Frag} {elts : List Expr} {kk : Nat} {tpos : Pos} (a e it : Addr) (n : Nat) :
    Turn P w K (Expr.Tuple elts kk tpos) (IteT K a n) [e, it] e fun i h => (∃ old, IsEnum h e it (i : Nat) old) ∧ h.IsTupleIter it a i ∧ e ≠ it ∧ i ≤ n where
  mem := by simp
  obj := fun i h st b hb => by
    obtain ⟨⟨old, he⟩, ⟨o, ho, hc, hd⟩, hne, hin⟩ := st
    rcases List.mem_cons.mp hb with rfl | hb
    · exact ⟨_, he, fun v z => by cases z⟩
    · rw [List.mem_singleton.mp hb]
      exact ⟨o, ho, fun v z => by rw [hd] at z; cases z⟩
  keep := fun i h h' st k => by
    obtain ⟨⟨old, he⟩, ⟨o, ho, hc, hd⟩, hne, hin⟩ := st
    exact ⟨⟨old, k e (by simp) _ he⟩, ⟨o, k it (by simp) _ ho, hc, hd⟩, hne, hin⟩
  item := fun X eP ew eK ec i pins s σ H E I fp st go => by
    subst eP ew eK
    obtain ⟨⟨old, he⟩, hi, hne, hin⟩ := st
    obtain ⟨xs, x, hq, hn, hx⟩ := go
    obtain ⟨its, rv, p, hz⟩ := I.tuple hq
    have hh : X.A.in1.handled = none := I.ok.hd ec
    have hai : a ≠ it := fun z => by
      obtain ⟨o1, b1, b2, _⟩ := p
      obtain ⟨o2, c1, c2, _⟩ := hi
      rw [z, c1] at b1; cases b1; rw [c2] at b2; injection b2 with b2; exact absurd b2 (by decide)
    have hae : a ≠ e := fun z => by
      obtain ⟨o1, b1, b2, _⟩ := p
      rw [z, he] at b1; cases b1; injection b2 with b2; exact absurd b2 (by decide)
    obtain ⟨u, hu, ru⟩ := vals_get rv hx
    have hit : its.toArray[i]? = some u := by rw [List.getElem?_toArray]; exact hu
    have hlt : i < its.toArray.size := by
      have := (List.getElem?_eq_some_iff.mp hu).1
      rw [List.size_toArray]; exact this
    have fpe := fp e (by simp)
    have fpi := fp it (by simp)
    refine wpAny_pyNext_enum_itemD (Draws.tuple hh it a hai its.toArray) he ⟨hi, p⟩ hlt hne (by simp; exact ⟨hne, Ne.symm hae⟩) (fun x' h' tk hP hout hst hT hsz hk => ?_)
    refine ⟨_, rfl, wpAny_letOwnedTupleGo_enum hout fun h2 hen hsame => ?_⟩
    rw [hit] at hP
    cases hP
    have old2 : ∀ (b : Addr) (o : Obj), b ≠ e → h'.get? b = some o → h2.get? b = some o := fun b o n z => (hsame.2 b n).trans z
    have ne1 : s.heap.objs.size ≠ e := fun z => by
      have := Heap.lt_size he
      exact absurd this (by rw [z]; exact Nat.lt_irrefl _)
    refine ⟨.ref s.heap.objs.size, upd H s.heap.objs.size (.tup [.int (i : Nat), x]), I.turnedNew (ch := [e, it]) (fun b o nb z => old2 b o (fun q => nb (by simp [q])) (hk b o (fun q => nb (by simp [q])) (fun q => nb (by simp [q])) z)) (fun b hb => fp b hb) (Nat.le_refl _) ?_, rfl,
      ⟨s.heap.objs.size, x, rfl, I.hok.fresh (Nat.le_refl _), rfl, fun ys hy => by rw [I.tuple_inj hy hq]; exact hx⟩, ⟨⟨_, by have := hen; rw [show ((i : Nat) : Int) + 1 = ((i + 1 : Nat) : Int) by omega] at this; exact this⟩, ?_, hne, by have := (List.getElem?_eq_some_iff.mp hx).1; omega⟩, fun b hb => ?_⟩
    · unfold ObjOk
      refine ⟨by show 2 ≤ sizeLine; decide, [.int (i : Nat) tk, u], .cons ⟨tk, rfl⟩ (.cons ru .nil), ?_⟩
      exact ⟨_, old2 _ _ ne1 hT, rfl, 0, rfl⟩
    · obtain ⟨o, ho, hc, hd⟩ := hst.1
      exact ⟨o, old2 _ _ (Ne.symm hne) ho, hc, hd⟩
    · have f := fp b hb
      rw [upd_ne]
      · exact f.1
      · intro z
        rcases List.mem_cons.mp hb with q | q
        · exact ne1 (z.symm.trans q)
        · have q := List.mem_singleton.mp q
          obtain ⟨o2, c1, _⟩ := hi
          have := Heap.lt_size c1
          rw [← q, z] at this
          exact absurd this (Nat.lt_irrefl _)
  done := fun X eP ew eK ec i pins s σ H E I fp st go => by
    subst eP ew eK
    obtain ⟨⟨old, he⟩, hi, hne, hin⟩ := st
    obtain ⟨xs, hq, hn, hle⟩ := go
    obtain ⟨its, rv, p, hz⟩ := I.tuple hq
    have hh : X.A.in1.handled = none := I.ok.hd ec
    have hai : a ≠ it := fun z => by
      obtain ⟨o1, b1, b2, _⟩ := p
      obtain ⟨o2, c1, c2, _⟩ := hi
      rw [z, c1] at b1; cases b1; rw [c2] at b2; injection b2 with b2; exact absurd b2 (by decide)
    have hei : i = n := Nat.le_antisymm hin hle
    have hl : its.toArray.size = i := by rw [List.size_toArray, ← vals_len rv, hn, hei]
    refine wpAny_pyNext_enum_endD (Draws.tuple hh it a hai its.toArray) he (by rw [hl]; exact ⟨hi, p⟩) fun h' hx => ?_
    have f := fp it (by simp)
    exact ⟨rfl, I.turned hx f.1 f.2.1 f.2.2.2.1 f.2.2.2.2.1 f.2.2.2.2.2⟩
  self := fun A i s Q E st hq => by
    obtain ⟨⟨old, he⟩, hi, hne, hin⟩ := st
    exact wpAny_pyIter_enum he hq
def iEnumA (K : PySem.W.Frag) (ta : TA) : TI := fun σ H R => ta σ H fun vs H1 => ∃ a, vs = [.ref a] ∧ ((∃ xs, SqL K H1 a xs ∧ R (Ite K a) H1) ∨ (∃ xs, SqT K H1 a xs ∧ R (IteT K a xs.length) H1))
theorem pi_enumA {X : Cx} {e : Expr} {ta : TA} {p pos tpos : Pos} {elts : List Expr} {kk : Nat} (hg : Gl X "enumerate") (hm : X.mg "enumerate" = none) (ha : PA X [e] ta) (he : starEach [e] X.env = [(false, eval e X.env)] := by rfl) :
    PI X (.Tuple elts kk tpos) (.Call (.Name "enumerate" p) [e] [] pos) (iEnumA X.K ta) := by
  refine ⟨fun pins s σ H R I h => ?_⟩
  refine wpAny_Call_Name_kw (ld_blt I hg hm boot_enumerate ?_)
  refine PyProof.Rows.callWith_type1 (thn (ha.run pos pins s σ H _ I h) fun us s1 hh => ?_) he
  obtain ⟨vs, H1, I1, rv, a, rfl, q⟩ := hh
  cases rv with
  | cons r1 rn =>
    cases rn
    cases r1
    rcases q with ⟨xs, hq, q⟩ | ⟨xs, hq, q⟩
    · obtain ⟨its, rv, p, hz⟩ := I1.list hq
      refine call_enumerate_list p.isList fun h' he hi hs hk => ?_
      refine wpAny_pyIter_enum he ?_
      refine ⟨s1.heap.objs.size + 1, [s1.heap.objs.size + 1, s1.heap.objs.size], _, _, H1, rfl, I1.kept (t' := s1.toks) hk, turn_enum a _ _, ⟨⟨_, he⟩, hi, Nat.succ_ne_self _⟩, fun b hb => ?_, q⟩
      have hb2 : s1.heap.objs.size ≤ b := by
        rcases List.mem_cons.mp hb with z | z
        · rw [z]; exact Nat.le_succ _
        · rw [List.mem_singleton.mp z]; exact Nat.le_refl _
      exact I1.fpOk hb2 (I1.hok.fresh hb2)
    · obtain ⟨its, rv, p, hz⟩ := I1.tuple hq
      refine call_enumT (items := its.toArray) p fun h' he hi hs hk => ?_
      refine wpAny_pyIter_enum he ?_
      refine ⟨s1.heap.objs.size + 1, [s1.heap.objs.size + 1, s1.heap.objs.size], _, _, H1, rfl, I1.kept (t' := s1.toks) hk, turn_enumT a _ _ xs.length, ⟨⟨_, he⟩, hi, Nat.succ_ne_self _, Nat.zero_le _⟩, fun b hb => ?_, q⟩
      have hb2 : s1.heap.objs.size ≤ b := by
        rcases List.mem_cons.mp hb with z | z
        · rw [z]; exact Nat.le_succ _
        · rw [List.mem_singleton.mp z]; exact Nat.le_refl _
      exact I1.fpOk hb2 (I1.hok.fresh hb2)
/-- what enumerate walks, of a list or of a tuple -/
def enumsOf : PyData → Option (List PyData)
  | .list ds => some (numbered 0 ds)
  | .tuple ds => some (numbered 0 ds)
  | _ => none
def iEnumsD (f : DEnv → Res (List PyData)) : DEnv → Res (List PyData) := fun ρ => (f ρ).bind fun ds ρ1 => match ds with
  | [d] => Res.of (enumsOf d) ρ1
  | _ => .bad
theorem i_enums {X : Cx} {E : WX} {a : Expr} {fs : DEnv → Res (List PyData)} {pos p tp : Pos} {elts : List Expr} {kk : Nat} (hg : Gl X "enumerate") (hm : X.mg "enumerate" = none) (ha : AJ X E [a] fs) (hs : starEach [a] X.env = [(false, eval a X.env)] := by rfl) :
    IJ X E (.Tuple elts kk tp) (.Call (.Name "enumerate" p) [a] [] pos) (iEnumsD fs) := by
  obtain ⟨_, t, q, p⟩ := ha
  refine ⟨_, pi_enumA hg hm q hs, fun σ G H ρ Q R h => p σ G H ρ _ R (IPost.bind h fun G1 H1 xs ds ρ1 R1 S1 hx h1 => ?_)⟩
  cases hx with
  | nil => exact h1.elim
  | cons q1 q2 =>
    cases q2 with
    | cons _ _ => exact h1.elim
    | nil =>
      cases q1 with
      | lst g1 g2 =>
        rename_i b vs ds
        have gq := SqL.of g1 (K := X.K)
        refine ⟨b, rfl, .inl ⟨vs, R1.gh.seq gq, IPost.done R1 h1 fun i G2 H2 s1 s2 => ?_⟩⟩
        have hq : SqL X.K H2 b vs := s2.seq (s1.seq gq)
        refine ⟨fun d hd => ?_, fun hle => ⟨vs, hq, by rw [RpAll.len g2, ← numbered_len 0 ds]; exact hle⟩⟩
        obtain ⟨y, k1, rfl⟩ := numbered_get 0 i ds d hd
        obtain ⟨v, k2, k3⟩ := RpAll.get g2 k1
        refine ⟨⟨vs, v, hq, k2⟩, fun x H3 ⟨T, w, e1, e2, e3, e4⟩ => ?_⟩
        subst e1 e3
        have := e4 vs hq
        rw [k2] at this
        cases this
        have hg2 : G2 T = none := s2.free e2
        refine ⟨_, grow_new e2 hg2, .tup (SqT.of upd_same) (.cons ?_ (.cons (Rp.mono (same_upd hg2) (Rp.mono s1 k3)) .nil))⟩
        rw [Nat.zero_add]
        exact .int _
      | tup gq g2 =>
        rename_i b vs ds
        refine ⟨b, rfl, .inr ⟨vs, Same.seqT R1.gh gq, IPost.done R1 h1 fun i G2 H2 s1 s2 => ?_⟩⟩
        have hq : SqT X.K H2 b vs := Same.seqT s2 (Same.seqT s1 gq)
        refine ⟨fun d hd => ?_, fun hle => ⟨vs, hq, rfl, by rw [RpAll.len g2, ← numbered_len 0 ds]; exact hle⟩⟩
        obtain ⟨y, k1, rfl⟩ := numbered_get 0 i ds d hd
        obtain ⟨v, k2, k3⟩ := RpAll.get g2 k1
        refine ⟨⟨vs, v, hq, rfl, k2⟩, fun x H3 ⟨T, w, e1, e2, e3, e4⟩ => ?_⟩
        subst e1 e3
        have := e4 vs hq
        rw [k2] at this
        cases this
        have hg2 : G2 T = none := s2.free e2
        refine ⟨_, grow_new e2 hg2, .tup (SqT.of upd_same) (.cons ?_ (.cons (Rp.mono (same_upd hg2) (Rp.mono s1 k3)) .nil))⟩
        rw [Nat.zero_add]
        exact .int _
      | _ => exact h1.elim
theorem wp_ienums {Z : Exn → DEnv → Prop} (f : DEnv → Res (List PyData)) (ρ : DEnv) (L : List PyData → DEnv → Prop) : WpX Z (iEnumsD f ρ) L = WpX Z (f ρ) fun ds ρ1 => match ds with
    | [d] => WpX Z (Res.of (enumsOf d) ρ1) L
    | _ => False := by
  unfold iEnumsD
  rw [wp_bind]
  congr 1
  funext ds ρ1
  cases ds with
  | nil => exact wp_bad _
  | cons d r => cases r <;> first | rfl | exact wp_bad _
end DL

set_option Elab.async false
set_option linter.all false
set_option maxRecDepth 100000
set_option maxHeartbeats 4000000
/-! DL part 16: x += e, sorted. -/
namespace DL
open PySem PySem.Spec PyProof.Rows L2

def oAddI : PyData → PyData → Option PyData
  | .int i, .int j => some (.int (i + j))
  | _, _ => none
def oSubI : PyData → PyData → Option PyData
  | .int i, .int j => some (.int (i - j))
  | _, _ => none
theorem oAddI_of (d e c : PyData) (h : oAddI d e = some c) : ∃ m n, d = .int m ∧ e = .int n ∧ c = .int (m + n) := by
  cases d <;> first | cases h | skip
  cases e <;> first | cases h | skip
  exact ⟨_, _, rfl, rfl, rfl⟩
theorem oSubI_of (d e c : PyData) (h : oSubI d e = some c) : ∃ m n, d = .int m ∧ e = .int n ∧ c = .int (m - n) := by
  cases d <;> first | cases h | skip
  cases e <;> first | cases h | skip
  exact ⟨_, _, rfl, rfl, rfl⟩
theorem oAddI_int (i j : Int) : oAddI (.int i) (.int j) = some (.int (i + j)) := rfl
theorem oSubI_int (i j : Int) : oSubI (.int i) (.int j) = some (.int (i - j)) := rfl
def augQ (K : PyData → Prop) (c : Option Cell) : Prop := match c with
  | some (.val d) => K d
  | _ => False
theorem augQ_val (K : PyData → Prop) (d : PyData) : augQ K (some (.val d)) = K d := rfl
theorem ws_aug {Z : Exn → DEnv → Prop} (i : Nat) (op : PyData → PyData → Option PyData) (f : DEnv → Res PyData) (ρ : DEnv) (S : Out → DEnv → Prop) : WpX Z (sAug i op f ρ) S = augQ (fun d => WpX Z (f ρ) fun e ρ1 => WpX Z (nxOf ((op d e).bind fun c => setV i c ρ1)) S) (ρ[i]?) := by
  unfold sAug
  cases ρ[i]? with
  | none => exact wp_bad _
  | some c =>
    cases c with
    | val d => exact wp_bind _ _ _
    | _ => exact wp_bad _
/-! ### one sorted list -/
def insI (x : Int) : List Int → List Int
  | [] => [x]
  | y :: r => if x ≤ y then x :: y :: r else y :: insI x r
def sortI : List Int → List Int
  | [] => []
  | x :: r => insI x (sortI r)
theorem insI_perm (x : Int) : ∀ l, (insI x l).Perm (x :: l)
  | [] => .refl _
  | y :: r => by
    unfold insI
    by_cases h : x ≤ y
    · rw [if_pos h]
    · rw [if_neg h]; exact ((insI_perm x r).cons y).trans (List.Perm.swap x y r)
theorem sortI_perm : ∀ l, (sortI l).Perm l
  | [] => .refl _
  | x :: r => (insI_perm x (sortI r)).trans ((sortI_perm r).cons x)
theorem insI_le (x : Int) : ∀ l : List Int, l.Pairwise (· ≤ ·) → (insI x l).Pairwise (· ≤ ·)
  | [], _ => by simp [insI]
  | y :: r, h => by
    obtain ⟨h1, h2⟩ := List.pairwise_cons.mp h
    unfold insI
    by_cases hx : x ≤ y
    · rw [if_pos hx]
      exact List.pairwise_cons.mpr ⟨fun z hz => by
        rcases List.mem_cons.mp hz with rfl | hz
        · exact hx
        · exact Int.le_trans hx (h1 z hz), h⟩
    · rw [if_neg hx]
      refine List.pairwise_cons.mpr ⟨fun z hz => ?_, insI_le x r h2⟩
      rcases List.mem_cons.mp ((insI_perm x r).mem_iff.mp hz) with rfl | hz
      · omega
      · exact h1 z hz
theorem sortI_le : ∀ l, (sortI l).Pairwise (· ≤ ·)
  | [] => .nil
  | x :: r => insI_le x _ (sortI_le r)
theorem sorted_eq : ∀ {a b : List Int}, a.Perm b → a.Pairwise (· ≤ ·) → b.Pairwise (· ≤ ·) → a = b
  | [], b, p, _, _ => p.nil_eq
  | x :: a, b, p, ha, hb => by
    cases b with
    | nil => exact absurd p.symm.nil_eq (by simp)
    | cons y b =>
      obtain ⟨a1, a2⟩ := List.pairwise_cons.mp ha
      obtain ⟨b1, b2⟩ := List.pairwise_cons.mp hb
      have e : x = y := by
        have hx : x ∈ y :: b := p.mem_iff.mp (List.mem_cons_self ..)
        have hy : y ∈ x :: a := p.mem_iff.mpr (List.mem_cons_self ..)
        rcases List.mem_cons.mp hx with h | h
        · exact h
        · rcases List.mem_cons.mp hy with h2 | h2
          · exact h2.symm
          · have := b1 x h
            have := a1 y h2
            omega
      subst e
      rw [sorted_eq (p.cons_inv) a2 b2]
theorem sortI_is {a b : List Int} (p : a.Perm b) (h : a.Pairwise (· ≤ ·)) : a = sortI b := sorted_eq (p.trans (sortI_perm b).symm) h (sortI_le b)
def fSorted (f : DEnv → Res PyData) : DEnv → Res OD := fun ρ => (f ρ).bind fun d ρ1 => match d with
  | .list ds => match unInts ds with
    | some ns => .ok (.lst ((sortI ns).map .int)) ρ1
    | none => .bad
  | _ => .bad
theorem unInts_rp {K : PySem.W.Frag} {G : Hp} : ∀ {vs : List V} {ds : List PyData} {ns : List Int}, RpAll K G vs ds → unInts ds = some ns → vs = ns.map V.int ∧ ds = ns.map PyData.int
  | _, _, ns, .nil, h => by cases h; exact ⟨rfl, rfl⟩
  | _, _, ns, .cons (v := v) (d := d) (ds := ds) q t, h => by
    cases q with
    | int i =>
      have h : (unInts ds).map (i :: ·) = some ns := h
      cases e : unInts ds with
      | none => rw [e] at h; cases h
      | some ms =>
        rw [e] at h
        cases h
        obtain ⟨h1, h2⟩ := unInts_rp t e
        exact ⟨by rw [h1]; rfl, by rw [h2]; rfl⟩
    | _ => cases h
theorem f_sorted {X : Cx} {E : WX} {a : Expr} {fa : DEnv → Res PyData} {pos p : Pos} (hg : Gl X "sorted") (hm : X.mg "sorted" = none) (hcr : CallR X (.builtin "sorted") (rSortedI X.K)) (ha : EJ X E a fa) (na : starEach [a] X.env = (false, eval a X.env) :: starEach [] X.env := by rfl) :
    FJ X E (.Call (.Name "sorted" p) [a] [] pos) (fSorted fa) := by
  obtain ⟨t, q, p⟩ := ha
  refine ⟨_, pe_callB hcr hg hm (by decide +kernel) (pa_cons q pa_nil na) (he := na), fun σ G H ρ Q R h => p σ G H ρ _ R (FPost.bind h fun G1 H1 x d ρ1 R1 S1 hx h1 => ?_)⟩
  cases hx with
  | @lst b vs ds g1 g2 =>
    have h1 : FPost X.K X.mg E σ G1 H1 ρ1 Q (match unInts ds with
      | some ns => .ok (.lst ((sortI ns).map .int)) ρ1
      | none => .bad) := h1
    cases e : unInts ds with
    | none => rw [e] at h1; exact h1.elim
    | some ns =>
      rw [e] at h1
      obtain ⟨e1, e2⟩ := unInts_rp g2 e
      refine ⟨b, ns, rfl, ?_, fun ns' r hp hs hr => ?_⟩
      · rw [← e1]; exact R1.gh.seq (SqL.of g1)
      · rw [sortI_is hp hs]
        exact FPost.new R1 h1 hr ⟨_, upd_same, rpInts _⟩
  | _ => exact h1.elim
def oInts (d : PyData) : Option (List Int) := match d with
  | .list ds => unInts ds
  | _ => none
theorem wp_sorted {Z : Exn → DEnv → Prop} (f : DEnv → Res PyData) (ρ : DEnv) (O : OD → DEnv → Prop) : WpX Z (fSorted f ρ) O = WpX Z (f ρ) fun d ρ1 => keyQ (fun ns => O (.lst ((sortI ns).map .int)) ρ1) (oInts d) := by
  unfold fSorted
  rw [wp_bind]
  congr 1
  funext d ρ1
  cases d with
  | list ds =>
    show WpX Z (match unInts ds with
      | some ns => .ok (.lst ((sortI ns).map .int)) ρ1
      | none => .bad) O = keyQ _ (unInts ds)
    cases unInts ds with
    | none => exact wp_bad _
    | some ns => exact wp_ok _ _ _
  | _ => exact wp_bad _
end DL

set_option Elab.async false
set_option linter.all false
set_option maxRecDepth 100000
set_option maxHeartbeats 4000000
/-! DL part 17: sorted of alike data (texts, tuples, lists). -/
namespace DL
open PySem PySem.Spec PyProof.Rows L2

theorem zip_each {R : Value → (PyData × V) → Prop} : ∀ {us : List Value} {ds : List PyData} {vs : List V}, ds.length = vs.length → Vals vs us → (∀ (i : Nat) (u : Value) (d : PyData) (v : V), us[i]? = some u → ds[i]? = some d → vs[i]? = some v → R u (d, v)) → PySem.W.EachIs R us (ds.zip vs)
  | _, [], [], _, .nil, _ => .nil
  | _, d :: ds, v :: vs, hl, .cons (b := u) r t, h => .cons (h 0 u d v rfl rfl rfl) (zip_each (by simpa using hl) t fun i u d v a b c => h (i + 1) u d v (by simpa using a) (by simpa using b) (by simpa using c))
theorem each_vals : ∀ {us : List Value} {ps : List (PyData × V)}, PySem.W.EachIs (fun u p => RelV p.2 u) us ps → Vals (ps.map (·.2)) us
  | _, _, .nil => .nil
  | _, _, .cons h t => .cons h (each_vals t)
/-- sorted of a list of data of one kind -/
def rSortD (K : PySem.W.Frag) (u : Nat) : List V → Hp → VK → Prop := fun xs H Q => ∃ (a : Addr) (vs : List V) (ds : List PyData), xs = [.ref a] ∧ SqL K H a vs ∧ DpAll K H vs ds ∧ PySem.W.AllAlike ds ∧ PySem.W.Sortable ds ∧ (∀ d ∈ ds, u + 2 + d.depth < cLine) ∧
  ∀ (ps : List (PyData × V)) (p : Addr), ps.Perm (ds.zip vs) → ps.map (·.1) = ds.mergeSort (PySem.W.dataLe false fun d => d) → H p = none → Q (.ref p) (upd H p (.lst (ps.map (·.2))))
theorem DpAll.len' {K : PySem.W.Frag} {H : Hp} : ∀ {vs : List V} {ds : List PyData}, DpAll K H vs ds → vs.length = ds.length
  | _, _, .nil => rfl
  | _, _, .cons _ t => congrArg (· + 1) (DpAll.len' t)
theorem DpAll.get' {K : PySem.W.Frag} {H : Hp} : ∀ {vs : List V} {ds : List PyData} {i : Nat} {v : V} {d : PyData}, DpAll K H vs ds → vs[i]? = some v → ds[i]? = some d → Dp K H v d
  | _, _, 0, _, _, .cons h _, a, b => by simp at a b; subst a b; exact h
  | _, _, i + 1, _, _, .cons _ t, a, b => DpAll.get' (i := i) t (by simpa using a) (by simpa using b)
theorem cr_sortD {X : Cx} : CallR X (.builtin "sorted") (rSortD X.K X.A.units) := by
  intro pins s σ H xs us Q I rv h
  obtain ⟨a, vs, ds, rfl, hq, hd, h1, h2, h3, h4⟩ := h
  cases rv with
  | cons r0 rn =>
    cases rn
    cases r0
    obtain ⟨its, rl, p, hz⟩ := I.list hq
    have hlen : ds.length = vs.length := (DpAll.len' hd).symm
    have hmap : (ds.zip vs).map (·.1) = ds := List.map_fst_zip (by omega)
    refine PySem.W.sorted_data (bs := ds.zip vs) (enc := fun p => p.1) (R := fun u p => RelV p.2 u) (vs := its) p.isList (zip_each hlen rl fun i u d v a b c => ?_) (zip_each hlen rl fun i u d v a b c => ?_) (by rw [hmap]; exact h1) (by rw [hmap]; exact h2) (by rw [List.length_zip]; omega) (fun q hq => h3 _ (List.of_mem_zip hq).1) fun out hl ho => ?_
    · obtain ⟨u', e1, e2⟩ := vals_get rl c
      rw [a] at e1; cases e1; exact e2
    · obtain ⟨u', e1, e2⟩ := vals_get rl c
      rw [a] at e1; cases e1
      exact Dp.reads I d v u (DpAll.get' hd c b) e2
    · obtain ⟨e, he⟩ := sortedAll_at s.heap its out.toArray
      have hperm := List.mergeSort_perm (ds.zip vs) (PySem.W.dataLe false fun p => p.1)
      have hm : ((ds.zip vs).mergeSort (PySem.W.dataLe false fun p => p.1)).map (·.1) = ds.mergeSort (PySem.W.dataLe false fun d => d) := by
        exact (List.map_mergeSort (r := PySem.W.dataLe false fun p : PyData × V => p.1) (s := PySem.W.dataLe false fun d : PyData => d) (f := fun p : PyData × V => p.1) (fun a _ b _ => rfl)).trans (by rw [hmap])
      have hle : s.heap.objs.size ≤ s.heap.objs.size + 1 := Nat.le_succ _
      refine ⟨.ref (s.heap.objs.size + 1), _, I.turnedNew (ch := []) (T := s.heap.objs.size + 1) (ob := .lst (((ds.zip vs).mergeSort (PySem.W.dataLe false fun p => p.1)).map (·.2))) (fun b o _ z => sortedAll_old z) (fun b hb => nomatch hb) hle ?_, rfl, h4 _ _ hperm hm (I.hok.fresh hle)⟩
      unfold ObjOk
      refine ⟨by rw [List.length_map, List.length_mergeSort, List.length_zip]; omega, out, e, each_vals ho, ?_⟩
      exact he
def tupCons : PyData → Bool
  | .tuple (_ :: _) => true
  | _ => false
def notNT : PyData → Bool
  | .none => false
  | .tuple _ => false
  | _ => true
def sortB (ds : List PyData) : Bool := (ds.all fun d => ds.all fun e => PySem.W.alike d e) && (ds.all tupCons || ds.all notNT) && (ds.all fun d => d.canLay0 && decide (d.depth ≤ 60))
theorem sortB_of {ds : List PyData} (h : sortB ds = true) : PySem.W.AllAlike ds ∧ PySem.W.Sortable ds ∧ (∀ d ∈ ds, d.canLay0 = true) ∧ ∀ d ∈ ds, d.depth ≤ 60 := by
  unfold sortB at h
  rw [Bool.and_eq_true, Bool.and_eq_true] at h
  obtain ⟨⟨h1, h2⟩, h3⟩ := h
  have h3 := List.all_eq_true.mp h3
  refine ⟨fun d hd e he => List.all_eq_true.mp (List.all_eq_true.mp h1 d hd) e he, ?_, fun d hd => (Bool.and_eq_true_iff.mp (h3 d hd)).1, fun d hd => of_decide_eq_true (Bool.and_eq_true_iff.mp (h3 d hd)).2⟩
  rcases Bool.or_eq_true_iff.mp h2 with h2 | h2
  · refine .inl fun d hd => ?_
    have := List.all_eq_true.mp h2 d hd
    cases d with
    | tuple xs =>
      cases xs with
      | nil => cases this
      | cons x r => exact ⟨x, r, rfl⟩
    | _ => cases this
  · refine .inr fun d hd => ?_
    have := List.all_eq_true.mp h2 d hd
    cases d with
    | none => cases this
    | tuple xs => cases this
    | _ => exact ⟨fun z => (nomatch z), fun xs z => (nomatch z)⟩
theorem rpAll_dp {K : PySem.W.Frag} {G : Hp} : ∀ {vs : List V} {ds : List PyData}, RpAll K G vs ds → (∀ d ∈ ds, d.canLay0 = true) → DpAll K G vs ds
  | _, _, .nil, _ => .nil
  | _, _, .cons h t, c => .cons (Rp.toDp h (c _ (List.mem_cons_self ..))) (rpAll_dp t fun d hd => c d (List.mem_cons_of_mem _ hd))
theorem rp_pairs {K : PySem.W.Frag} {G : Hp} : ∀ {ps : List (PyData × V)}, (∀ p ∈ ps, Rp K G p.2 p.1) → RpAll K G (ps.map (·.2)) (ps.map (·.1))
  | [], _ => .nil
  | p :: ps, h => .cons (h p (List.mem_cons_self ..)) (rp_pairs fun q hq => h q (List.mem_cons_of_mem _ hq))
theorem rp_zip {K : PySem.W.Frag} {G : Hp} : ∀ {vs : List V} {ds : List PyData}, RpAll K G vs ds → ∀ p ∈ ds.zip vs, Rp K G p.2 p.1
  | _, _, .nil, p, h => by cases h
  | _, _, .cons q t, p, h => by
    rcases List.mem_cons.mp h with rfl | h
    · exact q
    · exact rp_zip t p h
def sortDs (ds : List PyData) : List PyData := ds.mergeSort (PySem.W.dataLe false fun d => d)
def fSortD (f : DEnv → Res PyData) : DEnv → Res OD := fun ρ => (f ρ).bind fun d ρ1 => match d with
  | .list ds => if sortB ds = true then .ok (.lst (sortDs ds)) ρ1 else .bad
  | _ => .bad
theorem f_sortD {X : Cx} {E : WX} {a : Expr} {fa : DEnv → Res PyData} {pos p : Pos} (hg : Gl X "sorted") (hm : X.mg "sorted" = none) (hu : X.A.units + 65 < cLine) (ha : EJ X E a fa) (na : starEach [a] X.env = (false, eval a X.env) :: starEach [] X.env := by rfl) :
    FJ X E (.Call (.Name "sorted" p) [a] [] pos) (fSortD fa) := by
  obtain ⟨t, q, p⟩ := ha
  refine ⟨_, pe_callB cr_sortD hg hm (by decide +kernel) (pa_cons q pa_nil na) (he := na), fun σ G H ρ Q R h => p σ G H ρ _ R (FPost.bind h fun G1 H1 x d ρ1 R1 S1 hx h1 => ?_)⟩
  cases hx with
  | @lst b vs ds g1 g2 =>
    have h1 : FPost X.K X.mg E σ G1 H1 ρ1 Q (if sortB ds = true then .ok (.lst (sortDs ds)) ρ1 else .bad) := h1
    by_cases hs : sortB ds = true
    case neg => rw [if_neg hs] at h1; exact h1.elim
    rw [if_pos hs] at h1
    obtain ⟨s1, s2, s3, s4⟩ := sortB_of hs
    refine ⟨b, vs, ds, rfl, R1.gh.seq (SqL.of g1), rpAll_dp (RpAll.mono R1.gh g2) s3, s1, s2, fun d hd => by have := s4 d hd; omega, fun ps r hp hm hr => ?_⟩
    refine FPost.new R1 h1 hr ⟨_, upd_same, ?_⟩
    show RpAll X.K G1 (ps.map (·.2)) (sortDs ds)
    rw [← show ps.map (·.1) = sortDs ds from hm]
    exact rp_pairs fun q hq => rp_zip g2 q (hp.mem_iff.mp hq)
  | _ => exact h1.elim
theorem wp_sortD {Z : Exn → DEnv → Prop} (f : DEnv → Res PyData) (ρ : DEnv) (O : OD → DEnv → Prop) : WpX Z (fSortD f ρ) O = WpX Z (f ρ) fun d ρ1 => match d with
    | .list ds => sortB ds = true ∧ O (.lst (sortDs ds)) ρ1
    | _ => False := by
  unfold fSortD
  rw [wp_bind]
  congr 1
  funext d ρ1
  cases d with
  | list ds => exact (wp_guard _ _).trans (congrArg _ (wp_ok _ _ _))
  | _ => exact wp_bad _
end DL

set_option Elab.async false
set_option linter.all false
set_option maxRecDepth 100000
set_option maxHeartbeats 4000000
/-! DL part 18: zip, isinstance of other kinds. -/
namespace DL
open PySem PySem.Spec PyProof.Rows L2
theorem wp_izip {Z : Exn → DEnv → Prop} (f : DEnv → Res (List PyData)) (ρ : DEnv) (L : List PyData → DEnv → Prop) : WpX Z (iZipD f ρ) L = WpX Z (f ρ) fun ds ρ1 => match ds with
    | [d, e] => WpX Z (Res.of (zipOf d e) ρ1) L
    | _ => False := by
  unfold iZipD
  rw [wp_bind]
  congr 1
  funext ds ρ1
  match ds with
  | [] => exact wp_bad _
  | [_] => exact wp_bad _
  | [_, _] => rfl
  | _ :: _ :: _ :: _ => exact wp_bad _
theorem isi_int_str (x : Str) : oIsi "int" (.str x) = some (.bool false) := by
  show (kitB "str" "int").map PyData.bool = _
  rw [show kitB "str" "int" = some false by decide +kernel]
  rfl
theorem isi_int_tup (xs : List PyData) : oIsi "int" (.tuple xs) = some (.bool false) := by
  show (kitB "tuple" "int").map PyData.bool = _
  rw [show kitB "tuple" "int" = some false by decide +kernel]
  rfl
theorem isi_tup_tup (xs : List PyData) : oIsi "tuple" (.tuple xs) = some (.bool true) := rfl
theorem isi_tup_int (i : Int) : oIsi "tuple" (.int i) = some (.bool false) := by
  show (kitB "int" "tuple").map PyData.bool = _
  rw [show kitB "int" "tuple" = some false by decide +kernel]
  rfl
theorem isi_tup_str (x : Str) : oIsi "tuple" (.str x) = some (.bool false) := by
  show (kitB "str" "tuple").map PyData.bool = _
  rw [show kitB "str" "tuple" = some false by decide +kernel]
  rfl
/-- while by a measure: each turn makes it smaller -/
theorem wp_whileN {Z : Exn → DEnv → Prop} {c : DEnv → Res Bool} {fb : DEnv → Res Out} {S : Out → DEnv → Prop} (I : Nat → DEnv → Prop)
    (st : ∀ m ρ, I m ρ → WpX Z (c ρ) fun b ρ1 => if b = true then WpX Z (fb ρ1) (loopQ (fun ρ2 => ∃ m', m' < m ∧ I m' ρ2) S) else S .nx ρ1) : ∀ (n m : Nat) (ρ : DEnv), m < n → I m ρ → WpX Z (whileN c fb n ρ) S
  | 0, m, ρ, h, _ => by omega
  | n + 1, m, ρ, h, hI => by
    have h1 := st m ρ hI
    unfold whileN
    cases e : c ρ with
    | bad => rw [e] at h1; exact h1.out.elim
    | err x ρ1 => rw [e] at h1; exact ⟨h1.out⟩
    | ok b ρ1 =>
      rw [e, wp_ok] at h1
      cases b with
      | false => exact ⟨h1⟩
      | true =>
        have h1 : WpX Z (fb ρ1) (loopQ (fun ρ2 => ∃ m', m' < m ∧ I m' ρ2) S) := by rw [if_pos rfl] at h1; exact h1
        rw [Res.bind_ok, if_pos rfl]
        cases e2 : fb ρ1 with
        | bad => rw [e2] at h1; exact h1.out.elim
        | err x ρ2 => rw [e2] at h1; exact ⟨h1.out⟩
        | ok o ρ2 =>
          rw [e2] at h1
          have q : loopQ (fun ρ2 => ∃ m', m' < m ∧ I m' ρ2) S o ρ2 := h1.out
          cases o with
          | nx => obtain ⟨m', k1, k2⟩ := q; exact wp_whileN I st n m' ρ2 (by omega) k2
          | ct => obtain ⟨m', k1, k2⟩ := q; exact wp_whileN I st n m' ρ2 (by omega) k2
          | bk => exact ⟨q⟩
          | rt d => exact ⟨q⟩
theorem wp_while {Z : Exn → DEnv → Prop} {c : DEnv → Res Bool} {fb : DEnv → Res Out} {S : Out → DEnv → Prop} {ρ : DEnv} (I : Nat → DEnv → Prop) (m : Nat) (hm : m < manyTurns) (h0 : I m ρ)
    (st : ∀ m ρ, I m ρ → WpX Z (c ρ) fun b ρ1 => if b = true then WpX Z (fb ρ1) (loopQ (fun ρ2 => ∃ m', m' < m ∧ I m' ρ2) S) else S .nx ρ1) : WpX Z (sWhile c fb ρ) S :=
  wp_whileN I st manyTurns m ρ hm h0
end DL

set_option Elab.async false
set_option linter.all false
set_option maxRecDepth 100000
set_option maxHeartbeats 4000000
/-! DL part 19: shifts, bits, x[i] op= e on a list that is held. -/
namespace DL
open PySem PySem.Spec PyProof.Rows L2

def oShl : PyData → PyData → Option PyData
  | .int i, .int j => if 0 ≤ j ∧ j ≤ 1000000 ∧ i.natAbs < 2 ^ 64 then some (.int (i * 2 ^ j.toNat)) else none
  | _, _ => none
def oShr : PyData → PyData → Option PyData
  | .int i, .int j => if 0 ≤ j then some (.int (i / 2 ^ j.toNat)) else none
  | _, _ => none
def oOr : PyData → PyData → Option PyData
  | .int i, .int j => some (.int (Builtin.bitOr i j))
  | _, _ => none
def oAnd : PyData → PyData → Option PyData
  | .int i, .int j => some (.int (Builtin.bitAnd i j))
  | _, _ => none
def oXor : PyData → PyData → Option PyData
  | .int i, .int j => some (.int (Builtin.bitXor i j))
  | _, _ => none
theorem oShl_int (i j : Int) : oShl (.int i) (.int j) = if 0 ≤ j ∧ j ≤ 1000000 ∧ i.natAbs < 2 ^ 64 then some (.int (i * 2 ^ j.toNat)) else none := rfl
theorem oShr_int (i j : Int) : oShr (.int i) (.int j) = if 0 ≤ j then some (.int (i / 2 ^ j.toNat)) else none := rfl
theorem oOr_int (i j : Int) : oOr (.int i) (.int j) = some (.int (Builtin.bitOr i j)) := rfl
theorem oAnd_int (i j : Int) : oAnd (.int i) (.int j) = some (.int (Builtin.bitAnd i j)) := rfl
theorem oXor_int (i j : Int) : oXor (.int i) (.int j) = some (.int (Builtin.bitXor i j)) := rfl
theorem oOr_of (d e c : PyData) (h : oOr d e = some c) : ∃ m n, d = .int m ∧ e = .int n ∧ c = .int (Builtin.bitOr m n) := by
  cases d <;> first | cases h | skip
  cases e <;> first | cases h | skip
  exact ⟨_, _, rfl, rfl, rfl⟩
section
variable {X : Cx} {E : WX}
theorem od_shl : OpD X E (rI CPow fun i j => .int (i * 2 ^ j.toNat)) oShl := by
  intro σ G H ρ x y d e c Q R hx hy ho h
  cases hx with
  | int i =>
    cases hy with
    | int j =>
      have ho : (if CPow i j then some (PyData.int (i * 2 ^ j.toNat)) else none) = some c := ho
      by_cases hc : CPow i j
      · rw [if_pos hc] at ho; cases ho; exact ⟨i, j, rfl, rfl, hc, Post.done R h (.int _)⟩
      · rw [if_neg hc] at ho; cases ho
    | _ => cases ho
  | _ => cases ho
theorem od_shr : OpD X E (rI (fun _ j => 0 ≤ j) fun i j => .int (i / 2 ^ j.toNat)) oShr := by
  intro σ G H ρ x y d e c Q R hx hy ho h
  cases hx with
  | int i =>
    cases hy with
    | int j =>
      have ho : (if 0 ≤ j then some (PyData.int (i / 2 ^ j.toNat)) else none) = some c := ho
      by_cases hc : 0 ≤ j
      · rw [if_pos hc] at ho; cases ho; exact ⟨i, j, rfl, rfl, hc, Post.done R h (.int _)⟩
      · rw [if_neg hc] at ho; cases ho
    | _ => cases ho
  | _ => cases ho
theorem od_or : OpD X E (rI0 fun i j => .int (Builtin.bitOr i j)) oOr := by
  intro σ G H ρ x y d e c Q R hx hy ho h
  cases hx with
  | int i => cases hy with
    | int j => cases ho; exact ⟨i, j, rfl, rfl, Post.done R h (.int _)⟩
    | _ => cases ho
  | _ => cases ho
theorem od_and : OpD X E (rI0 fun i j => .int (Builtin.bitAnd i j)) oAnd := by
  intro σ G H ρ x y d e c Q R hx hy ho h
  cases hx with
  | int i => cases hy with
    | int j => cases ho; exact ⟨i, j, rfl, rfl, Post.done R h (.int _)⟩
    | _ => cases ho
  | _ => cases ho
theorem od_xor : OpD X E (rI0 fun i j => .int (Builtin.bitXor i j)) oXor := by
  intro σ G H ρ x y d e c Q R hx hy ho h
  cases hx with
  | int i => cases hy with
    | int j => cases ho; exact ⟨i, j, rfl, rfl, Post.done R h (.int _)⟩
    | _ => cases ho
  | _ => cases ho
/-- the read of x[i] = .. on a list that is held -/
def rGetH : V → V → Hp → VK → Prop := fun o i H Q => ∃ p xs k v, o = .ref p ∧ i = .int k ∧ H p = some (.lst xs) ∧ 0 ≤ k ∧ xs[k.toNat]? = some v ∧ Q v H
theorem pget_held : PGet X rGetH := by
  intro pins s σ H o i ov iv Q I ho hi ⟨p, xs, k, v, e1, e2, e3, e4, e5, e6⟩
  subst e1; subst e2
  obtain ⟨its, g1, g2, g3⟩ := I.list (SqL.of e3)
  have ho : ov = .ref p := ho
  obtain ⟨t, hi⟩ : ∃ t, iv = .int k t := hi
  subst ho; subst hi
  obtain ⟨u, q1, q2⟩ := vals_get g1 e5
  have hk : k.toNat < xs.length := (List.getElem?_eq_some_iff.mp e5).1
  refine wpAny_getItem_list (items := its.toArray) g2.isList e4 (by unfold sizeLine at g3; omega) (by simpa using q1) ⟨v, H, I, q2, e6⟩
/-- x[e1] op= e2 -/
def sAugH (i : Nat) (op : PyData → PyData → Option PyData) (g f : DEnv → Res PyData) : DEnv → Res Out := fun ρ => if isHeld i ρ = true then (g ρ).bind fun k ρ1 => match heldL i ρ1, k with
  | some ds, .int k => match ds[k.toNat]? with
    | some old => if 0 ≤ k then (f ρ1).bind fun d ρ2 => match op old d, heldL i ρ2 with
      | some c, some ds2 => if k.toNat < ds2.length then .ok .nx (setHeld i (.lst (ds2.set k.toNat c)) ρ2) else .bad
      | _, _ => .bad else .bad
    | none => .bad
  | _, _ => .bad else .bad
theorem s_augH {op : Operator} {gg : Int → Int → Int} {o : PyData → PyData → Option PyData} {x : Str} {px sp pos : Pos} {a b : Expr} {fa fb : DEnv → Res PyData} (i : Nat) (ho : ∀ d e c, o d e = some c → ∃ m n, d = .int m ∧ e = .int n ∧ c = .int (gg m n)) (hx : PE X (.Name x px) (tVar i)) (hb : EJ X E b fb) (ha : EJ X E a fa)
    (hp : ∀ te to ti, PE X a te → PE X (.Name x px) to → PE X b ti → PS X (.AugAssign (.Subscript (.Name x px) b sp) op a pos) (tAugS to ti te rGetH (ipI gg) rSetL)) : SJ X E (.AugAssign (.Subscript (.Name x px) b sp) op a pos) (sAugH i o fb fa) := by
  obtain ⟨t, q, p⟩ := ha
  obtain ⟨tb, qb, pb⟩ := hb
  refine ⟨_, hp _ _ _ q hx qb, fun σ G H ρ D R h => ?_⟩
  unfold sAugH at h
  by_cases hc : isHeld i ρ = true
  case neg => rw [if_neg hc] at h; exact h.elim
  rw [if_pos hc] at h
  obtain ⟨ds0, hh⟩ := isHeld_some hc
  obtain ⟨b, vs, e0, e1, e2⟩ := R.held hh
  refine ⟨.ref b, e0, pb σ G H ρ _ R (SPost.bind h fun G1 H1 z k ρ1 R1 S1 hz h1 => ?_)⟩
  cases q1 : heldL i ρ1 with
  | none => rw [q1] at h1; exact h1.elim
  | some ds =>
    rw [q1] at h1
    obtain ⟨b1, vs1, f0, f1, f2, f3⟩ := R1.heldAny q1
    rw [e0] at f0
    cases f0
    cases hz with
    | int k =>
      cases q2 : ds[k.toNat]? with
      | none => simp only [q2] at h1; exact h1.elim
      | some old =>
        simp only [q2] at h1
        by_cases hk : 0 ≤ k
        case neg => rw [if_neg hk] at h1; exact h1.elim
        rw [if_pos hk] at h1
        obtain ⟨v, g1, g2⟩ := RpAll.get f2 q2
        refine ⟨b, vs1, k, v, rfl, rfl, f1, hk, g1, p σ G1 H1 ρ1 _ R1 (SPost.bind h1 fun G2 H2 y d ρ2 R2 S2 hy h2 => ?_)⟩
        cases q3 : o old d with
        | none => rw [q3] at h2; exact h2.elim
        | some c =>
          obtain ⟨m, n, rfl, rfl, rfl⟩ := ho _ _ _ q3
          rw [q3] at h2
          cases q4 : heldL i ρ2 with
          | none => rw [q4] at h2; exact h2.elim
          | some ds2 =>
            rw [q4] at h2
            cases g2
            cases hy
            obtain ⟨b2, vs2, k0, k1, k2, k3⟩ := R2.heldAny q4
            rw [e0] at k0
            cases k0
            by_cases hz : k.toNat < ds2.length
            case neg => simp only [if_neg hz] at h2; exact h2.elim
            simp only [if_pos hz] at h2
            have hl := RpAll.len k2
            obtain ⟨R3, S3⟩ := k3 (.lst (ds2.set k.toNat (.int (gg m n)))) (.lst (vs2.set k.toNat (.int (gg m n)))) ⟨_, upd_same, RpAll.set (.int _) k.toNat k2⟩
            refine ⟨m, n, rfl, rfl, b, vs2, k, k.toNat, rfl, rfl, k1, ?_, h2 _ _ _ R3 S3⟩
            unfold ixN
            have : 0 ≤ k ∧ k < (vs2.length : Int) := ⟨hk, by omega⟩
            simp [this]
    | _ => exact h1.elim
end
def someQ {α : Type} (K : α → Prop) (o : Option α) : Prop := match o with
  | some a => K a
  | none => False
theorem someQ_some {α : Type} (K : α → Prop) (a : α) : someQ K (some a) = K a := rfl
theorem someQ_ite {α : Type} {c : Prop} [Decidable c] (K : α → Prop) (o : Option α) : someQ K (if c then o else none) = (c ∧ someQ K o) := by
  by_cases h : c
  · rw [if_pos h]; exact propext ⟨fun q => ⟨h, q⟩, fun q => q.2⟩
  · rw [if_neg h]; exact propext ⟨fun q => q.elim, fun q => absurd q.1 h⟩
theorem ws_augH {Z : Exn → DEnv → Prop} (i : Nat) (op : PyData → PyData → Option PyData) (g f : DEnv → Res PyData) (ρ : DEnv) (S : Out → DEnv → Prop) : WpX Z (sAugH i op g f ρ) S = (isHeld i ρ = true ∧ WpX Z (g ρ) (intQ fun k ρ1 => heldQ (fun ds => someQ (fun old => 0 ≤ k ∧ WpX Z (f ρ1) fun d ρ2 => someQ (fun c => heldQ (fun ds2 => k.toNat < ds2.length ∧ S .nx (setHeld i (.lst (ds2.set k.toNat c)) ρ2)) (heldL i ρ2)) (op old d)) (ds[k.toNat]?)) (heldL i ρ1))) := by
  unfold sAugH
  rw [wp_guard]
  congr 1
  rw [wp_bind]
  congr 1
  funext k ρ1
  cases k with
  | int k =>
    show WpX Z (match heldL i ρ1, PyData.int k with | some ds, .int k => _ | _, _ => _) S = heldQ _ (heldL i ρ1)
    cases heldL i ρ1 with
    | none => exact wp_bad _
    | some ds =>
      show WpX Z (match ds[k.toNat]? with | some old => _ | none => _) S = someQ _ (ds[k.toNat]?)
      cases ds[k.toNat]? with
      | none => exact wp_bad _
      | some old =>
        show WpX Z (if 0 ≤ k then _ else .bad) S = _
        rw [wp_guard, someQ_some, wp_bind]
        congr 1
        congr 1
        funext d ρ2
        cases op old d with
        | none => exact wp_bad _
        | some c =>
          cases heldL i ρ2 with
          | none => exact wp_bad _
          | some ds2 =>
            show WpX Z (if k.toNat < ds2.length then Res.ok Out.nx _ else .bad) S = _
            rw [wp_guard, wp_ok]; rfl
  | _ => cases heldL i ρ1 <;> exact wp_bad _
/-- [..] * n: a new list that is held -/
def repOf (d e : PyData) : Option (List PyData) := match d, e with
  | .list xs, .int j => if -(2 ^ 63) ≤ j ∧ j < 2 ^ 63 ∧ xs.length * j.toNat ≤ sizeLine then some (List.replicate j.toNat xs).flatten else none
  | _, _ => none
theorem repOf_int (xs : List PyData) (j : Int) : repOf (.list xs) (.int j) = if -(2 ^ 63) ≤ j ∧ j < 2 ^ 63 ∧ xs.length * j.toNat ≤ sizeLine then some (List.replicate j.toNat xs).flatten else none := rfl
def fRep (f g : DEnv → Res PyData) : DEnv → Res OD := fun ρ => (f ρ).bind fun d ρ1 => (g ρ1).bind fun e ρ2 => match repOf d e with
  | some xs => .ok (.lst xs) ρ2
  | none => .bad
theorem f_rep {X : Cx} {E : WX} {a b : Expr} {fa fb : DEnv → Res PyData} {pos : Pos} (ha : EJ X E a fa) (hb : EJ X E b fb) : FJ X E (.BinOp a .Mult b pos) (fRep fa fb) := by
  obtain ⟨ta, qa, pa⟩ := ha
  obtain ⟨tb, qb, pb⟩ := hb
  refine ⟨_, pe_op op_rep qa qb, fun σ G H ρ Q R h => pa σ G H ρ _ R (FPost.bind h fun G1 H1 u d ρ1 R1 S1 hu h1 => pb σ G1 H1 ρ1 _ R1 (FPost.bind h1 fun G2 H2 v e ρ2 R2 S2 hv h2 => ?_))⟩
  cases hu with
  | @lst p vs ds h3 h4 =>
    cases hv with
    | int j =>
      have h2 : FPost X.K X.mg E σ G2 H2 ρ2 Q (match (if -(2 ^ 63) ≤ j ∧ j < 2 ^ 63 ∧ ds.length * j.toNat ≤ sizeLine then some (List.replicate j.toNat ds).flatten else none) with
        | some xs => .ok (.lst xs) ρ2
        | none => .bad) := h2
      by_cases hc : -(2 ^ 63) ≤ j ∧ j < 2 ^ 63 ∧ ds.length * j.toNat ≤ sizeLine
      · rw [if_pos hc] at h2
        have l1 := RpAll.len h4
        exact ⟨p, j, vs, rfl, rfl, R2.gh _ _ (S2.same _ _ h3), hc.1, hc.2.1, by rw [l1]; exact hc.2.2, fun b hb => FPost.new R2 h2 hb ⟨_, upd_same, rpFlatten (RpAll.mono S2.same h4) _⟩⟩
      · rw [if_neg hc] at h2; exact h2.elim
    | _ => exact h2.elim
  | _ => exact h2.elim
theorem wp_rep {Z : Exn → DEnv → Prop} (f g : DEnv → Res PyData) (ρ : DEnv) (O : OD → DEnv → Prop) : WpX Z (fRep f g ρ) O = WpX Z (f ρ) fun d ρ1 => WpX Z (g ρ1) fun e ρ2 => someQ (fun xs => O (.lst xs) ρ2) (repOf d e) := by
  unfold fRep
  rw [wp_bind]
  congr 1
  funext d ρ1
  rw [wp_bind]
  congr 1
  funext e ρ2
  cases repOf d e with
  | none => exact wp_bad _
  | some xs => exact wp_ok _ _ _
theorem isi_lst_lst (xs : List PyData) : oIsi "list" (.list xs) = some (.bool true) := rfl
end DL

set_option Elab.async false
set_option linter.all false
set_option maxRecDepth 100000
set_option maxHeartbeats 4000000
/-! DL part 20: a tuple times any small number, 1 too (the same object then). -/
namespace DL
open PySem PySem.Spec PyProof.Rows L2

theorem meets_mul1 (l : Addr) (items : Array Value) (n : Nat) (dd : Option Addr) (sl : Array (Option Value)) (u : Tok) :
    Meets (Builtin.«tuple.__mul__» { pos := [Value.ref l, Value.int 1 u] }) fun _ R s =>
      s.heap.get? l = some { cls := Value.type "tuple", dict := dd, data := Data.seq items n, slots := sl } ∧ R (Except.ok (Flow.ret (Value.ref l))) s :=
  .of_wp fun prog w A R s h => by
    obtain ⟨hp, g, d, tk, os⟩ := s
    obtain ⟨hl, h⟩ := h
    have f1 := AutoSeq1.idx_int
    wp_walk using wpAny_loadPart' hl
    exact ⟨_, rfl, h⟩
def rRep1 (K : PySem.W.Frag) : R2 := fun x y H Q => ∃ l xs, x = .ref l ∧ y = .int 1 ∧ SqT K H l xs ∧ Q (.ref l) H
theorem op_rep1 {X : Cx} : OpR X (binaryOp .Mult) (rRep1 X.K) := by
  intro pins s σ H x y v u Q I rx ry ⟨l, xs, e1, e2, hT, q⟩
  subst e1; subst e2
  have rx : v = .ref l := rx
  obtain ⟨t, ry⟩ : ∃ t, u = .int 1 t := ry
  subst rx; subst ry
  obtain ⟨its, r, ⟨o, ho, hc, n, hd⟩, hs⟩ := I.tuple hT
  obtain ⟨cls, dd, data, sl⟩ := o
  cases hc
  cases hd
  refine wpAny_binaryOp_repeat_ref (by decide) ⟨_, ho, rfl⟩ (fun s' => typeIs_int s' 1 t) noFill_tuple_mul F.fills_int_mul F.slot_int_rmul repeat_tuple F.slot_int_index.lookup
    (call_meets F.slot_int_rmul (typeIs_int s 1 t) F.entry_int_rmul (F.args_int_rmul_2 _ _) (int_rmul_tuple 1 t l its.toArray n dd sl) ⟨ho, rfl, ⟨_, ho, rfl⟩, 
      call_meets F.slot_tuple_mul ⟨_, ho, rfl⟩ F.entry_tuple_mul (F.args_tuple_mul_2 _ _) (meets_mul1 l its.toArray n dd sl t) ⟨ho, V.ref l, H, I, rfl, q⟩⟩)
def oMul1 (d e : PyData) : Option PyData := match d, e with
  | .tuple xs, .int j => if j = 1 then some (.tuple xs) else oMul (.tuple xs) (.int j)
  | d, e => oMul d e
theorem oMul1_int (i j : Int) : oMul1 (.int i) (.int j) = oMul (.int i) (.int j) := rfl
theorem oMul1_lst (xs : List PyData) (j : Int) : oMul1 (.list xs) (.int j) = oMul (.list xs) (.int j) := rfl
theorem oMul1_tup (xs : List PyData) (j : Int) : oMul1 (.tuple xs) (.int j) = if j = 1 then some (.tuple xs) else oMul (.tuple xs) (.int j) := rfl
theorem ho_mul1 {X : Cx} : OpR X (binaryOp .Mult) (fun x y H Q => rRep1 X.K x y H Q ∨ rMulA X.K x y H Q) := op_rep1.or ho_mul
theorem od_mul1 {X : Cx} {E : WX} : OpD X E (fun x y H Q => rRep1 X.K x y H Q ∨ rMulA X.K x y H Q) oMul1 := by
  intro σ G H ρ x y d e c Q R hx hy ho h
  have far : oMul d e = some c → (rRep1 X.K x y H Q ∨ rMulA X.K x y H Q) := fun z => .inr (od_mul σ G H ρ x y d e c Q R hx hy z h)
  cases hx with
  | @tup a vs ds h1 h2 =>
    cases hy with
    | int j =>
      rw [oMul1_tup] at ho
      by_cases hj : j = 1
      · rw [if_pos hj] at ho
        cases ho
        subst hj
        exact .inl ⟨a, vs, rfl, rfl, Same.seqT R.gh h1, Post.done R h (.tup h1 h2)⟩
      · rw [if_neg hj] at ho
        exact far ho
    | _ => exact far ho
  | _ => exact far (by cases hy <;> exact ho)
end DL

set_option Elab.async false
set_option linter.all false
set_option maxRecDepth 100000
set_option maxHeartbeats 4000000
/-! DL part 21: sorted(set(a tuple of ints)); the last part of the law, where nobody wants more than True: a store into a list of a list. -/
namespace DL
open PySem PySem.Spec PyProof.Rows L2

/-! ### sorted(set(t)) -/
def dedup : List Int → List Int
  | [] => []
  | x :: l => if x ∈ dedup l then dedup l else x :: dedup l
theorem mem_dedup {k : Int} : ∀ {l : List Int}, k ∈ dedup l ↔ k ∈ l
  | [] => Iff.rfl
  | x :: l => by
    unfold dedup
    have ih := mem_dedup (k := k) (l := l)
    split
    · next h =>
      rw [ih, List.mem_cons]
      exact ⟨.inr, fun z => z.elim (fun e => by subst e; exact mem_dedup.mp h) id⟩
    · rw [List.mem_cons, List.mem_cons, ih]
theorem nodup_dedup : ∀ (l : List Int), (dedup l).Nodup
  | [] => List.nodup_nil
  | x :: l => by
    unfold dedup
    split
    · exact nodup_dedup l
    · next h => exact List.nodup_cons.mpr ⟨h, nodup_dedup l⟩
def sortSet (ns : List Int) : List Int := sortI (dedup ns)
theorem sortSet_is {ns out : List Int} (h1 : out.Pairwise (· < ·)) (h2 : ∀ k : Int, k ∈ out ↔ k ∈ ns) : out = sortSet ns := by
  refine sortI_is ((List.perm_ext_iff_of_nodup (List.Pairwise.imp (fun h => Int.ne_of_lt h) h1) (nodup_dedup ns)).mpr fun k => by rw [h2, mem_dedup]) (List.Pairwise.imp (fun h => Int.le_of_lt h) h1)
def rSetTupI (K : PySem.W.Frag) (w : World) : List V → Hp → VK → Prop := fun xs H Q => ∃ (p : Addr) (ns : List Int), xs = [V.ref p] ∧ SqT K H p (ns.map V.int) ∧ ns.length < 64 ∧
  ∀ (a : Addr) (n : Nat), H a = none → n ≤ ns.length → Q (.ref a) (upd H a (SetO w a (fun j => decide (j ∈ ns)) n))
theorem cr_setTupI {X : Cx} (hc : X.calm = true) : CallR X (.type "set") (rSetTupI X.K X.w) := by
  intro pins s σ H xs us Q I r h
  obtain ⟨p, ns, rfl, hq, hl, q⟩ := h
  rw [Vals.ref1 r]
  obtain ⟨its, rv, pt, hz⟩ := I.tuple hq
  have hi : IntsAre its.toArray.toList ns := ints_of_vals rv
  have hn : H s.heap.objs.size = none := I.hok.fresh (Nat.le_refl _)
  refine call_set_tupI ns (I.ok.hd hc) (show s.heap.IsTuple p its.toArray from pt) hi (by unfold scanBound; omega) fun h' tk c R hcn k => ?_
  exact ⟨.ref s.heap.objs.size, upd H s.heap.objs.size (SetO X.w s.heap.objs.size (fun j => decide (j ∈ ns)) c), I.laid (t' := tk) k (Nat.le_refl _) (setO_new R), rfl, q _ c hn hcn⟩
def fSortSet (f : DEnv → Res PyData) : DEnv → Res OD := fun ρ => (f ρ).bind fun d ρ1 => match d with
  | .tuple ds => match unInts ds with
    | some ns => if ns.length < 64 then .ok (.lst ((sortSet ns).map .int)) ρ1 else .bad
    | none => .bad
  | _ => .bad
theorem f_sortSet {X : Cx} {E : WX} {a : Expr} {fa : DEnv → Res PyData} {pos p pos2 p2 : Pos} (hc : X.calm = true) (hg : Gl X "sorted") (hm : X.mg "sorted" = none) (hg2 : Gl X "set") (hm2 : X.mg "set" = none) (ha : EJ X E a fa)
    (na : starEach [a] X.env = (false, eval a X.env) :: starEach [] X.env := by rfl)
    (nb : starEach [.Call (.Name "set" p2) [a] [] pos2] X.env = (false, eval (.Call (.Name "set" p2) [a] [] pos2) X.env) :: starEach [] X.env := by rfl) :
    FJ X E (.Call (.Name "sorted" p) [.Call (.Name "set" p2) [a] [] pos2] [] pos) (fSortSet fa) := by
  obtain ⟨t, q, pp⟩ := ha
  refine ⟨_, pe_callB (cr_sortedSet hc) hg hm (by decide +kernel) (pa_cons (pe_callTy (cr_setTupI hc) hg2 hm2 (by decide +kernel) (pa_cons q pa_nil na) (by decide) (by decide) na rfl) pa_nil nb) (by decide) (by decide) nb rfl, fun σ G H ρ Q R h => pp σ G H ρ _ R (FPost.bind h fun G1 H1 x d ρ1 R1 S1 hx h1 => ?_)⟩
  cases hx with
  | @tup b vs ds g1 g2 =>
    have h1 : FPost X.K X.mg E σ G1 H1 ρ1 Q (match unInts ds with
      | some ns => if ns.length < 64 then .ok (.lst ((sortSet ns).map .int)) ρ1 else .bad
      | none => .bad) := h1
    cases e : unInts ds with
    | none => rw [e] at h1; exact h1.elim
    | some ns =>
      rw [e] at h1
      have h1 : FPost X.K X.mg E σ G1 H1 ρ1 Q (if ns.length < 64 then .ok (.lst ((sortSet ns).map .int)) ρ1 else .bad) := h1
      by_cases hl : ns.length < 64
      case neg => rw [if_neg hl] at h1; exact h1.elim
      rw [if_pos hl] at h1
      obtain ⟨e1, e2⟩ := unInts_rp g2 e
      refine ⟨b, ns, rfl, by rw [← e1]; exact Same.seqT R1.gh g1, hl, fun a n hn hle => ?_⟩
      refine ⟨a, _, n, rfl, upd_same, by omega, fun ns' r hp hmm hlen hr => ?_⟩
      have n1 : ¬ OwnL σ ρ1 a := fun z => by obtain ⟨w, e⟩ := R1.ownH z; rw [hn] at e; cases e
      have n2 : ¬ OwnI σ ρ1 a := fun z => by obtain ⟨w, e⟩ := R1.ownHI z; rw [hn] at e; cases e
      have R2 : Rel X.K G1 σ (upd H1 a (SetO X.w a (fun j => decide (j ∈ ns)) n)) ρ1 := R1.beside (R1.noneG hn) n1 n2 _
      have S2 : Stp G1 H1 σ ρ1 G1 (upd H1 a (SetO X.w a (fun j => decide (j ∈ ns)) n)) σ ρ1 := ⟨Same.refl _, fun b w e _ _ => same_upd hn b w e, fun b e => by
        by_cases hb : b = a
        · subst hb; exact hn
        · rw [upd_ne hb] at e; exact e, fun b w e => .inl e, fun _ z => .inl z, fun _ o z => ⟨rfl, o, z⟩, fun _ o z => ⟨o, z⟩, rfl⟩
      have es : ns' = sortSet ns := sortSet_is hp fun k => by rw [hmm k, decide_eq_true_eq]
      rw [es]
      exact FPost.new R2 (FPost.from S2 h1) hr ⟨_, upd_same, rpInts _⟩
  | _ => exact h1.elim
def oTupInts (d : PyData) : Option (List Int) := match d with
  | .tuple ds => unInts ds
  | _ => none
theorem wp_sortSet {Z : Exn → DEnv → Prop} (f : DEnv → Res PyData) (ρ : DEnv) (O : OD → DEnv → Prop) : WpX Z (fSortSet f ρ) O = WpX Z (f ρ) fun d ρ1 => keyQ (fun ns => ns.length < 64 ∧ O (.lst ((sortSet ns).map .int)) ρ1) (oTupInts d) := by
  unfold fSortSet
  rw [wp_bind]
  congr 1
  funext d ρ1
  cases d with
  | tuple ds =>
    show WpX Z (match unInts ds with
      | some ns => if ns.length < 64 then .ok (.lst ((sortSet ns).map .int)) ρ1 else .bad
      | none => .bad) O = keyQ _ (unInts ds)
    cases unInts ds with
    | none => exact wp_bad _
    | some ns => exact (wp_guard _ _).trans (congrArg _ (wp_ok _ _ _))
  | _ => exact wp_bad _

/-! ### the law's last part -/
mutual
def keepD : PyData → Bool
  | .none => true
  | .bool _ => true
  | .int _ => true
  | .str _ => true
  | .tuple ds => keepAll ds
  | _ => false
def keepAll : List PyData → Bool
  | [] => true
  | d :: ds => keepD d && keepAll ds
end
theorem rd_keep {G G' : Hp} {a q : Addr} {xs ys : List V} (hq : G q = some (.lst ys)) (hk : ∀ b u, G b = some u → b ≠ q → G' b = some u) (h : Rd G a (.tup xs)) : Rd G' a (.tup xs) := by
  rcases h with h | ⟨o, h⟩
  · exact .inl (hk _ _ h fun z => by rw [z, hq] at h; cases h)
  · exact .inr ⟨o, hk _ _ h fun z => by rw [z, hq] at h; cases h⟩
mutual
theorem Rp.keep {K : PySem.W.Frag} {G G' : Hp} {q : Addr} {ys : List V} (hq : G q = some (.lst ys)) (hk : ∀ b u, G b = some u → b ≠ q → G' b = some u) : ∀ {v : V} {d : PyData}, Rp K G v d → keepD d = true → Rp K G' v d
  | _, _, .non, _ => .non
  | _, _, .bl b, _ => .bl b
  | _, _, .int i, _ => .int i
  | _, _, .str x, _ => .str x
  | _, _, .lst h a, c => nomatch (show false = true from c)
  | _, _, .tup h a, c => .tup (h.elim (fun z => .inl (rd_keep hq hk z)) .inr) (RpAll.keep hq hk a c)
  | _, _, .scr h, c => nomatch (show false = true from c)
theorem RpAll.keep {K : PySem.W.Frag} {G G' : Hp} {q : Addr} {ys : List V} (hq : G q = some (.lst ys)) (hk : ∀ b u, G b = some u → b ≠ q → G' b = some u) : ∀ {vs : List V} {ds : List PyData}, RpAll K G vs ds → keepAll ds = true → RpAll K G' vs ds
  | _, _, .nil, _ => .nil
  | _, _, .cons h t, c => by
    have c' : (keepD _ && keepAll _) = true := c
    exact .cons (Rp.keep hq hk h (Bool.and_eq_true_iff.mp c').1) (RpAll.keep hq hk t (Bool.and_eq_true_iff.mp c').2)
end
def forgetC : Cell → Cell
  | .val d => if keepD d = true then .val d else .un
  | _ => .un
/-- a list of lists of ints -/
def rowsD (rs : List (List Int)) : PyData := .list (rs.map fun r => .list (r.map .int))
def unRows : List PyData → Option (List (List Int))
  | [] => some []
  | .list ds :: rest => match unInts ds, unRows rest with
    | some r, some rs => some (r :: rs)
    | _, _ => none
  | _ :: _ => none
theorem unRows_rp {K : PySem.W.Frag} {G : Hp} : ∀ {vs : List V} {ds : List PyData} {rs : List (List Int)}, RpAll K G vs ds → unRows ds = some rs →
    ∃ qs : List Addr, vs = qs.map V.ref ∧ qs.length = rs.length ∧ ∀ (i : Nat) (q : Addr) (r : List Int), qs[i]? = some q → rs[i]? = some r → G q = some (.lst (r.map V.int))
  | _, _, _, .nil, h => by cases h; exact ⟨[], rfl, rfl, fun i q r h => by simp at h⟩
  | _, _, rs, .cons (d := d) (ds := ds) h t, e => by
    cases h with
    | @lst q xs ds1 h1 h2 =>
      unfold unRows at e
      cases e1 : unInts ds1 with
      | none => rw [e1] at e; cases e
      | some r =>
        cases e2 : unRows ds with
        | none => rw [e1, e2] at e; cases e
        | some rs' =>
          rw [e1, e2] at e
          cases e
          obtain ⟨qs, f1, f2, f3⟩ := unRows_rp t e2
          obtain ⟨x1, _⟩ := unInts_rp h2 e1
          refine ⟨q :: qs, by rw [f1]; rfl, by rw [List.length_cons, List.length_cons, f2], fun i p r' g1 g2 => ?_⟩
          cases i with
          | zero => simp at g1 g2; subst g1; subst g2; rw [← x1]; exact h1
          | succ i => exact f3 i p r' (by simpa using g1) (by simpa using g2)
    | _ => cases e
theorem unRows_rows : ∀ rs : List (List Int), unRows (rs.map fun r => .list (r.map .int)) = some rs
  | [] => rfl
  | r :: rs => by
    show (match unInts (r.map PyData.int), unRows (rs.map fun r => .list (r.map .int)) with
      | some r, some rs => some (r :: rs)
      | _, _ => none) = _
    have e : unInts (r.map PyData.int) = some r := unInts_map r
    rw [e, unRows_rows rs]

def intD : PyData → Option Int
  | .int v => some v
  | _ => none
def valI : Option Cell → Option Int
  | some (.val (.int x)) => some x
  | _ => none
def valL : Option Cell → Option (List PyData)
  | some (.val (.list ds)) => some ds
  | _ => none
theorem intD_some {d : PyData} {v : Int} (h : intD d = some v) : d = .int v := by
  cases d with
  | int i => cases h; rfl
  | _ => cases h
theorem valI_some {c : Option Cell} {v : Int} (h : valI c = some v) : c = some (.val (.int v)) := by
  cases c with
  | none => cases h
  | some c =>
    cases c with
    | val d =>
      cases d with
      | int i => cases h; rfl
      | _ => cases h
    | _ => cases h
theorem valL_some {c : Option Cell} {v : List PyData} (h : valL c = some v) : c = some (.val (.list v)) := by
  cases c with
  | none => cases h
  | some c =>
    cases c with
    | val d =>
      cases d with
      | list i => cases h; rfl
      | _ => cases h
    | _ => cases h
/-- cell i, a list of lists of ints that are all different: its member x's member y is d; of all other cells only what holds no list is kept -/
def set2 (i jx jy : Nat) (d : PyData) (ρ : DEnv) : Option DEnv := (intD d).bind fun v => (valL ρ[i]?).bind fun ds => (valI ρ[jx]?).bind fun x => (valI ρ[jy]?).bind fun y => (unRows ds).bind fun rs =>
  if rs.Nodup then (ixN rs.length x).bind fun a => rs[a]?.bind fun r => (ixN r.length y).bind fun b => some ((ρ.map forgetC).set i (.val (rowsD (rs.set a (r.set b v))))) else none
def nxO : Option DEnv → Res Out
  | some ρ => .ok .nx ρ
  | none => .bad
def sSet2 (i jx jy : Nat) (f : DEnv → Res PyData) : DEnv → Res Out := fun ρ => (f ρ).bind fun d ρ1 => nxO (set2 i jx jy d ρ1)
/-- the law's last statements: they give True -/
structure LawJ (X : Cx) (sts : List Stmt) (f : DEnv → Res Out) : Prop where
  ex : ∃ t : TS, PSs X sts t ∧ ∀ (σ : St) (G H : Hp) (ρ ρ' : DEnv) (D : Ends), Rel X.K G σ H ρ → f ρ = .ok (.rt (.bool true)) ρ' → (∀ H', D.rt (.bl true) H') → t D σ H
section
variable {X : Cx} {E : WX} {st : Stmt} {rest sts : List Stmt} {f g : DEnv → Res Out}
theorem lj_of (h : BJ X E sts f) : LawJ X sts f := by
  obtain ⟨t, q, p⟩ := h
  refine ⟨t, q, fun σ G H ρ ρ' D R e hD => p σ G H ρ D R ?_⟩
  rw [e]
  intro G' H' σ' v _ _ hv
  cases hv
  exact hD H'
theorem lj_cons (h : SJ X E st f) (h2 : LawJ X rest g) : LawJ X (st :: rest) (sSeq f g) := by
  obtain ⟨t, q, p⟩ := h
  obtain ⟨t2, q2, p2⟩ := h2
  refine ⟨_, pss_cons q q2, fun σ G H ρ ρ' D R e hD => p σ G H ρ _ R ?_⟩
  unfold sSeq at e
  cases r : f ρ with
  | bad => rw [r] at e; cases e
  | err x ρ1 => rw [r] at e; cases e
  | ok o ρ1 =>
    rw [r] at e
    cases o with
    | nx => exact fun G' H' σ' R' S' => p2 σ' G' H' ρ1 ρ' D R' e hD
    | bk => cases e
    | ct => cases e
    | rt d =>
      cases e
      intro G' H' σ' v _ _ hv
      cases hv
      exact hD H'
theorem ixN_at {α : Type} {xs : List α} {i : Int} {a : Nat} {v : α} (h : ixN xs.length i = some a) (hv : xs[a]? = some v) : atI xs i = some v := by
  unfold atI
  rw [h]
  exact hv
theorem rpAll_of {K : PySem.W.Frag} {G : Hp} : ∀ {vs : List V} {ds : List PyData}, vs.length = ds.length → (∀ (k : Nat) (w : V) (d : PyData), vs[k]? = some w → ds[k]? = some d → Rp K G w d) → RpAll K G vs ds
  | [], [], _, _ => .nil
  | v :: vs, d :: ds, hl, h => .cons (h 0 v d rfl rfl) (rpAll_of (by simpa using hl) fun k w e a b => h (k + 1) w e (by simpa using a) (by simpa using b))
theorem lj_set2 {m x y : Str} {pm px py p1 p2 pos : Pos} {a : Expr} {fa : DEnv → Res PyData} (i jx jy : Nat) (hm : PE X (.Name m pm) (tVar i)) (hx : PE X (.Name x px) (tVar jx)) (hy : PE X (.Name y py) (tVar jy)) (pl : PlainIx (.Name x px)) (ha : EJ X E a fa)
    (hp : ∀ te to ti, PE X a te → PE X (.Subscript (.Name m pm) (.Name x px) p1) to → PE X (.Name y py) ti → PS X (.Assign [.Subscript (.Subscript (.Name m pm) (.Name x px) p1) (.Name y py) p2] a pos) (tAsg te (gSub to ti rSetL)))
    (h2 : LawJ X rest g) : LawJ X (.Assign [.Subscript (.Subscript (.Name m pm) (.Name x px) p1) (.Name y py) p2] a pos :: rest) (sSeq (sSet2 i jx jy fa) g) := by
  obtain ⟨t, q, p⟩ := ha
  obtain ⟨t2, q2, p2⟩ := h2
  refine ⟨_, pss_cons (hp _ _ _ q (pe_ix ho_ix hm hx pl) hy) q2, fun σ G H ρ ρ' D R e hD => p σ G H ρ _ R ?_⟩
  unfold sSeq sSet2 at e
  cases r : fa ρ with
  | bad => rw [r] at e; cases e
  | err x ρ1 => rw [r] at e; cases e
  | ok d ρ1 =>
    rw [r] at e
    intro G1 H1 w R1 S1 hw
    have e : (match nxO (set2 i jx jy d ρ1) with
      | .ok .nx ρ2 => g ρ2
      | r => r) = .ok (.rt (.bool true)) ρ' := e
    cases s2 : set2 i jx jy d ρ1 with
    | none => rw [s2] at e; cases e
    | some ρ2 =>
    rw [s2] at e
    have e : g ρ2 = .ok (.rt (.bool true)) ρ' := e
    unfold set2 at s2
    obtain ⟨v, hd, s3⟩ := Option.bind_eq_some_iff.mp s2
    obtain ⟨ds, c1, s4⟩ := Option.bind_eq_some_iff.mp s3
    obtain ⟨x, c2, s5⟩ := Option.bind_eq_some_iff.mp s4
    obtain ⟨y, c3, s6⟩ := Option.bind_eq_some_iff.mp s5
    obtain ⟨rs, u, s7⟩ := Option.bind_eq_some_iff.mp s6
    have c1 := valL_some c1
    have c2 := valI_some c2
    have c3 := valI_some c3
    have hd := intD_some hd
    subst hd
    cases hw
    obtain ⟨w1, f1, w1', rfl, k1⟩ := R1.cell i _ c1
    obtain ⟨w2, f2, w2', rfl, k2⟩ := R1.cell jx _ c2
    obtain ⟨w3, f3, w3', rfl, k3⟩ := R1.cell jy _ c3
    cases k2
    cases k3
    cases k1 with
    | @lst ad vs ds g1 g2 =>
              by_cases nd : rs.Nodup
              case neg => rw [if_neg nd] at s7; cases s7
              rw [if_pos nd] at s7
              obtain ⟨qs, a1, a2, a3⟩ := unRows_rp g2 u
              obtain ⟨ia, n1, s8⟩ := Option.bind_eq_some_iff.mp s7
              obtain ⟨r, n2, s9⟩ := Option.bind_eq_some_iff.mp s8
              obtain ⟨ib, n3, s10⟩ := Option.bind_eq_some_iff.mp s9
              cases s10
              have hia : ia < qs.length := by rw [a2]; exact (List.getElem?_eq_some_iff.mp n2).1
              obtain ⟨qq, hqq⟩ : ∃ q, qs[ia]? = some q := ⟨_, List.getElem?_eq_getElem hia⟩
              have hG := a3 ia qq r hqq n2
              have hH := R1.gh _ _ hG
              have hat : atI vs x = some (V.ref qq) := ixN_at (by rw [a1, List.length_map, a2]; exact n1) (by rw [a1, List.getElem?_map, hqq]; rfl)
              refine ⟨_, f1, _, f2, .inl ⟨ad, vs, x, _, rfl, rfl, SqL.of (R1.gh _ _ g1), hat, _, f3, qq, r.map V.int, y, ib, rfl, rfl, hH, by rw [List.length_map]; exact n3, ?_⟩⟩
              have hk : ∀ b u, G1 b = some u → b ≠ qq → upd G1 qq (.lst ((r.map V.int).set ib (V.int v))) b = some u := fun b u h hb => by rw [upd_ne hb]; exact h
              have hsetr : (r.map V.int).set ib (V.int v) = (r.set ib v).map V.int := by rw [List.map_set]
              have hadq : ad ≠ qq := fun z => by
                rw [z, hG] at g1
                cases g1
                have : (r.map V.int)[ia]? = some (V.ref qq) := by rw [a1, List.getElem?_map, hqq]; rfl
                rw [List.getElem?_map] at this
                cases q : r[ia]? with
                | none => rw [q] at this; cases this
                | some z => rw [q] at this; cases this
              have other : ∀ (k : Nat) (p : Addr) (r' : List Int), k ≠ ia → qs[k]? = some p → rs[k]? = some r' → p ≠ qq := fun k p r' hne h1 h2 z => by
                have h3 := a3 k p r' h1 h2
                rw [z, hG] at h3
                have h4 : r.map V.int = r'.map V.int := by
                  have := Option.some.inj h3
                  exact HO.lst.inj this
                have h5 : r = r' := (List.map_inj_right (f := V.int) fun a b e => V.int.inj e).mp h4
                subst h5
                obtain ⟨l1, e1⟩ := List.getElem?_eq_some_iff.mp h2
                obtain ⟨l2, e2⟩ := List.getElem?_eq_some_iff.mp n2
                exact hne ((List.getElem_inj nd).mp (e1.trans e2.symm))
              have rows : RpAll X.K (upd G1 qq (.lst ((r.map V.int).set ib (V.int v)))) vs ((rs.set ia (r.set ib v)).map fun r => .list (r.map .int)) := by
                rw [a1]
                refine rpAll_of (by rw [List.length_map, List.length_map, List.length_set, a2]) fun k w d hw hd => ?_
                rw [List.getElem?_map] at hw hd
                cases q1 : qs[k]? with
                | none => rw [q1] at hw; cases hw
                | some p =>
                  rw [q1] at hw
                  cases hw
                  by_cases hka : k = ia
                  · subst hka
                    rw [hqq] at q1
                    cases q1
                    rw [List.getElem?_set_self (by rw [← a2]; exact hia)] at hd
                    cases hd
                    exact .lst (by rw [upd_same, hsetr]) (rpInts _)
                  · rw [List.getElem?_set_ne (fun z => hka z.symm)] at hd
                    cases q2 : rs[k]? with
                    | none => rw [q2] at hd; cases hd
                    | some r' =>
                      rw [q2] at hd
                      cases hd
                      exact .lst (by rw [upd_ne (other k p r' hka q1 q2)]; exact a3 k p r' q1 q2) (rpInts _)
              refine p2 σ (upd G1 qq (.lst ((r.map V.int).set ib (V.int v)))) _ _ ρ' D ⟨fun b u h => ?_, by rw [List.length_set, List.length_map]; exact R1.len, fun k c h => ?_, fun k l p _ h => ?_⟩ e hD
              · by_cases hb : b = qq
                · subst hb; rw [upd_same] at h ⊢; exact h
                · rw [upd_ne hb] at h ⊢; exact R1.gh _ _ h
              · by_cases hki : k = i
                · subst hki
                  have hlt : k < (ρ1.map forgetC).length := by rw [List.length_map]; exact (List.getElem?_eq_some_iff.mp c1).1
                  rw [List.getElem?_set_self hlt] at h
                  cases h
                  exact ⟨_, f1, _, rfl, .lst (by rw [upd_ne hadq]; exact g1) rows⟩
                · rw [List.getElem?_set_ne (fun z => hki z.symm), List.getElem?_map] at h
                  cases q1 : ρ1[k]? with
                  | none => rw [q1] at h; cases h
                  | some c0 =>
                    rw [q1] at h
                    cases h
                    obtain ⟨v0, b1, b2⟩ := R1.cell k c0 q1
                    refine ⟨v0, b1, ?_⟩
                    cases c0 with
                    | un => trivial
                    | own o => trivial
                    | io o => trivial
                    | val d =>
                      unfold forgetC
                      by_cases kd : keepD d = true
                      · simp only
                        rw [if_pos kd]
                        obtain ⟨x0, z1, z2⟩ := b2
                        exact ⟨x0, z1, Rp.keep hG hk z2 kd⟩
                      · simp only
                        rw [if_neg kd]
                        trivial
              · exfalso
                obtain ⟨_, c, hc, ho⟩ := h
                have : c.isOwn = false := by
                  by_cases hki : k = i
                  · subst hki
                    have hlt : k < (ρ1.map forgetC).length := by rw [List.length_map]; exact (List.getElem?_eq_some_iff.mp c1).1
                    rw [List.getElem?_set_self hlt] at hc
                    cases hc
                    rfl
                  · rw [List.getElem?_set_ne (fun z => hki z.symm), List.getElem?_map] at hc
                    cases q1 : ρ1[k]? with
                    | none => rw [q1] at hc; cases hc
                    | some c0 =>
                      rw [q1] at hc
                      cases hc
                      cases c0 with
                      | val d =>
                        unfold forgetC
                        by_cases kd : keepD d = true
                        · simp only; rw [if_pos kd]; rfl
                        · simp only; rw [if_neg kd]; rfl
                      | _ => rfl
                rw [this] at ho
                cases ho
theorem fnok_law {P : Program} {w : World} {K : PySem.W.Frag} {mg : Str → Option Value} {base : Heap} {x qual : Str} {st : Stmt} {f : Addr} {fd : FuncData} {N : List Str} {p0 : Str} {k m : Nat} {body : DEnv → Res Out} (D : IsDef K mg x qual st [p0] f fd) (S : FnScope N [p0] (defScope st)) (hN : N.length = 1 + m)
    (hb : ∀ (cdv : Value) (A : Around) (outer : List Env) (s : Shared) (H : Hp) (E : XK), Room k (A.deeper (envOfC qual (defScope st) s.heap.objs.size f cdv)) → LawJ (cxOf CX0 P w K mg base N qual (defScope st) f cdv A outer s H E).nox (defBody st) body)
    (T : ∀ ns : List Int, ns.length ≤ 63 → ∃ cs, defD m body [.val (scrD ns)] = .ok (.bool true) cs) :
    FnOk P w K mg base CX0 (k + 1) f fd [p0] (spLaw K) := by
  refine D.fn.ok S (fun vs H Q E h => ?_) fun cdv A outer s H vs Q E hr h => ?_
  · obtain ⟨a, ns, e, _⟩ := h
    rw [e]
    rfl
  · obtain ⟨a, ns, rfl, hS, hl, q⟩ := h
    obtain ⟨t, qq, p⟩ := (hb cdv A outer s H E hr).ex
    refine ⟨t, qq, ?_⟩
    have hst : L2.start N [V.ref a] = [V.ref a].map some ++ List.replicate m none := by
      unfold L2.start
      rw [hN]
      congr 2
      show 1 + m - 1 = m
      omega
    rw [hst]
    have R : Rel K H ([V.ref a].map some) H [.val (scrD ns)] := by
      refine ⟨Same.refl _, rfl, fun i c hc => ?_, fun i j p _ hi _ => ?_⟩
      · cases i with
        | zero => cases hc; exact ⟨_, rfl, _, rfl, .scr hS⟩
        | succ i => simp at hc
      · obtain ⟨_, c, hc, ho⟩ := hi
        cases i with
        | zero => cases hc; cases ho
        | succ i => simp at hc
    have R0 := R.ext m
    obtain ⟨cs, e⟩ := T ns hl
    unfold defD at e
    cases r : body ([.val (scrD ns)] ++ List.replicate m .un) with
    | bad => rw [r] at e; cases e
    | err x ρ' => rw [r] at e; cases e
    | ok o ρ' =>
      rw [r] at e
      cases o with
      | nx => cases e
      | bk => cases e
      | ct => cases e
      | rt d =>
        cases e
        exact p _ H H _ ρ' _ R0 r q
end
end DL

set_option Elab.async false
set_option linter.all false
set_option maxRecDepth 100000
set_option maxHeartbeats 4000000
/-! DL part 22: dict comprehensions, list(a new dict), key in dict, len(dict), list += list. -/
namespace DL
open PySem PySem.Spec PyProof.Rows L2

def dcL (vs : List Nat) (gd : PyData → DEnv → Option DEnv) (ft : DEnv → Res Bool) (fk fv : DEnv → Res PyData) : List PyData → List (Key × PyData) → DEnv → Res (List (Key × PyData))
  | [], acc, ρ => .ok acc ρ
  | d :: ds, acc, ρ => match gd d ρ with
    | none => .bad
    | some ρ1 => match ft ρ1 with
      | .ok true ρ2 => match fk ρ2 with
        | .ok kd ρ3 => match fv ρ3 with
          | .ok y ρ4 => match keyD kd with
            | some k => if acc.length < sizeLine then dcL vs gd ft fk fv ds (putD acc k y) (wipeC ρ4 vs) else .bad
            | none => .bad
          | _ => .bad
        | _ => .bad
      | .ok false ρ2 => dcL vs gd ft fk fv ds acc (wipeC ρ2 vs)
      | _ => .bad
def fDc (vs : List Nat) (fi : DEnv → Res (List PyData)) (gd : PyData → DEnv → Option DEnv) (ft : DEnv → Res Bool) (fk fv : DEnv → Res PyData) : DEnv → Res OD := fun ρ => (fi ρ).bind fun ds ρ1 => match dcL vs gd ft fk fv ds [] (wipeC ρ1 vs) with
  | .ok acc ρ2 => .ok (.dk acc) (unwipe vs ρ1 ρ2)
  | _ => .bad
section
variable {X : Cx} {E : WX} {e tg iter kx vx : Expr} {ifs : List Expr} {scope : Scope} {fk fv : DEnv → Res PyData} {ft : DEnv → Res Bool} {fi : DEnv → Res (List PyData)} {gd : PyData → DEnv → Option DEnv} {pos : Pos} {vs is : List Nat}
theorem dc_read {K : PySem.W.Frag} {mg : Str → Option Value} {σ : St} {G H : Hp} {ρ : DEnv} {Q : VK} {wi : TI} (his : ∀ j ∈ is, j ∈ vs)
    (pi : ∀ (σ : St) (G H : Hp) (ρ : DEnv) (R : It → Hp → Prop), Rel K G σ H ρ → IPost K mg E σ G H ρ R (fi ρ) → wi σ H R) (R : Rel K G σ H ρ) (h : FPost K mg E σ G H ρ Q (fDc vs fi gd ft fk fv ρ)) :
    tDc wi (tG K is gd) (tT K mg ft) (tE K mg fk) (tE K mg fv) vs σ H Q := by
  refine pi σ G H ρ _ R ?_
  unfold fDc at h
  cases r : fi ρ with
  | bad => rw [r] at h; exact h
  | err x c => rw [r] at h; exact h
  | ok ds ρ1 =>
    rw [r, Res.bind_ok] at h
    generalize hT : dcL vs gd ft fk fv ds [] (wipeC ρ1 vs) = T at h
    intro G1 H1 J R1 S1 hw D hD
    have hgD : G1 D = none := R1.noneG hD
    have nL1 : ¬ OwnL σ ρ1 D := fun z => by obtain ⟨u, hu⟩ := R1.ownH z; rw [hD] at hu; cases hu
    have nI1 : ¬ OwnI σ ρ1 D := fun z => by obtain ⟨u, hu⟩ := R1.ownHI z; rw [hD] at hu; cases hu
    have Rw := R1.wiped vs
    have nL : ¬ OwnL (wipe σ vs) (wipeC ρ1 vs) D := fun z => nL1 z.unwiped
    have nI : ¬ OwnI (wipe σ vs) (wipeC ρ1 vs) D := fun z => nI1 z.unwiped
    refine ⟨fun i m Hc => ∃ (Gc : Hp) (ρc : DEnv) (acc : List (Key × PyData)) (accV : List (Key × V)), Rel K Gc (wipe σ vs) Hc ρc ∧ Stp G1 H1 (wipe σ vs) (wipeC ρ1 vs) Gc (DL.era D Hc) (wipe σ vs) ρc ∧ Gc D = none ∧ Hc D = some (.dK accV) ∧ ¬ OwnL (wipe σ vs) ρc D ∧ ¬ OwnI (wipe σ vs) ρc D ∧ KvAll K Gc accV acc ∧
      m = ds.length - i ∧ i ≤ ds.length ∧ dcL vs gd ft fk fv (ds.drop i) acc ρc = T, ⟨ds.length, G1, wipeC ρ1 vs, [], [], Rw.beside hgD nL nI _, ?_, hgD, upd_same, nL, nI, .nil, by omega, Nat.zero_le _, by rw [List.drop_zero]; exact hT⟩, ?_⟩
    · rw [era_upd]
      have e0 : DL.era D H1 = H1 := by
        funext b
        by_cases hb : b = D
        · subst hb; rw [era_same, hD]
        · rw [era_ne hb]
      rw [e0]
      exact Stp.refl
    · rintro i m Hc ⟨Gc, ρc, acc, accV, Rc, Sc, gD, hDc, oL, oI, ha, rfl, hle, heq⟩
      obtain ⟨w1, w2⟩ := hw i Gc Hc Sc.same Rc.gh
      by_cases hi : i < ds.length
      · have hd : ds.drop i = ds[i] :: ds.drop (i + 1) := List.drop_eq_getElem_cons hi
        rw [hd] at heq
        obtain ⟨go, yl⟩ := w1 ds[i] (List.getElem?_eq_getElem hi)
        refine .inr ⟨go, fun H' => ∃ (Gc : Hp) (ρc : DEnv) (acc : List (Key × PyData)) (accV : List (Key × V)), Rel K Gc (wipe σ vs) H' ρc ∧ Stp G1 H1 (wipe σ vs) (wipeC ρ1 vs) Gc (DL.era D H') (wipe σ vs) ρc ∧ Gc D = none ∧ H' D = some (.dK accV) ∧ ¬ OwnL (wipe σ vs) ρc D ∧ ¬ OwnI (wipe σ vs) ρc D ∧ KvAll K Gc accV acc ∧
          dcL vs gd ft fk fv (ds.drop (i + 1)) acc ρc = T, fun H' hN => ?_, fun x H' hy => ?_⟩
        · obtain ⟨a1, a2, a3, a4, b1, b2, b3, b4, b5, b6, b7, b8⟩ := hN
          exact ⟨ds.length - (i + 1), by omega, a1, a2, a3, a4, b1, b2, b3, b4, b5, b6, b7, rfl, hi, b8⟩
        · obtain ⟨G2, gr, hx⟩ := yl x H' hy
          obtain ⟨R2, S2⟩ := gr (wipe σ vs) ρc Rc
          refine ⟨G2, ρc, ds[i], R2, hx, ?_⟩
          unfold dcL at heq
          have dead : T = .bad → False := fun z => by rw [z] at h; exact h
          -- behind a turn
          have after : ∀ {G5 H5 : Hp} {σ5 : St} {ρ5 : DEnv}, Rel K G5 σ5 H5 ρ5 → Stp Gc Hc (wipe σ vs) ρc G5 H5 σ5 ρ5 → wipe σ5 vs = wipe σ vs →
              Rel K G5 (wipe σ vs) H5 (wipeC ρ5 vs) ∧ Stp G1 H1 (wipe σ vs) (wipeC ρ1 vs) G5 (DL.era D H5) (wipe σ vs) (wipeC ρ5 vs) ∧ G5 D = none ∧ H5 D = some (.dK accV) ∧ ¬ OwnL (wipe σ vs) (wipeC ρ5 vs) D ∧ ¬ OwnI (wipe σ vs) (wipeC ρ5 vs) D := fun {G5 H5 σ5 ρ5} R5 S5 hσ => by
            obtain ⟨t1, t2, t3, t4⟩ := S5.track gD hDc oL oI
            have Rn := R5.wiped vs
            rw [hσ] at Rn
            refine ⟨Rn, ?_, t1, t2, fun z => t3 (OwnL.unwiped (vs := vs) (by rw [hσ]; exact z)), fun z => t4 (OwnI.unwiped (vs := vs) (by rw [hσ]; exact z))⟩
            refine Stp.wiped (Sc.trans (S5.era D)) hσ fun j hj o z => ?_
            rcases wipeC_get z with ⟨_, y⟩ | ⟨y, _⟩
            · cases y
            · exact y hj
          cases q : gd ds[i] ρc with
          | none => rw [q] at heq; exact (dead heq.symm).elim
          | some ρ3 =>
            rw [q] at heq
            intro G3 H3 σ3 R3 S3 O3
            have hσ3 : wipe σ3 vs = wipe σ vs := by
              rw [wipe_eq (σ := wipe σ vs) S3.len fun j hj => O3 j fun z => hj (his j z)]
              exact wipe_eq (wipe_length σ vs) fun j hj => wipe_out hj
            refine ⟨hσ3, G3, ρ3, R3, ?_⟩
            cases q4 : ft ρ3 with
            | bad => simp only [q4] at heq; exact (dead heq.symm).elim
            | err x c => simp only [q4] at heq; exact (dead heq.symm).elim
            | ok b ρ4 =>
              intro G4 H4 b' R4 S4 hb
              subst hb
              cases b' with
              | false =>
                simp only [q4] at heq
                refine iteF ?_
                obtain ⟨u1, u2, u3, u4, u5, u6⟩ := after R4 ((S2.trans S3).trans S4) hσ3
                exact ⟨G4, _, acc, accV, u1, u2, u3, u4, u5, u6, KvAll.mono (((S2.trans S3).trans S4).same) ha, heq⟩
              | true =>
                refine iteT ⟨G4, ρ4, R4, ?_⟩
                cases q5 : fk ρ4 with
                | bad => simp only [q4, q5] at heq; exact (dead heq.symm).elim
                | err x c => simp only [q4, q5] at heq; exact (dead heq.symm).elim
                | ok kd ρ5 =>
                  simp only [q4, q5] at heq
                  intro G5 H5 v R5 S5 hv
                  refine ⟨G5, ρ5, R5, ?_⟩
                  cases q6 : fv ρ5 with
                  | bad => simp only [q6] at heq; exact (dead heq.symm).elim
                  | err x c => simp only [q6] at heq; exact (dead heq.symm).elim
                  | ok y ρ6 =>
                    simp only [q6] at heq
                    intro G6 H6 z R6 S6 hz6
                    cases q7 : keyD kd with
                    | none => simp only [q7] at heq; exact (dead heq.symm).elim
                    | some key =>
                      simp only [q7] at heq
                      by_cases hz : acc.length < sizeLine
                      case neg => rw [if_neg hz] at heq; exact (dead heq.symm).elim
                      rw [if_pos hz] at heq
                      obtain ⟨u1, u2, u3, u4, u5, u6⟩ := after R6 ((((S2.trans S3).trans S4).trans S5).trans S6) hσ3
                      have hl := kv_len ha
                      exact ⟨accV, key, keyD_kV hv q7, u4, by omega, G6, _, putD acc key y, putK accV key z, u1.beside u3 u5 u6 _, by rw [era_upd]; exact u2, u3, upd_same, u5, u6, kv_put hz6 (KvAll.mono (((((S2.trans S3).trans S4).trans S5).trans S6).same) ha), heq⟩
      · have e : ds.drop i = [] := List.drop_eq_nil_of_le (by omega)
        rw [e] at heq
        have heq : (Res.ok acc ρc : Res (List (Key × PyData))) = T := heq
        rw [← heq] at h
        obtain ⟨Rn, Sn⟩ := unwiped_ok R1 (Rc.era D gD oL oI) Sc
        have nn : ∀ b, (OwnL σ (unwipe vs ρ1 ρc) b ∨ OwnI σ (unwipe vs ρ1 ρc) b) → b ≠ D := fun b hb z => by
          subst z
          rcases hb with hb | hb
          · obtain ⟨u, hu⟩ := Rn.ownH hb; rw [era_same] at hu; cases hu
          · obtain ⟨u, hu⟩ := Rn.ownHI hb; rw [era_same] at hu; cases hu
        exact .inl ⟨w2 (by omega), h Gc Hc D Rn.unera (S1.trans Sn.unera) gD ⟨accV, hDc, ha⟩ (S1.keep D hD) (fun z => nn D (.inl z) rfl) fun z => nn D (.inr z) rfl⟩
/-- {k: v for tg in iter if ..} -/
theorem f_dc (hp : ∀ wi, PI X tg iter wi → PE X (.DictComp kx vx [⟨tg, iter, ifs, 0⟩] scope pos) (tDc wi (tG X.K is gd) (tT X.K X.mg ft) (tE X.K X.mg fk) (tE X.K X.mg fv) vs)) (his : ∀ j ∈ is, j ∈ vs) (hi : IJ X E tg iter fi) :
    FJ X E (.DictComp kx vx [⟨tg, iter, ifs, 0⟩] scope pos) (fDc vs fi gd ft fk fv) := by
  obtain ⟨wi, qi, pi⟩ := hi
  exact ⟨_, hp wi qi, fun σ G H ρ Q R h => dc_read his pi R h⟩
/-! ### list(a new dict) -/
theorem keys_rp {K : PySem.W.Frag} {G : Hp} : ∀ {vs : List (Key × V)} {kvs : List (Key × PyData)}, KvAll K G vs kvs → RpAll K G (vs.map fun kv => kV kv.1) (kvs.map fun kv => keyDat kv.1)
  | _, _, .nil => .nil
  | (k, v) :: _, (k', d) :: _, .cons h t => by
    obtain ⟨e, _⟩ := h
    cases e
    refine .cons ?_ (keys_rp t)
    cases k with
    | inl i => exact .int i
    | inr x => exact .str x
def fKeys (f : DEnv → Res OD) : DEnv → Res OD := fun ρ => (f ρ).bind fun o ρ1 => match o with
  | .dk kvs => .ok (.lst (kvs.map fun kv => keyDat kv.1)) ρ1
  | _ => .bad
theorem f_listDict {a : Expr} {ff : DEnv → Res OD} {p : Pos} (hc : X.calm = true) (hg : Gl X "list") (hm : X.mg "list" = none) (ha : FJ X E a ff) (na : starEach [a] X.env = (false, eval a X.env) :: starEach [] X.env := by rfl) :
    FJ X E (.Call (.Name "list" p) [a] [] pos) (fKeys ff) := by
  obtain ⟨t, q, pp⟩ := ha
  refine ⟨_, pe_callTy (call_list_dK hc) hg hm (by decide +kernel) (pa_cons q pa_nil na) (by decide) (by decide) na rfl, fun σ G H ρ Q R h => pp σ G H ρ _ R ?_⟩
  unfold fKeys at h
  cases r : ff ρ with
  | bad => rw [r] at h; exact h
  | err x c => rw [r] at h; exact h
  | ok o ρ1 =>
    rw [r, Res.bind_ok] at h
    intro G' H' b R' S' g1 o1 hp n1 n2
    cases o with
    | dk kvs =>
      obtain ⟨vs, hv, hk⟩ := o1
      exact ⟨b, vs, rfl, hv, fun r hr => FPost.new R' (FPost.from S' h) hr ⟨_, upd_same, keys_rp hk⟩⟩
    | _ => exact h.elim
/-! ### key in dict, len(dict) -/
theorem any_valV {κ : Type} [DecidableEq κ] (kvs : List (κ × V)) (k : κ) : (valV kvs k).isSome = kvs.any fun kv => decide (kv.1 = k) := by
  unfold valV
  rw [Option.isSome_map]
  induction kvs with
  | nil => rfl
  | cons kv kvs ih =>
    rw [List.find?_cons, List.any_cons]
    by_cases h : kv.1 = k
    · rw [decide_eq_true h]; rfl
    · rw [decide_eq_false h, Bool.false_or]; exact ih
theorem any_valD {κ : Type} [DecidableEq κ] (kvs : List (κ × PyData)) (k : κ) : (valD kvs k).isSome = kvs.any fun kv => decide (kv.1 = k) := by
  unfold valD
  rw [Option.isSome_map]
  induction kvs with
  | nil => rfl
  | cons kv kvs ih =>
    rw [List.find?_cons, List.any_cons]
    by_cases h : kv.1 = k
    · rw [decide_eq_true h]; rfl
    · rw [decide_eq_false h, Bool.false_or]; exact ih
def dInK (neg : Bool) (i : Nat) (f : DEnv → Res PyData) : DEnv → Res PyData := fun ρ => (f ρ).bind fun y ρ1 => match hobj i ρ1 with
  | some (.dk kvs) => match keyD y with
    | some k => .ok (.bool (if neg then !(valD kvs k).isSome else (valD kvs k).isSome)) ρ1
    | none => .bad
  | _ => .bad
theorem inK_read {neg : Bool} {i : Nat} {fa : DEnv → Res PyData} {t : TE} {σ : St} {G H : Hp} {ρ : DEnv} {Q : VK} (p : ∀ σ G H ρ Q, Rel X.K G σ H ρ → EPost X E σ G H ρ Q (fa ρ) → t σ H Q) (R : Rel X.K G σ H ρ) (h : EPost X E σ G H ρ Q (dInK neg i fa ρ)) :
    t σ H fun y H1 => tVar i σ H1 fun x H2 => ∃ a o, x = .ref a ∧ DGet H2 a y o ∧ Q (.bl (if neg then !o.isSome else o.isSome)) H2 := by
  refine p σ G H ρ _ R (Post.bind h fun G1 H1 y d ρ1 R1 S1 hy h1 => ?_)
  cases q0 : hobj i ρ1 with
  | none => rw [q0] at h1; exact h1.elim
  | some o =>
    rw [q0] at h1
    obtain ⟨b1, f0, g1, o1, _⟩ := R1.hobjAny q0
    refine ⟨.ref b1, f0, ?_⟩
    cases o with
    | dk kvs =>
      obtain ⟨vs, u1, u2⟩ := o1
      cases q1 : keyD d with
      | none => simp only [q1] at h1; exact h1.elim
      | some k =>
        simp only [q1] at h1
        refine ⟨b1, valV vs k, rfl, .inl ⟨vs, k, .inl u1, keyD_kV hy q1, rfl⟩, ?_⟩
        rw [any_valV, kv_any u2, ← any_valD]
        exact Post.done R1 h1 (.bl _)
    | _ => exact h1.elim
theorem e_inK {x : Str} {px : Pos} (i : Nat) {a : Expr} {fa : DEnv → Res PyData} (hu : X.A.units + 1 < cLine) (ha : EJ X E a fa) (hx : PE X (.Name x px) (tVar i)) (h1 : behindInMarks .In (.Name x px) = false) : EJ X E (.Compare a [.In] [.Name x px] pos) (dInK false i fa) := by
  obtain ⟨t, q, p⟩ := ha
  exact ⟨_, pe_cmp (pc_din hu q hx) h1, fun σ G H ρ Q R h => inK_read p R h⟩
theorem e_notInK {x : Str} {px : Pos} (i : Nat) {a : Expr} {fa : DEnv → Res PyData} (hu : X.A.units + 1 < cLine) (ha : EJ X E a fa) (hx : PE X (.Name x px) (tVar i)) (h1 : behindInMarks .NotIn (.Name x px) = false) : EJ X E (.Compare a [.NotIn] [.Name x px] pos) (dInK true i fa) := by
  obtain ⟨t, q, p⟩ := ha
  exact ⟨_, pe_cmp (pc_dnotin hu q hx) h1, fun σ G H ρ Q R h => inK_read p R h⟩
theorem t_inK {x : Str} {px : Pos} (i : Nat) {a : Expr} {fa : DEnv → Res PyData} (hu : X.A.units + 1 < cLine) (ha : EJ X E a fa) (hx : PE X (.Name x px) (tVar i)) (h1 : behindInMarks .In (.Name x px) = false) : TJ X E (.Compare a [.In] [.Name x px] pos) (tOf (dInK false i fa)) := by
  obtain ⟨t, q, p⟩ := ha
  refine ⟨_, pt_cmp (pc_din hu q hx) h1, fun σ G H ρ Q R h => inK_read (neg := false) (Q := fun x H1 => ∃ b, x = V.bl b ∧ Q b H1) p R (Post.bind h fun G1 H1 y d ρ1 R1 S1 hy h1 => ?_)⟩
  cases d with
  | bool k => cases hy; exact ⟨k, rfl, Post.done R1 h1 rfl⟩
  | _ => exact h1.elim
theorem t_notInK {x : Str} {px : Pos} (i : Nat) {a : Expr} {fa : DEnv → Res PyData} (hu : X.A.units + 1 < cLine) (ha : EJ X E a fa) (hx : PE X (.Name x px) (tVar i)) (h1 : behindInMarks .NotIn (.Name x px) = false) : TJ X E (.Compare a [.NotIn] [.Name x px] pos) (tOf (dInK true i fa)) := by
  obtain ⟨t, q, p⟩ := ha
  refine ⟨_, pt_cmp (pc_dnotin hu q hx) h1, fun σ G H ρ Q R h => inK_read (neg := true) (Q := fun x H1 => ∃ b, x = V.bl b ∧ Q b H1) p R (Post.bind h fun G1 H1 y d ρ1 R1 S1 hy h1 => ?_)⟩
  cases d with
  | bool k => cases hy; exact ⟨k, rfl, Post.done R1 h1 rfl⟩
  | _ => exact h1.elim
def dLenK (i : Nat) : DEnv → Res PyData := fun ρ => match hobj i ρ with
  | some (.dk kvs) => .ok (.int (kvs.length : Nat)) ρ
  | _ => .bad
theorem e_lenK {x : Str} {px p : Pos} (i : Nat) (hg : Gl X "len") (hm : X.mg "len" = none) (hx : PE X (.Name x px) (tVar i)) (na : starEach [.Name x px] X.env = (false, eval (.Name x px) X.env) :: starEach [] X.env := by rfl) : EJ X E (.Call (.Name "len" p) [.Name x px] [] pos) (dLenK i) := by
  refine ⟨_, pe_callB call_lenD hg hm (by decide +kernel) (pa_cons hx pa_nil na) (he := na), fun σ G H ρ Q R h => ?_⟩
  unfold dLenK at h
  cases q0 : hobj i ρ with
  | none => rw [q0] at h; exact h.elim
  | some o =>
    rw [q0] at h
    obtain ⟨b1, f0, g1, o1, _⟩ := R.hobjAny q0
    cases o with
    | dk kvs =>
      obtain ⟨vs, u1, u2⟩ := o1
      refine ⟨.ref b1, f0, b1, vs, rfl, u1, ?_⟩
      rw [kv_len u2]
      exact Post.done R h (.int _)
    | _ => exact h.elim
/-! ### name += a new list -/
def sExt (i : Nat) (f : DEnv → Res OD) : DEnv → Res Out := fun ρ => if isHeld i ρ = true then (f ρ).bind fun o ρ1 => match heldL i ρ1, o with
  | some ds, .lst es => if ds.length + es.length ≤ sizeLine then .ok .nx (setHeld i (.lst (ds ++ es)) ρ1) else .bad
  | _, _ => .bad else .bad
theorem ip_ext : PIp X .Add rExt2 := iop_ext
theorem s_ext {x : Str} {px : Pos} {a : Expr} {ff : DEnv → Res OD} (i : Nat) (ha : FJ X E a ff) (hp : ∀ te, PE X a te → PS X (.AugAssign (.Name x px) .Add a pos) (tAug i te rExt2)) : SJ X E (.AugAssign (.Name x px) .Add a pos) (sExt i ff) := by
  obtain ⟨t, q, p⟩ := ha
  refine ⟨_, hp _ q, fun σ G H ρ D R h => ?_⟩
  unfold sExt at h
  by_cases hc : isHeld i ρ = true
  case neg => rw [if_neg hc] at h; exact h.elim
  rw [if_pos hc] at h
  obtain ⟨ds0, hh⟩ := isHeld_some hc
  obtain ⟨b, vs, e0, e1, e2⟩ := R.held hh
  refine ⟨.ref b, e0, p σ G H ρ _ R ?_⟩
  cases r : ff ρ with
  | bad => rw [r] at h; exact h
  | err x c => rw [r] at h; exact fun G' H' c od R' S' z => h G' H' σ c od R' S' z
  | ok o ρ1 =>
    rw [r, Res.bind_ok] at h
    intro G1 H1 p1 R1 S1 g1 o1 hp1 n1 n2
    cases q1 : heldL i ρ1 with
    | none => rw [q1] at h; exact h.elim
    | some ds =>
      cases o with
      | lst es =>
        simp only [q1] at h
        obtain ⟨b1, vs1, f0, f1, f2, f3⟩ := R1.heldAny q1
        rw [e0] at f0
        cases f0
        obtain ⟨vs2, h1, h2⟩ := o1
        by_cases hz : ds.length + es.length ≤ sizeLine
        case neg => rw [if_neg hz] at h; exact h.elim
        rw [if_pos hz] at h
        have l1 := RpAll.len f2
        have l2 := RpAll.len h2
        obtain ⟨R3, S3⟩ := f3 (.lst (ds ++ es)) (.lst (vs1 ++ vs2)) ⟨_, upd_same, RpAll.app f2 h2⟩
        refine ⟨b, p1, vs1, vs2, rfl, rfl, f1, h1, by omega, ?_⟩
        have eσ : σ.set i (some (.ref b)) = σ := by
          apply List.ext_getElem?
          intro j
          by_cases hj : j = i
          · subst hj
            rw [e0, List.getElem?_set_self (List.getElem?_eq_some_iff.mp e0).1]
          · rw [List.getElem?_set_ne (fun z => hj z.symm)]
        show D.nx (σ.set i (some (.ref b))) _
        rw [eσ]
        exact h _ _ _ R3 (S1.trans S3)
      | _ => simp only [q1] at h; exact h.elim
end
/-! ### the reckoning -/
section
variable {Z : Exn → DEnv → Prop} (ρ : DEnv) (Q : PyData → DEnv → Prop) (S : Out → DEnv → Prop) (O : OD → DEnv → Prop)
theorem wp_dc (vs : List Nat) (fi : DEnv → Res (List PyData)) (gd : PyData → DEnv → Option DEnv) (ft : DEnv → Res Bool) (fk fv : DEnv → Res PyData) : WpX Z (fDc vs fi gd ft fk fv ρ) O = WpX Z (fi ρ) fun ds ρ1 => WpX Zn (dcL vs gd ft fk fv ds [] (wipeC ρ1 vs)) fun acc ρ2 => O (.dk acc) (unwipe vs ρ1 ρ2) := by
  unfold fDc
  rw [wp_bind]
  congr 1
  funext ds ρ1
  cases dcL vs gd ft fk fv ds [] (wipeC ρ1 vs) with
  | ok a ρ2 => rw [wp_ok, wp_ok]
  | err x c => rw [wpq]; rfl
  | bad => rw [wpq]; rfl
theorem wp_keys (f : DEnv → Res OD) : WpX Z (fKeys f ρ) O = WpX Z (f ρ) fun o ρ1 => dkQ (fun kvs => O (.lst (kvs.map fun kv => keyDat kv.1)) ρ1) (some o) := by
  unfold fKeys
  rw [wp_bind]
  congr 1
  funext o ρ1
  cases o with
  | dk kvs => exact wp_ok _ _ _
  | _ => exact wp_bad _
theorem wp_inK (neg : Bool) (i : Nat) (f : DEnv → Res PyData) : WpX Z (dInK neg i f ρ) Q = WpX Z (f ρ) fun y ρ1 => dkQ (fun kvs => keyQ (fun k => Q (.bool (if neg then !(valD kvs k).isSome else (valD kvs k).isSome)) ρ1) (keyD y)) (hobj i ρ1) := by
  unfold dInK
  rw [wp_bind]
  congr 1
  funext y ρ1
  cases hobj i ρ1 with
  | none => exact wp_bad _
  | some o =>
    cases o with
    | dk kvs =>
      show WpX Z (match keyD y with
        | some k => .ok (.bool (if neg then !(valD kvs k).isSome else (valD kvs k).isSome)) ρ1
        | none => .bad) Q = keyQ _ (keyD y)
      cases keyD y with
      | none => exact wp_bad _
      | some k => exact wp_ok _ _ _
    | _ => exact wp_bad _
theorem wp_lenK (i : Nat) : WpX Z (dLenK i ρ) Q = dkQ (fun kvs => Q (.int (kvs.length : Nat)) ρ) (hobj i ρ) := by
  unfold dLenK
  cases hobj i ρ with
  | none => exact wp_bad _
  | some o =>
    cases o with
    | dk kvs => exact wp_ok _ _ _
    | _ => exact wp_bad _
def lstQ (K : List PyData → Prop) : OD → Prop
  | .lst es => K es
  | _ => False
theorem lstQ_lst (K : List PyData → Prop) (es : List PyData) : lstQ K (.lst es) = K es := rfl
theorem ws_ext (i : Nat) (f : DEnv → Res OD) : WpX Z (sExt i f ρ) S = (isHeld i ρ = true ∧ WpX Z (f ρ) fun o ρ1 => heldQ (fun ds => lstQ (fun es => ds.length + es.length ≤ sizeLine ∧ S .nx (setHeld i (.lst (ds ++ es)) ρ1)) o) (heldL i ρ1)) := by
  unfold sExt
  rw [wp_guard, wp_bind]
  congr 1
  congr 1
  funext o ρ1
  cases heldL i ρ1 with
  | none => exact wp_bad _
  | some ds =>
    cases o with
    | lst es => exact (wp_guard _ _).trans (congrArg _ (wp_ok _ _ _))
    | _ => exact wp_bad _
end
theorem mergeD_snoc (ps : List (Key × PyData)) (kv : Key × PyData) (acc : List (Key × PyData)) : mergeD acc (ps ++ [kv]) = putD (mergeD acc ps) kv.1 kv.2 := by
  unfold mergeD
  rw [List.foldl_append]
  rfl
theorem putD_length (kvs : List (Key × PyData)) (k : Key) (d : PyData) : (putD kvs k d).length ≤ kvs.length + 1 := by
  unfold putD
  split
  · rw [List.length_map]; omega
  · rw [List.length_append]; exact Nat.le_refl _
theorem mergeD_length : ∀ (ps acc : List (Key × PyData)), (mergeD acc ps).length ≤ acc.length + ps.length
  | [], acc => Nat.le_refl _
  | p :: ps, acc => by
    have h1 := mergeD_length ps (putD acc p.1 p.2)
    have h2 := putD_length acc p.1 p.2
    show (mergeD (putD acc p.1 p.2) ps).length ≤ acc.length + (ps.length + 1)
    omega
/-- a dict comprehension that leaves the cells as they are: its keys and values, one behind the other -/
theorem wp_dcMap {vs : List Nat} {gd : PyData → DEnv → Option DEnv} {fk fv : DEnv → Res PyData} {L : List (Key × PyData) → DEnv → Prop} {ds : List PyData} {ρ : DEnv} (ps : List (Key × PyData)) (hl : ps.length = ds.length) (hz : ds.length ≤ sizeLine)
    (st : ∀ (i : Nat) (d : PyData) (kv : Key × PyData), ds[i]? = some d → ps[i]? = some kv → ∃ ρ1, gd d ρ = some ρ1 ∧ WpX Zn (fk ρ1) fun y ρ2 => keyD y = some kv.1 ∧ WpX Zn (fv ρ2) fun z ρ3 => z = kv.2 ∧ wipeC ρ3 vs = ρ)
    (fin : L (mergeD [] ps) ρ) : WpX Zn (dcL vs gd tTrue fk fv ds [] ρ) L := by
  have go : ∀ (m n : Nat), n + m = ds.length → WpX Zn (dcL vs gd tTrue fk fv (ds.drop n) (mergeD [] (ps.take n)) ρ) L := by
    intro m
    induction m with
    | zero =>
      intro n hn
      rw [List.drop_eq_nil_of_le (by omega), List.take_of_length_le (by omega)]
      exact .ok rfl fin
    | succ m ih =>
      intro n hn
      have h1 : n < ds.length := by omega
      have h2 : n < ps.length := by omega
      obtain ⟨ρ1, e1, w⟩ := st n ds[n] ps[n] (List.getElem?_eq_getElem h1) (List.getElem?_eq_getElem h2)
      obtain ⟨y, ρ2, e2, k1, w⟩ := w.get
      obtain ⟨z, ρ3, e3, rfl, k2⟩ := w.get
      have hm := mergeD_length (ps.take n) []
      rw [List.length_take] at hm
      have e4 : dcL vs gd tTrue fk fv (ds.drop n) (mergeD [] (ps.take n)) ρ = dcL vs gd tTrue fk fv (ds.drop (n + 1)) (mergeD [] (ps.take (n + 1))) ρ := by
        rw [List.drop_eq_getElem_cons h1, dcL, e1]
        show (match fk ρ1 with
          | .ok kd ρ3 => match fv ρ3 with
            | .ok y ρ4 => match keyD kd with
              | some k => if (mergeD [] (ps.take n)).length < sizeLine then dcL vs gd tTrue fk fv (ds.drop (n + 1)) (putD (mergeD [] (ps.take n)) k y) (wipeC ρ4 vs) else .bad
              | none => .bad
            | _ => .bad
          | _ => .bad) = _
        rw [e2]
        simp only [e3, k1]
        rw [if_pos (by show (mergeD [] (ps.take n)).length < sizeLine; have : ([] : List (Key × PyData)).length = 0 := rfl; omega), k2, ← mergeD_snoc, List.take_add_one, List.getElem?_eq_getElem h2]
        rfl
      rw [e4]
      exact ih (n + 1) (by omega)
  have := go ds.length 0 (Nat.zero_add _)
  exact this
end DL

set_option Elab.async false
set_option linter.all false
set_option maxRecDepth 100000
set_option maxHeartbeats 4000000
/-! DL part 23: loops and comprehensions over a list that is held (not given away). -/
namespace DL
open PySem PySem.Spec PyProof.Rows L2

/-! ### an own object is lent for a while -/
def lend (i : Nat) (ρ : DEnv) : DEnv := match ρ[i]? with
  | some (.own o) => ρ.set i (.io o)
  | _ => ρ
/-- back: cell i is own again -/
def ownAgain (i : Nat) (ρ : DEnv) : DEnv := match ρ[i]? with
  | some (.io o) => ρ.set i (.own o)
  | _ => ρ
theorem Rel.swap {K : PySem.W.Frag} {G H : Hp} {σ : St} {ρ : DEnv} {i : Nat} {c c' : Cell} (R : Rel K G σ H ρ) (h : ρ[i]? = some c) (hok : ∀ v, CellOk K G H v c → CellOk K G H v c') (hown : c'.isOwn = true → c.isOwn = true) : Rel K G σ H (ρ.set i c') := by
  have hi := (List.getElem?_eq_some_iff.mp h).1
  have get : ∀ {j : Nat} {d : Cell}, (ρ.set i c')[j]? = some d → (j = i ∧ d = c') ∨ (j ≠ i ∧ ρ[j]? = some d) := fun {j d} e => by
    by_cases hj : j = i
    · subst hj
      rw [List.getElem?_set_self hi] at e
      cases e
      exact .inl ⟨rfl, rfl⟩
    · rw [List.getElem?_set_ne (fun z => hj z.symm)] at e
      exact .inr ⟨hj, e⟩
  have at' : ∀ {j : Nat} {p : Addr}, At σ (ρ.set i c') j p → At σ ρ j p := fun {j p} hA => by
    obtain ⟨a1, d, a2, a3⟩ := hA
    rcases get a2 with ⟨rfl, rfl⟩ | ⟨_, e⟩
    · exact ⟨a1, c, h, hown a3⟩
    · exact ⟨a1, d, e, a3⟩
  refine ⟨R.gh, by rw [List.length_set]; exact R.len, fun j d e => ?_, fun j k p hjk h1 h2 => R.sep j k p hjk (at' h1) (at' h2)⟩
  rcases get e with ⟨rfl, rfl⟩ | ⟨_, e⟩
  · obtain ⟨v, e1, q⟩ := R.cell j c h
    exact ⟨v, e1, hok v q⟩
  · exact R.cell j d e
theorem set_own_get {ρ : DEnv} {i j : Nat} {c d : Cell} (h : (ρ.set i c)[j]? = some d) : (j = i ∧ d = c) ∨ (j ≠ i ∧ ρ[j]? = some d) := by
  by_cases hj : j = i
  · subst hj
    by_cases hi : j < ρ.length
    · rw [List.getElem?_set_self hi] at h
      cases h
      exact .inl ⟨rfl, rfl⟩
    · rw [List.getElem?_eq_none (by rw [List.length_set]; omega)] at h
      cases h
  · rw [List.getElem?_set_ne (fun z => hj z.symm)] at h
    exact .inr ⟨hj, h⟩
/-- what a part leaves with the object lent, it leaves with the object own -/
theorem Stp.unlend {G H G' H' : Hp} {σ σ' : St} {ρ ρ' : DEnv} {i : Nat} {o o' : OD} {p : Addr} (ho : ρ[i]? = some (.own o)) (hp : σ[i]? = some (some (.ref p))) (ho' : ρ'[i]? = some (.io o')) (S : Stp G H σ (ρ.set i (.io o)) G' H' σ' ρ') : Stp G H σ ρ G' H' σ' (ρ'.set i (.own o')) := by
  have hi := (List.getElem?_eq_some_iff.mp ho).1
  have hii : (ρ.set i (.io o))[i]? = some (.io o) := List.getElem?_set_self hi
  obtain ⟨hσ, _⟩ := S.io i o hii
  have ol : ∀ {b}, OwnL σ (ρ.set i (.io o)) b → OwnL σ ρ b := fun {b} z => by
    obtain ⟨j, o1, e1, e2⟩ := z
    rcases set_own_get e1 with ⟨_, z⟩ | ⟨_, e⟩
    · cases z
    · exact ⟨j, o1, e, e2⟩
  have oi : ∀ {b}, OwnI σ (ρ.set i (.io o)) b → OwnI σ ρ b ∨ OwnL σ ρ b := fun {b} z => by
    obtain ⟨j, o1, e1, e2⟩ := z
    rcases set_own_get e1 with ⟨rfl, z⟩ | ⟨_, e⟩
    · exact .inr ⟨j, o, ho, e2⟩
    · exact .inl ⟨j, o1, e, e2⟩
  refine ⟨S.same, fun b u e n1 n2 => S.frame b u e (fun z => n1 (ol z)) fun z => (oi z).elim n2 n1, S.keep, fun b u e => (S.fresh b u e).elim .inl fun z => z.elim (fun z => .inr (.inl z)) fun z => .inr (.inr (ol z)), fun b z => ?_, fun j o1 e => ?_, fun j o1 e => ?_, S.len⟩
  · obtain ⟨j, o1, e1, e2⟩ := z
    rcases set_own_get e1 with ⟨rfl, z⟩ | ⟨_, e⟩
    · rw [hσ] at e2
      exact .inl ⟨j, o, ho, e2⟩
    · exact (S.ownl b ⟨j, o1, e, e2⟩).elim (fun z => .inl (ol z)) .inr
  · have hj : j ≠ i := fun z => by subst z; rw [ho] at e; cases e
    have e' : (ρ.set i (.io o))[j]? = some (.io o1) := by rw [List.getElem?_set_ne (fun z => hj z.symm)]; exact e
    obtain ⟨z1, o2, z2⟩ := S.io j o1 e'
    exact ⟨z1, o2, by rw [List.getElem?_set_ne (fun z => hj z.symm)]; exact z2⟩
  · rcases set_own_get e with ⟨_, z⟩ | ⟨hj, e⟩
    · cases z
    · obtain ⟨o2, z⟩ := S.oi j o1 e
      rcases set_own_get z with ⟨q, _⟩ | ⟨_, z⟩
      · exact absurd q hj
      · exact ⟨o2, z⟩
def forH (i : Nat) (gd : PyData → DEnv → Option DEnv) (fb : DEnv → Res Out) : Nat → Nat → DEnv → Res Out
  | 0, _, _ => .bad
  | n + 1, j, ρ => match heldL i ρ with
    | none => .bad
    | some ds => match ds[j]? with
      | none => .ok .nx ρ
      | some d => match gd d ρ with
        | none => .bad
        | some ρ1 => match fb ρ1 with
          | .ok .nx ρ2 => forH i gd fb n (j + 1) ρ2
          | .ok .ct ρ2 => forH i gd fb n (j + 1) ρ2
          | .ok .bk ρ2 => .ok .nx ρ2
          | .ok (.rt v) ρ2 => .ok (.rt v) ρ2
          | .err x ρ2 => .err x ρ2
          | .bad => .bad
def backR (i : Nat) : Res Out → Res Out
  | .ok o ρ => match ρ[i]? with
    | some (.io _) => .ok o (ownAgain i ρ)
    | _ => .bad
  | .err _ _ => .bad
  | .bad => .bad
/-- for tg in (the own list in slot i): it is lent to the body -/
def sForH (i : Nat) (gd : PyData → DEnv → Option DEnv) (fb : DEnv → Res Out) : DEnv → Res Out := fun ρ => match ρ[i]? with
  | some (.own (.lst _)) => backR i (forH i gd fb (sizeLine + 1) 0 (lend i ρ))
  | _ => .bad
theorem ownAgain_io {i : Nat} {ρ : DEnv} {o : OD} (h : ρ[i]? = some (.io o)) : ownAgain i ρ = ρ.set i (.own o) := by unfold ownAgain; rw [h]
theorem lend_own {i : Nat} {ρ : DEnv} {o : OD} (h : ρ[i]? = some (.own o)) : lend i ρ = ρ.set i (.io o) := by unfold lend; rw [h]
theorem s_forH {X : Cx} {E : WX} {tg : Expr} {body : List Stmt} {pos px : Pos} {x : Str} {is : List Nat} {gd : PyData → DEnv → Option DEnv} {f : DEnv → Res Out} (i : Nat) (hx : PE X (.Name x px) (tVar i))
    (hp : ∀ wi gt tb, PI X tg (.Name x px) wi → PG X tg gt → PSs X body tb → PS X (.For tg (.Name x px) body [] pos) (tFor wi gt tb)) (hg : GJ X tg is gd) (hb : BJ X E body f) : SJ X E (.For tg (.Name x px) body [] pos) (sForH i gd f) := by
  obtain ⟨gt, qg, pg⟩ := hg
  obtain ⟨tb, qb, pb⟩ := hb
  refine ⟨_, hp _ _ _ (pi_list hx) qg qb, fun σ0 G0 H0 ρ0 D R h => ?_⟩
  unfold sForH at h
  cases c0 : ρ0[i]? with
  | none => rw [c0] at h; exact h.elim
  | some cl =>
    rw [c0] at h
    cases cl with
    | own o =>
      cases o with
      | lst ds0 =>
        obtain ⟨v0, e0, p, rfl, g0, vs0, hv0, hr0⟩ := R.cell i _ c0
        have h : SPost X.K X.mg E D σ0 G0 H0 ρ0 (backR i (forH i gd f (sizeLine + 1) 0 (lend i ρ0))) := h
        rw [lend_own c0] at h
        have Rl : Rel X.K G0 σ0 H0 (ρ0.set i (.io (.lst ds0))) := R.swap c0 (fun v q => q) fun _ => rfl
        have hli : (ρ0.set i (.io (.lst ds0)))[i]? = some (.io (.lst ds0)) := List.getElem?_set_self (List.getElem?_eq_some_iff.mp c0).1
        generalize hρl : ρ0.set i (.io (.lst ds0)) = ρl at h Rl hli
        generalize hT : backR i (forH i gd f (sizeLine + 1) 0 ρl) = T at h
        have dead : T = .bad → False := fun z => by rw [z] at h; exact h
        -- behind the loop
        have fin : ∀ {o : Out} {G H : Hp} {σ : St} {ρ : DEnv}, Rel X.K G σ H ρ → Stp G0 H0 σ0 ρl G H σ ρ → backR i (.ok o ρ) = T → ∃ ρ', T = .ok o ρ' ∧ Rel X.K G σ H ρ' ∧ Stp G0 H0 σ0 ρ0 G H σ ρ' := fun {o G H σ ρ} R2 S2 e => by
          obtain ⟨_, o', ho'⟩ := S2.io i _ hli
          unfold backR at e
          simp only [ho'] at e
          refine ⟨_, e.symm, ?_, ?_⟩
          · rw [ownAgain_io ho']
            exact R2.swap ho' (fun v q => q) fun _ => rfl
          · rw [ownAgain_io ho']
            rw [← hρl] at S2
            exact Stp.unlend c0 e0 ho' S2
        refine ⟨.ref p, e0, p, rfl, ⟨vs0, SqL.of hv0⟩, fun j m σ H => ∃ G ρ, Rel X.K G σ H ρ ∧ Stp G0 H0 σ0 ρl G H σ ρ ∧ backR i (forH i gd f m j ρ) = T, ⟨sizeLine + 1, G0, ρl, Rl, Stp.refl, hT⟩, fun j m σ H hW => ?_⟩
        obtain ⟨G, ρ, R2, S2, eT⟩ := hW
        obtain ⟨hσ, o', ho'⟩ := S2.io i _ hli
        obtain ⟨v2, e2, p2, rfl, g2, own2⟩ := R2.cell i _ ho'
        rw [hσ, e0] at e2
        cases e2
        cases m with
        | zero => exact (dead eT.symm).elim
        | succ n =>
          unfold forH at eT
          cases o' with
          | lst ds =>
            obtain ⟨vs, hv, hr⟩ := own2
            have hh : heldL i ρ = some ds := by unfold heldL; rw [ho']
            rw [hh] at eT
            simp only at eT
            have hl := RpAll.len hr
            cases q : ds[j]? with
            | none =>
              rw [q] at eT
              have hj : ds.length ≤ j := List.getElem?_eq_none_iff.mp q
              obtain ⟨ρ', t1, t2, t3⟩ := fin R2 S2 eT
              rw [t1] at h
              exact .inl ⟨⟨vs, SqL.of hv, by omega⟩, h G H σ t2 t3⟩
            | some d =>
              rw [q] at eT
              simp only at eT
              obtain ⟨v, w1, w2⟩ := RpAll.get hr q
              refine .inr ⟨⟨vs, v, SqL.of hv, w1⟩, fun σ' H' => ∃ G ρ, Rel X.K G σ' H' ρ ∧ Stp G0 H0 σ0 ρl G H' σ' ρ ∧ backR i (forH i gd f n (j + 1) ρ) = T, fun σ' H' hN => ?_, fun xv H' hy => ?_⟩
              · obtain ⟨G', ρ', R', S', e'⟩ := hN
                exact ⟨n, Nat.lt_succ_self n, G', ρ', R', S', e'⟩
              · obtain ⟨rfl, hy⟩ := hy
                have ev : xv = v := by
                  have := hy vs (SqL.of hv)
                  rw [w1] at this
                  exact (Option.some.inj this).symm
                subst ev
                refine pg σ G H' ρ xv d _ R2 w2 ?_
                cases q3 : gd d ρ with
                | none => rw [q3] at eT; exact (dead eT.symm).elim
                | some ρ4 =>
                  rw [q3] at eT
                  simp only at eT
                  intro G4 H4 σ4 R4 S4 _
                  refine pb σ4 G4 H4 ρ4 _ R4 ?_
                  cases q5 : f ρ4 with
                  | bad => simp only [q5] at eT; exact (dead eT.symm).elim
                  | err x ρ5 => simp only [q5] at eT; exact (dead eT.symm).elim
                  | ok o5 ρ5 =>
                    cases o5 with
                    | nx => simp only [q5] at eT; exact fun G5 H5 σ5 R5 S5 => ⟨G5, ρ5, R5, (S2.trans S4).trans S5, eT⟩
                    | ct => simp only [q5] at eT; exact fun G5 H5 σ5 R5 S5 => ⟨G5, ρ5, R5, (S2.trans S4).trans S5, eT⟩
                    | bk =>
                      simp only [q5] at eT
                      intro G5 H5 σ5 R5 S5
                      obtain ⟨ρ', t1, t2, t3⟩ := fin R5 ((S2.trans S4).trans S5) eT
                      rw [t1] at h
                      exact h G5 H5 σ5 t2 t3
                    | rt d5 =>
                      simp only [q5] at eT
                      intro G5 H5 σ5 v5 R5 S5 hv5
                      obtain ⟨ρ', t1, t2, t3⟩ := fin R5 ((S2.trans S4).trans S5) eT
                      rw [t1] at h
                      exact h G5 H5 σ5 v5 t2 t3 hv5
          | dk kvs =>
            have hh : heldL i ρ = none := by unfold heldL; rw [ho']
            rw [hh] at eT
            exact (dead eT.symm).elim
          | dt kvs =>
            have hh : heldL i ρ = none := by unfold heldL; rw [ho']
            rw [hh] at eT
            exact (dead eT.symm).elim
          | ins c fs =>
            have hh : heldL i ρ = none := by unfold heldL; rw [ho']
            rw [hh] at eT
            exact (dead eT.symm).elim
          | dn kvs =>
            have hh : heldL i ρ = none := by unfold heldL; rw [ho']
            rw [hh] at eT
            exact (dead eT.symm).elim
          | ts _ _ _ =>
            have hh : heldL i ρ = none := by unfold heldL; rw [ho']
            rw [hh] at eT
            exact (dead eT.symm).elim
      | _ => exact h.elim
    | _ => exact h.elim
/-! ### comprehensions over a held list -/
def lcH (i : Nat) (vs : List Nat) (gd : PyData → DEnv → Option DEnv) (ft : DEnv → Res Bool) (fe : DEnv → Res PyData) : Nat → Nat → List PyData → DEnv → Res (List PyData)
  | 0, _, _, _ => .bad
  | n + 1, j, acc, ρ => match heldL i ρ with
    | none => .bad
    | some ds => match ds[j]? with
      | none => .ok acc ρ
      | some d => match gd d ρ with
        | none => .bad
        | some ρ1 => match ft ρ1 with
          | .ok true ρ2 => match fe ρ2 with
            | .ok y ρ3 => if acc.length < sizeLine then lcH i vs gd ft fe n (j + 1) (acc ++ [y]) (wipeC ρ3 vs) else .bad
            | _ => .bad
          | .ok false ρ2 => lcH i vs gd ft fe n (j + 1) acc (wipeC ρ2 vs)
          | _ => .bad
def fLcH (i : Nat) (vs : List Nat) (gd : PyData → DEnv → Option DEnv) (ft : DEnv → Res Bool) (fe : DEnv → Res PyData) : DEnv → Res OD := fun ρ => if isHeld i ρ = true then match lcH i vs gd ft fe (sizeLine + 1) 0 [] (wipeC ρ vs) with
  | .ok acc ρ2 => .ok (.lst acc) (unwipe vs ρ ρ2)
  | _ => .bad else .bad
section
variable {X : Cx} {E : WX} {e tg elt : Expr} {ifs : List Expr} {scope : Scope} {fe : DEnv → Res PyData} {ft : DEnv → Res Bool} {gd : PyData → DEnv → Option DEnv} {pos px : Pos} {vs is : List Nat} {x : Str}
theorem lcH_read {K : PySem.W.Frag} {mg : Str → Option Value} {σ : St} {G H : Hp} {ρ : DEnv} {Q : VK} {i : Nat} (hi : i ∉ vs) (his : ∀ j ∈ is, j ∈ vs) (R : Rel K G σ H ρ) (h : FPost K mg E σ G H ρ Q (fLcH i vs gd ft fe ρ)) :
    tLc (iList K (tVar i)) (tG K is gd) (tT K mg ft) (tE K mg fe) vs σ H Q := by
  unfold fLcH at h
  by_cases hc : isHeld i ρ = true
  case neg => rw [if_neg hc] at h; exact h.elim
  rw [if_pos hc] at h
  obtain ⟨ds0, hh⟩ := isHeld_some hc
  obtain ⟨pa, va0, ea0, hva0, hra0⟩ := R.held hh
  generalize hT : lcH i vs gd ft fe (sizeLine + 1) 0 [] (wipeC ρ vs) = T at h
  refine ⟨.ref pa, ea0, pa, rfl, ⟨va0, SqL.of hva0⟩, fun D hD => ?_⟩
  have R1 := R
  have S1 : Stp G H σ ρ G H σ ρ := Stp.refl
  have hgD : G D = none := R1.noneG hD
  have nL1 : ¬ OwnL σ ρ D := fun z => by obtain ⟨u, hu⟩ := R1.ownH z; rw [hD] at hu; cases hu
  have nI1 : ¬ OwnI σ ρ D := fun z => by obtain ⟨u, hu⟩ := R1.ownHI z; rw [hD] at hu; cases hu
  have Rw := R1.wiped vs
  have nL : ¬ OwnL (wipe σ vs) (wipeC ρ vs) D := fun z => nL1 z.unwiped
  have nI : ¬ OwnI (wipe σ vs) (wipeC ρ vs) D := fun z => nI1 z.unwiped
  refine ⟨fun j m Hc => ∃ (Gc : Hp) (ρc : DEnv) (acc : List PyData) (accV : List V), Rel K Gc (wipe σ vs) Hc ρc ∧ Stp G H (wipe σ vs) (wipeC ρ vs) Gc (DL.era D Hc) (wipe σ vs) ρc ∧ Gc D = none ∧ Hc D = some (.lst accV) ∧ ¬ OwnL (wipe σ vs) ρc D ∧ ¬ OwnI (wipe σ vs) ρc D ∧ RpAll K Gc accV acc ∧
    lcH i vs gd ft fe m j acc ρc = T, ⟨sizeLine + 1, G, wipeC ρ vs, [], [], Rw.beside hgD nL nI _, ?_, hgD, upd_same, nL, nI, .nil, hT⟩, ?_⟩
  · rw [era_upd]
    have e0 : DL.era D H = H := by
      funext b
      by_cases hb : b = D
      · subst hb; rw [era_same, hD]
      · rw [era_ne hb]
    rw [e0]
    exact Stp.refl
  · rintro j m Hc ⟨Gc, ρc, acc, accV, Rc, Sc, gD, hDc, oL, oI, ha, heq⟩
    have dead : T = .bad → False := fun z => by rw [z] at h; exact h
    cases m with
    | zero => exact (dead heq.symm).elim
    | succ n =>
      unfold lcH at heq
      cases q0 : heldL i ρc with
      | none => rw [q0] at heq; exact (dead heq.symm).elim
      | some ds =>
        rw [q0] at heq
        simp only at heq
        obtain ⟨p2, vs2, e2, hv2, hr2⟩ := Rc.held q0
        have : p2 = pa := by
          rw [wipe_out hi, ea0] at e2
          cases e2
          rfl
        subst this
        have hlen := RpAll.len hr2
        cases q1 : ds[j]? with
        | none =>
          rw [q1] at heq
          have hj : ds.length ≤ j := List.getElem?_eq_none_iff.mp q1
          have heq : (Res.ok acc ρc : Res (List PyData)) = T := heq
          rw [← heq] at h
          obtain ⟨Rn, Sn⟩ := unwiped_ok R1 (Rc.era D gD oL oI) Sc
          have nn : ∀ b, (OwnL σ (unwipe vs ρ ρc) b ∨ OwnI σ (unwipe vs ρ ρc) b) → b ≠ D := fun b hb z => by
            subst z
            rcases hb with hb | hb
            · obtain ⟨u, hu⟩ := Rn.ownH hb; rw [era_same] at hu; cases hu
            · obtain ⟨u, hu⟩ := Rn.ownHI hb; rw [era_same] at hu; cases hu
          exact .inl ⟨⟨vs2, SqL.of hv2, by omega⟩, h Gc Hc D Rn.unera (S1.trans Sn.unera) gD ⟨accV, hDc, ha⟩ (S1.keep D hD) (fun z => nn D (.inl z) rfl) fun z => nn D (.inr z) rfl⟩
        | some d =>
          rw [q1] at heq
          simp only at heq
          obtain ⟨vx, w1, w2⟩ := RpAll.get hr2 q1
          refine .inr ⟨⟨vs2, vx, SqL.of hv2, w1⟩, fun H' => ∃ (Gc : Hp) (ρc : DEnv) (acc : List PyData) (accV : List V), Rel K Gc (wipe σ vs) H' ρc ∧ Stp G H (wipe σ vs) (wipeC ρ vs) Gc (DL.era D H') (wipe σ vs) ρc ∧ Gc D = none ∧ H' D = some (.lst accV) ∧ ¬ OwnL (wipe σ vs) ρc D ∧ ¬ OwnI (wipe σ vs) ρc D ∧ RpAll K Gc accV acc ∧
            lcH i vs gd ft fe n (j + 1) acc ρc = T, fun H' hN => ?_, fun x H' hy => ?_⟩
          · obtain ⟨a1, a2, a3, a4, b1, b2, b3, b4, b5, b6, b7, b8⟩ := hN
            exact ⟨n, Nat.lt_succ_self n, a1, a2, a3, a4, b1, b2, b3, b4, b5, b6, b7, b8⟩
          · obtain ⟨rfl, hy⟩ := hy
            have ev : x = vx := by
              have := hy vs2 (SqL.of hv2)
              rw [w1] at this
              exact (Option.some.inj this).symm
            subst ev
            refine ⟨Gc, ρc, d, Rc, w2, ?_⟩
            -- behind a turn
            have after : ∀ {G5 H5 : Hp} {σ5 : St} {ρ5 : DEnv}, Rel K G5 σ5 H5 ρ5 → Stp Gc H' (wipe σ vs) ρc G5 H5 σ5 ρ5 → wipe σ5 vs = wipe σ vs →
                Rel K G5 (wipe σ vs) H5 (wipeC ρ5 vs) ∧ Stp G H (wipe σ vs) (wipeC ρ vs) G5 (DL.era D H5) (wipe σ vs) (wipeC ρ5 vs) ∧ G5 D = none ∧ H5 D = some (.lst accV) ∧ ¬ OwnL (wipe σ vs) (wipeC ρ5 vs) D ∧ ¬ OwnI (wipe σ vs) (wipeC ρ5 vs) D := fun {G5 H5 σ5 ρ5} R5 S5 hσ => by
              obtain ⟨t1, t2, t3, t4⟩ := S5.track gD hDc oL oI
              have Rn := R5.wiped vs
              rw [hσ] at Rn
              refine ⟨Rn, ?_, t1, t2, fun z => t3 (OwnL.unwiped (vs := vs) (by rw [hσ]; exact z)), fun z => t4 (OwnI.unwiped (vs := vs) (by rw [hσ]; exact z))⟩
              refine Stp.wiped (Sc.trans (S5.era D)) hσ fun j hj o z => ?_
              rcases wipeC_get z with ⟨_, y⟩ | ⟨y, _⟩
              · cases y
              · exact y hj
            cases q : gd d ρc with
            | none => rw [q] at heq; exact (dead heq.symm).elim
            | some ρ3 =>
              rw [q] at heq
              simp only at heq
              intro G3 H3 σ3 R3 S3 O3
              have hσ3 : wipe σ3 vs = wipe σ vs := by
                rw [wipe_eq (σ := wipe σ vs) S3.len fun j hj => O3 j fun z => hj (his j z)]
                exact wipe_eq (wipe_length σ vs) fun j hj => wipe_out hj
              refine ⟨hσ3, G3, ρ3, R3, ?_⟩
              cases q4 : ft ρ3 with
              | bad => simp only [q4] at heq; exact (dead heq.symm).elim
              | err x c => simp only [q4] at heq; exact (dead heq.symm).elim
              | ok b ρ4 =>
                intro G4 H4 b' R4 S4 hb
                subst hb
                cases b' with
                | false =>
                  simp only [q4] at heq
                  refine iteF ?_
                  obtain ⟨u1, u2, u3, u4, u5, u6⟩ := after R4 (S3.trans S4) hσ3
                  exact ⟨G4, _, acc, accV, u1, u2, u3, u4, u5, u6, RpAll.mono ((S3.trans S4).same) ha, heq⟩
                | true =>
                  refine iteT ⟨G4, ρ4, R4, ?_⟩
                  cases q5 : fe ρ4 with
                  | bad => simp only [q4, q5] at heq; exact (dead heq.symm).elim
                  | err x c => simp only [q4, q5] at heq; exact (dead heq.symm).elim
                  | ok y ρ5 =>
                    simp only [q4, q5] at heq
                    intro G5 H5 v R5 S5 hv
                    by_cases hz : acc.length < sizeLine
                    case neg => rw [if_neg hz] at heq; exact (dead heq.symm).elim
                    rw [if_pos hz] at heq
                    obtain ⟨u1, u2, u3, u4, u5, u6⟩ := after R5 ((S3.trans S4).trans S5) hσ3
                    have hl := RpAll.len ha
                    exact ⟨accV, u4, by omega, G5, _, acc ++ [y], accV ++ [v], u1.beside u3 u5 u6 _, by rw [era_upd]; exact u2, u3, upd_same, u5, u6, RpAll.app (RpAll.mono (((S3.trans S4).trans S5).same) ha) (.cons hv .nil), heq⟩
/-- [elt for tg in (the held list in slot i) if ..] -/
theorem f_lcH (i : Nat) (hx : PE X (.Name x px) (tVar i)) (hp : ∀ wi, PI X tg (.Name x px) wi → PE X (.ListComp elt [⟨tg, .Name x px, ifs, 0⟩] scope pos) (tLc wi (tG X.K is gd) (tT X.K X.mg ft) (tE X.K X.mg fe) vs)) (hi : i ∉ vs) (his : ∀ j ∈ is, j ∈ vs) :
    FJ X E (.ListComp elt [⟨tg, .Name x px, ifs, 0⟩] scope pos) (fLcH i vs gd ft fe) :=
  ⟨_, hp _ (pi_list hx), fun σ G H ρ Q R h => lcH_read hi his R h⟩
end
/-! ### the reckoning -/
theorem wp_forH_from {i : Nat} {gd : PyData → DEnv → Option DEnv} {fb : DEnv → Res Out} {S : Out → DEnv → Prop} {ds : List PyData} (I : Nat → DEnv → Prop) (hI : ∀ j ρ, I j ρ → ρ[i]? = some (.io (.lst ds)))
    (st : ∀ (j : Nat) (d : PyData) (ρ : DEnv), ds[j]? = some d → I j ρ → ∃ ρ1, gd d ρ = some ρ1 ∧ WpX Zn (fb ρ1) fun o ρ2 => o = .nx ∧ I (j + 1) ρ2) (fin : ∀ ρ, I ds.length ρ → S .nx ρ) : ∀ (n j : Nat) (ρ : DEnv), ds.length + 1 ≤ j + n → j ≤ ds.length → I j ρ → WpX Zn (forH i gd fb n j ρ) S
  | 0, _, _, h, h2, _ => absurd h (by omega)
  | n + 1, j, ρ, hn, h2, hij => by
    have hh : heldL i ρ = some ds := by unfold heldL; rw [hI j ρ hij]
    by_cases hj : j < ds.length
    · obtain ⟨ρ1, e1, w⟩ := st j ds[j] ρ (List.getElem?_eq_getElem hj) hij
      obtain ⟨o, ρ2, e2, rfl, k⟩ := w.get
      have : forH i gd fb (n + 1) j ρ = forH i gd fb n (j + 1) ρ2 := by
        rw [forH]
        simp only [hh, List.getElem?_eq_getElem hj, e1, e2]
      rw [this]
      exact wp_forH_from I hI st fin n (j + 1) ρ2 (by omega) (by omega) k
    · have ej : j = ds.length := by omega
      subst ej
      have : forH i gd fb (n + 1) ds.length ρ = .ok .nx ρ := by
        rw [forH]
        simp only [hh, List.getElem?_eq_none (Nat.le_refl _)]
      rw [this]
      exact .ok rfl (fin ρ hij)
/-- a loop over a held list that stays as it is -/
theorem wp_forH {i : Nat} {gd : PyData → DEnv → Option DEnv} {fb : DEnv → Res Out} {S : Out → DEnv → Prop} {ds : List PyData} {ρ : DEnv} (h0 : ρ[i]? = some (.own (.lst ds))) (hz : ds.length ≤ sizeLine) (I : Nat → DEnv → Prop) (hI : ∀ j ρ, I j ρ → ρ[i]? = some (.io (.lst ds))) (i0 : I 0 (ρ.set i (.io (.lst ds))))
    (st : ∀ (j : Nat) (d : PyData) (ρ : DEnv), ds[j]? = some d → I j ρ → ∃ ρ1, gd d ρ = some ρ1 ∧ WpX Zn (fb ρ1) fun o ρ2 => o = .nx ∧ I (j + 1) ρ2) (fin : ∀ ρ, I ds.length ρ → S .nx (ρ.set i (.own (.lst ds)))) : WpX Zn (sForH i gd fb ρ) S := by
  have w := wp_forH_from (S := fun o ρ' => o = .nx ∧ I ds.length ρ') I hI st (fun ρ h => ⟨rfl, h⟩) (sizeLine + 1) 0 (ρ.set i (.io (.lst ds))) (by omega) (Nat.zero_le _) i0
  obtain ⟨o, ρ2, e, rfl, k⟩ := w.get
  have : sForH i gd fb ρ = .ok .nx (ρ2.set i (.own (.lst ds))) := by
    unfold sForH
    rw [h0]
    show backR i (forH i gd fb (sizeLine + 1) 0 (lend i ρ)) = _
    rw [lend_own h0, e]
    unfold backR
    simp only [hI _ _ k]
    rw [ownAgain_io (hI _ _ k)]
  rw [this]
  exact .ok rfl (fin ρ2 k)
theorem wp_lcH {i : Nat} {vs : List Nat} {gd : PyData → DEnv → Option DEnv} {ft : DEnv → Res Bool} {fe : DEnv → Res PyData} {L : List PyData → DEnv → Prop} {ds : List PyData} (I : Nat → List PyData → DEnv → Prop) (hI : ∀ j acc ρ, I j acc ρ → heldL i ρ = some ds)
    (st : ∀ (j : Nat) (d : PyData) (acc : List PyData) (ρ : DEnv), ds[j]? = some d → I j acc ρ → acc.length ≤ j ∧ ∃ ρ1, gd d ρ = some ρ1 ∧ WpX Zn (ft ρ1) fun b ρ2 => if b = true then WpX Zn (fe ρ2) fun y ρ3 => I (j + 1) (acc ++ [y]) (wipeC ρ3 vs) else I (j + 1) acc (wipeC ρ2 vs))
    (fin : ∀ acc ρ, I ds.length acc ρ → L acc ρ) (hz : ds.length ≤ sizeLine) : ∀ (n j : Nat) (acc : List PyData) (ρ : DEnv), ds.length + 1 ≤ j + n → j ≤ ds.length → I j acc ρ → WpX Zn (lcH i vs gd ft fe n j acc ρ) L
  | 0, _, _, _, h, h2, _ => absurd h (by omega)
  | n + 1, j, acc, ρ, hn, h2, hij => by
    have hh := hI j acc ρ hij
    by_cases hj : j < ds.length
    · obtain ⟨hl, ρ1, e1, w⟩ := st j ds[j] acc ρ (List.getElem?_eq_getElem hj) hij
      obtain ⟨b, ρ2, e2, k⟩ := w.get
      cases b with
      | false =>
        rw [if_neg Bool.false_ne_true] at k
        have : lcH i vs gd ft fe (n + 1) j acc ρ = lcH i vs gd ft fe n (j + 1) acc (wipeC ρ2 vs) := by
          rw [lcH]
          simp only [hh, List.getElem?_eq_getElem hj, e1, e2]
        rw [this]
        exact wp_lcH I hI st fin hz n (j + 1) acc _ (by omega) (by omega) k
      | true =>
        rw [if_pos rfl] at k
        obtain ⟨y, ρ3, e3, k⟩ := k.get
        have : lcH i vs gd ft fe (n + 1) j acc ρ = lcH i vs gd ft fe n (j + 1) (acc ++ [y]) (wipeC ρ3 vs) := by
          rw [lcH]
          simp only [hh, List.getElem?_eq_getElem hj, e1, e2, e3]
          rw [if_pos (by omega)]
        rw [this]
        exact wp_lcH I hI st fin hz n (j + 1) _ _ (by omega) (by omega) k
    · have ej : j = ds.length := by omega
      subst ej
      have : lcH i vs gd ft fe (n + 1) ds.length acc ρ = .ok acc ρ := by
        rw [lcH]
        simp only [hh, List.getElem?_eq_none (Nat.le_refl _)]
      rw [this]
      exact .ok rfl (fin acc ρ hij)
theorem wp_fLcH {Z : Exn → DEnv → Prop} (ρ : DEnv) (O : OD → DEnv → Prop) (i : Nat) (vs : List Nat) (gd : PyData → DEnv → Option DEnv) (ft : DEnv → Res Bool) (fe : DEnv → Res PyData) : WpX Z (fLcH i vs gd ft fe ρ) O = (isHeld i ρ = true ∧ WpX Zn (lcH i vs gd ft fe (sizeLine + 1) 0 [] (wipeC ρ vs)) fun acc ρ2 => O (.lst acc) (unwipe vs ρ ρ2)) := by
  unfold fLcH
  rw [wp_guard]
  congr 1
  cases lcH i vs gd ft fe (sizeLine + 1) 0 [] (wipeC ρ vs) with
  | ok a ρ2 => rw [wp_ok, wp_ok]
  | err x c => rw [wpq]; rfl
  | bad => rw [wpq]; rfl
/-- a comprehension over a held list that leaves the cells as they are -/
theorem wp_lcHMap {α : Type} {i : Nat} {vs : List Nat} {gd : PyData → DEnv → Option DEnv} {fe : DEnv → Res PyData} {L : List PyData → DEnv → Prop} {xs : List α} {e : α → PyData} {ρ : DEnv} (f : α → PyData) (hh : heldL i ρ = some (xs.map e)) (hl : xs.length ≤ 1000000)
    (st : ∀ x ∈ xs, ∃ ρ1, gd (e x) ρ = some ρ1 ∧ WpX Zn (fe ρ1) fun y ρ3 => y = f x ∧ wipeC ρ3 vs = ρ) (fin : L (xs.map f) ρ) : WpX Zn (lcH i vs gd tTrue fe (sizeLine + 1) 0 [] ρ) L := by
  refine wp_lcH (ds := xs.map e) (fun j acc ρ' => ρ' = ρ ∧ acc = (xs.take j).map f) (fun j acc ρ' h => by rw [h.1]; exact hh) (fun j d acc ρ' hd h => ?_) (fun acc ρ' h => ?_) (small_line (by rw [List.length_map]; exact hl)) (sizeLine + 1) 0 [] ρ (by rw [List.length_map]; show xs.length + 1 ≤ 0 + (2 ^ 24 + 1); omega) (Nat.zero_le _) ⟨rfl, rfl⟩
  · obtain ⟨rfl, rfl⟩ := h
    rw [List.getElem?_map] at hd
    cases q : xs[j]? with
    | none => rw [q] at hd; cases hd
    | some x =>
      rw [q] at hd
      cases hd
      obtain ⟨ρ1, h1, h2⟩ := st x (List.mem_of_getElem? q)
      refine ⟨by rw [List.length_map, List.length_take]; omega, ρ1, h1, ?_⟩
      rw [wp_tTrue]
      show WpX Zn (fe ρ1) _
      refine h2.mono fun y ρ3 hy => ⟨hy.2, ?_⟩
      rw [hy.1, List.take_add_one, q, List.map_append]
      rfl
  · obtain ⟨rfl, rfl⟩ := h
    rw [List.length_map, List.take_length]
    exact fin
end DL

set_option Elab.async false
set_option linter.all false
set_option maxRecDepth 100000
set_option maxHeartbeats 4000000
/-! DL part 24: comprehensions with two generators. -/
namespace DL
open PySem PySem.Spec PyProof.Rows L2
section
variable {K : PySem.W.Frag} {mg : Str → Option Value} {E : WX}
def tI (K : PySem.W.Frag) (mg : Str → Option Value) (f : DEnv → Res (List PyData)) : TI := fun σ H R => ∃ G ρ, Rel K G σ H ρ ∧ IPost K mg W0 σ G H ρ R (f ρ)
theorem pi_t {X : Cx} {tg iter : Expr} {f : DEnv → Res (List PyData)} (h : IJ X W0 tg iter f) : PI X tg iter (tI X.K X.mg f) := by
  obtain ⟨t, q, p⟩ := h
  exact ⟨fun pins s σ H R I ⟨G, ρ, Rr, h⟩ => q.run pins s σ H R I (p σ G H ρ R Rr h)⟩
theorem Stp.wipeEnd {G0 H0 G H : Hp} {σ0 σ : St} {ρ0 ρ : DEnv} {vs : List Nat} (S : Stp G0 H0 σ0 ρ0 G H σ ρ) (h0 : ∀ i ∈ vs, ∀ o, ρ0[i]? ≠ some (.io o)) : Stp G0 H0 σ0 ρ0 G H (wipe σ vs) (wipeC ρ vs) := by
  have out : ∀ {i : Nat} {o : OD}, ρ0[i]? = some (.io o) → i ∉ vs := fun {i o} e hi => h0 i hi o e
  refine ⟨S.same, S.frame, S.keep, S.fresh, fun b h => S.ownl b (OwnL.unwiped (vs := vs) h), fun i o e => ?_, fun i o e => ?_, by rw [wipe_length]; exact S.len⟩
  · obtain ⟨a, o', e'⟩ := S.io i o e
    rw [wipeC_out (out e), wipe_out (out e)]
    exact ⟨a, o', e'⟩
  · rcases wipeC_get e with ⟨z1, z2⟩ | ⟨z1, z2⟩
    · cases z2
    · exact S.oi i o z2
theorem lc_after {G0 H0 Gc Hc G5 H5 : Hp} {σ0 σc σ5 : St} {ρ0 ρc ρ5 : DEnv} {D : Addr} {u : HO} (vs : List Nat) (S0 : Stp G0 H0 σ0 ρ0 Gc (DL.era D Hc) σc ρc) (S5 : Stp Gc Hc σc ρc G5 H5 σ5 ρ5) (R5 : Rel K G5 σ5 H5 ρ5) (gD : Gc D = none) (hD : Hc D = some u)
    (oL : ¬ OwnL σc ρc D) (oI : ¬ OwnI σc ρc D) (h0 : ∀ i ∈ vs, ∀ o, ρ0[i]? ≠ some (.io o)) :
    Rel K G5 (wipe σ5 vs) H5 (wipeC ρ5 vs) ∧ Stp G0 H0 σ0 ρ0 G5 (DL.era D H5) (wipe σ5 vs) (wipeC ρ5 vs) ∧ G5 D = none ∧ H5 D = some u ∧ ¬ OwnL (wipe σ5 vs) (wipeC ρ5 vs) D ∧ ¬ OwnI (wipe σ5 vs) (wipeC ρ5 vs) D := by
  obtain ⟨t1, t2, t3, t4⟩ := S5.track gD hD oL oI
  exact ⟨R5.wiped vs, (S0.trans (S5.era D)).wipeEnd h0, t1, t2, fun z => t3 (OwnL.unwiped (vs := vs) z), fun z => t4 (OwnI.unwiped (vs := vs) z)⟩
end
def lc2 (vs vs1 : List Nat) (gd : PyData → DEnv → Option DEnv) (ft : DEnv → Res Bool) (fi1 : DEnv → Res (List PyData)) (gd1 : PyData → DEnv → Option DEnv) (ft1 : DEnv → Res Bool) (fe : DEnv → Res PyData) : List PyData → List PyData → DEnv → Res (List PyData)
  | [], acc, ρ => .ok acc ρ
  | d :: ds, acc, ρ => match gd d ρ with
    | none => .bad
    | some ρ1 => match ft ρ1 with
      | .ok true ρ2 => match fi1 ρ2 with
        | .ok ds1 ρ3 => match lcL vs1 gd1 ft1 fe ds1 acc (wipeC ρ3 vs1) with
          | .ok acc' ρ4 => lc2 vs vs1 gd ft fi1 gd1 ft1 fe ds acc' (wipeC ρ4 vs)
          | _ => .bad
        | _ => .bad
      | .ok false ρ2 => lc2 vs vs1 gd ft fi1 gd1 ft1 fe ds acc (wipeC ρ2 vs)
      | _ => .bad
def fLc2 (vs vs1 : List Nat) (fi : DEnv → Res (List PyData)) (gd : PyData → DEnv → Option DEnv) (ft : DEnv → Res Bool) (fi1 : DEnv → Res (List PyData)) (gd1 : PyData → DEnv → Option DEnv) (ft1 : DEnv → Res Bool) (fe : DEnv → Res PyData) : DEnv → Res OD := fun ρ => (fi ρ).bind fun ds ρ1 =>
  match lc2 vs vs1 gd ft fi1 gd1 ft1 fe ds [] (wipeC ρ1 vs) with
  | .ok acc ρ2 => .ok (.lst acc) (unwipe vs ρ1 ρ2)
  | _ => .bad
section
variable {vs vs1 is is1 : List Nat} {fi fi1 : DEnv → Res (List PyData)} {gd gd1 : PyData → DEnv → Option DEnv} {ft ft1 : DEnv → Res Bool} {fe : DEnv → Res PyData} {E : WX}
theorem lc2_read {K : PySem.W.Frag} {mg : Str → Option Value} {σ : St} {G H : Hp} {ρ : DEnv} {Q : VK} {wi : TI} (his : ∀ j ∈ is, j ∈ vs) (his1 : ∀ j ∈ is1, j ∈ vs1) (hvs : ∀ j ∈ vs1, j ∈ vs)
    (pi : ∀ (σ : St) (G H : Hp) (ρ : DEnv) (R : It → Hp → Prop), Rel K G σ H ρ → IPost K mg E σ G H ρ R (fi ρ) → wi σ H R) (R : Rel K G σ H ρ) (h : FPost K mg E σ G H ρ Q (fLc2 vs vs1 fi gd ft fi1 gd1 ft1 fe ρ)) :
    tLc2 wi (tG K is gd) (tT K mg ft) (tI K mg fi1) (tG K is1 gd1) (tT K mg ft1) (tE K mg fe) vs vs1 σ H Q := by
  refine pi σ G H ρ _ R ?_
  unfold fLc2 at h
  cases r : fi ρ with
  | bad => rw [r] at h; exact h
  | err x c => rw [r] at h; exact h
  | ok ds ρ1 =>
    rw [r, Res.bind_ok] at h
    generalize hT : lc2 vs vs1 gd ft fi1 gd1 ft1 fe ds [] (wipeC ρ1 vs) = T at h
    intro G1 H1 J R1 S1 hw D hD
    have hgD : G1 D = none := R1.noneG hD
    have nL1 : ¬ OwnL σ ρ1 D := fun z => by obtain ⟨u, hu⟩ := R1.ownH z; rw [hD] at hu; cases hu
    have nI1 : ¬ OwnI σ ρ1 D := fun z => by obtain ⟨u, hu⟩ := R1.ownHI z; rw [hD] at hu; cases hu
    have Rw := R1.wiped vs
    have nL : ¬ OwnL (wipe σ vs) (wipeC ρ1 vs) D := fun z => nL1 z.unwiped
    have nI : ¬ OwnI (wipe σ vs) (wipeC ρ1 vs) D := fun z => nI1 z.unwiped
    have noio : ∀ i ∈ vs, ∀ o, (wipeC ρ1 vs)[i]? ≠ some (.io o) := fun i hi o z => by
      rcases wipeC_get z with ⟨_, y⟩ | ⟨y, _⟩
      · cases y
      · exact y hi
    have noio1 : ∀ i ∈ vs1, ∀ o, (wipeC ρ1 vs)[i]? ≠ some (.io o) := fun i hi => noio i (hvs i hi)
    refine ⟨fun i m Hc => ∃ (Gc : Hp) (ρc : DEnv) (acc : List PyData) (accV : List V), Rel K Gc (wipe σ vs) Hc ρc ∧ Stp G1 H1 (wipe σ vs) (wipeC ρ1 vs) Gc (DL.era D Hc) (wipe σ vs) ρc ∧ Gc D = none ∧ Hc D = some (.lst accV) ∧ ¬ OwnL (wipe σ vs) ρc D ∧ ¬ OwnI (wipe σ vs) ρc D ∧ RpAll K Gc accV acc ∧
      m = ds.length - i ∧ i ≤ ds.length ∧ lc2 vs vs1 gd ft fi1 gd1 ft1 fe (ds.drop i) acc ρc = T, ⟨ds.length, G1, wipeC ρ1 vs, [], [], Rw.beside hgD nL nI _, ?_, hgD, upd_same, nL, nI, .nil, by omega, Nat.zero_le _, by rw [List.drop_zero]; exact hT⟩, ?_⟩
    · rw [era_upd]
      have e0 : DL.era D H1 = H1 := by
        funext b
        by_cases hb : b = D
        · subst hb; rw [era_same, hD]
        · rw [era_ne hb]
      rw [e0]
      exact Stp.refl
    · rintro i m Hc ⟨Gc, ρc, acc, accV, Rc, Sc, gD, hDc, oL, oI, ha, rfl, hle, heq⟩
      obtain ⟨w1, w2⟩ := hw i Gc Hc Sc.same Rc.gh
      by_cases hi : i < ds.length
      · have hd : ds.drop i = ds[i] :: ds.drop (i + 1) := List.drop_eq_getElem_cons hi
        rw [hd] at heq
        obtain ⟨go, yl⟩ := w1 ds[i] (List.getElem?_eq_getElem hi)
        refine .inr ⟨go, fun H' => ∃ (Gc : Hp) (ρc : DEnv) (acc : List PyData) (accV : List V), Rel K Gc (wipe σ vs) H' ρc ∧ Stp G1 H1 (wipe σ vs) (wipeC ρ1 vs) Gc (DL.era D H') (wipe σ vs) ρc ∧ Gc D = none ∧ H' D = some (.lst accV) ∧ ¬ OwnL (wipe σ vs) ρc D ∧ ¬ OwnI (wipe σ vs) ρc D ∧ RpAll K Gc accV acc ∧
          lc2 vs vs1 gd ft fi1 gd1 ft1 fe (ds.drop (i + 1)) acc ρc = T, fun H' hN => ?_, fun x H' hy => ?_⟩
        · obtain ⟨a1, a2, a3, a4, b1, b2, b3, b4, b5, b6, b7, b8⟩ := hN
          exact ⟨ds.length - (i + 1), by omega, a1, a2, a3, a4, b1, b2, b3, b4, b5, b6, b7, rfl, hi, b8⟩
        · obtain ⟨G2, gr, hx⟩ := yl x H' hy
          obtain ⟨R2, S2⟩ := gr (wipe σ vs) ρc Rc
          refine ⟨G2, ρc, ds[i], R2, hx, ?_⟩
          unfold lc2 at heq
          have dead : T = .bad → False := fun z => by rw [z] at h; exact h
          cases q : gd ds[i] ρc with
          | none => rw [q] at heq; exact (dead heq.symm).elim
          | some ρ3 =>
            rw [q] at heq
            intro G3 H3 σ3 R3 S3 O3
            have hσ3 : wipe σ3 vs = wipe σ vs := by
              rw [wipe_eq (σ := wipe σ vs) S3.len fun j hj => O3 j fun z => hj (his j z)]
              exact wipe_eq (wipe_length σ vs) fun j hj => wipe_out hj
            refine ⟨hσ3, G3, ρ3, R3, ?_⟩
            cases q4 : ft ρ3 with
            | bad => simp only [q4] at heq; exact (dead heq.symm).elim
            | err x c => simp only [q4] at heq; exact (dead heq.symm).elim
            | ok b ρ4 =>
              intro G4 H4 b' R4 S4 hb
              subst hb
              cases b' with
              | false =>
                simp only [q4] at heq
                refine iteF ?_
                obtain ⟨u1, u2, u3, u4, u5, u6⟩ := lc_after vs Sc ((S2.trans S3).trans S4) R4 gD hDc oL oI noio
                rw [hσ3] at u1 u2 u5 u6
                exact ⟨G4, _, acc, accV, u1, u2, u3, u4, u5, u6, RpAll.mono (((S2.trans S3).trans S4).same) ha, heq⟩
              | true =>
                refine iteT ⟨G4, ρ4, R4, ?_⟩
                cases q5 : fi1 ρ4 with
                | bad => simp only [q4, q5] at heq; exact (dead heq.symm).elim
                | err x c => simp only [q4, q5] at heq; exact (dead heq.symm).elim
                | ok ds1 ρ5 =>
                  simp only [q4, q5] at heq
                  intro G5 H5 J1 R5 S5 hw1
                  have S25 := ((S2.trans S3).trans S4).trans S5
                  obtain ⟨u1, u2, u3, u4, u5, u6⟩ := lc_after vs1 Sc S25 R5 gD hDc oL oI noio1
                  have ha5 := RpAll.mono S25.same ha
                  have hww : wipe (wipe σ3 vs1) vs = wipe σ vs := by
                    rw [← hσ3]
                    exact wipe_eq (wipe_length σ3 vs1) fun j hj => wipe_out fun z => hj (hvs j z)
                  refine ⟨fun j k H6 => ∃ (G6 : Hp) (ρ6 : DEnv) (acc : List PyData) (accV : List V), Rel K G6 (wipe σ3 vs1) H6 ρ6 ∧ Stp G1 H1 (wipe σ vs) (wipeC ρ1 vs) G6 (DL.era D H6) (wipe σ3 vs1) ρ6 ∧ Same G5 G6 ∧ G6 D = none ∧ H6 D = some (.lst accV) ∧ ¬ OwnL (wipe σ3 vs1) ρ6 D ∧ ¬ OwnI (wipe σ3 vs1) ρ6 D ∧ RpAll K G6 accV acc ∧
                    k = ds1.length - j ∧ j ≤ ds1.length ∧ (match lcL vs1 gd1 ft1 fe (ds1.drop j) acc ρ6 with
                      | .ok acc' ρ4 => lc2 vs vs1 gd ft fi1 gd1 ft1 fe (ds.drop (i + 1)) acc' (wipeC ρ4 vs)
                      | _ => .bad) = T, ⟨ds1.length, G5, wipeC ρ5 vs1, acc, accV, u1, u2, fun _ _ z => z, u3, u4, u5, u6, ha5, by omega, Nat.zero_le _, by rw [List.drop_zero]; exact heq⟩, ?_⟩
                  rintro j k H6 ⟨G6, ρ6, acc6, accV6, R6, S6, sm6, gD6, hD6, oL6, oI6, ha6, rfl, hle6, heq6⟩
                  obtain ⟨x1, x2⟩ := hw1 j G6 H6 sm6 R6.gh
                  by_cases hj : j < ds1.length
                  · have hd1 : ds1.drop j = ds1[j] :: ds1.drop (j + 1) := List.drop_eq_getElem_cons hj
                    rw [hd1] at heq6
                    obtain ⟨go1, yl1⟩ := x1 ds1[j] (List.getElem?_eq_getElem hj)
                    refine .inr ⟨go1, fun H6 => ∃ (G6 : Hp) (ρ6 : DEnv) (acc : List PyData) (accV : List V), Rel K G6 (wipe σ3 vs1) H6 ρ6 ∧ Stp G1 H1 (wipe σ vs) (wipeC ρ1 vs) G6 (DL.era D H6) (wipe σ3 vs1) ρ6 ∧ Same G5 G6 ∧ G6 D = none ∧ H6 D = some (.lst accV) ∧ ¬ OwnL (wipe σ3 vs1) ρ6 D ∧ ¬ OwnI (wipe σ3 vs1) ρ6 D ∧ RpAll K G6 accV acc ∧
                      (match lcL vs1 gd1 ft1 fe (ds1.drop (j + 1)) acc ρ6 with
                      | .ok acc' ρ4 => lc2 vs vs1 gd ft fi1 gd1 ft1 fe (ds.drop (i + 1)) acc' (wipeC ρ4 vs)
                      | _ => .bad) = T, fun H' hN => ?_, fun x7 H7' hy7 => ?_⟩
                    · obtain ⟨a1, a2, a3, a4, b1, b2, b3, b4, b5, b6, b7, b8, b9⟩ := hN
                      exact ⟨ds1.length - (j + 1), by omega, a1, a2, a3, a4, b1, b2, b3, b4, b5, b6, b7, b8, rfl, hj, b9⟩
                    · obtain ⟨G7, gr7, hx7⟩ := yl1 x7 H7' hy7
                      obtain ⟨R7, S7⟩ := gr7 (wipe σ3 vs1) ρ6 R6
                      refine ⟨G7, ρ6, ds1[j], R7, hx7, ?_⟩
                      unfold lcL at heq6
                      cases q8 : gd1 ds1[j] ρ6 with
                      | none => rw [q8] at heq6; exact (dead heq6.symm).elim
                      | some ρ8 =>
                        rw [q8] at heq6
                        intro G8 H8 σ8 R8 S8 O8
                        have hσ8 : wipe σ8 vs1 = wipe σ3 vs1 := by
                          rw [wipe_eq (σ := wipe σ3 vs1) S8.len fun j hj => O8 j fun z => hj (his1 j z)]
                          exact wipe_eq (wipe_length σ3 vs1) fun j hj => wipe_out hj
                        refine ⟨hσ8, G8, ρ8, R8, ?_⟩
                        cases q9 : ft1 ρ8 with
                        | bad => simp only [q9] at heq6; exact (dead heq6.symm).elim
                        | err x c => simp only [q9] at heq6; exact (dead heq6.symm).elim
                        | ok b ρ9 =>
                          intro G9 H9 b' R9 S9 hb
                          subst hb
                          cases b' with
                          | false =>
                            simp only [q9] at heq6
                            refine iteF ?_
                            have S79 := (S7.trans S8).trans S9
                            obtain ⟨v1, v2, v3, v4, v5, v6⟩ := lc_after vs1 S6 S79 R9 gD6 hD6 oL6 oI6 noio1
                            rw [hσ8] at v1 v2 v5 v6
                            exact ⟨G9, _, acc6, accV6, v1, v2, fun a b z => S79.same a b (sm6 a b z), v3, v4, v5, v6, RpAll.mono S79.same ha6, heq6⟩
                          | true =>
                            refine iteT ⟨G9, ρ9, R9, ?_⟩
                            cases q10 : fe ρ9 with
                            | bad => simp only [q9, q10] at heq6; exact (dead heq6.symm).elim
                            | err x c => simp only [q9, q10] at heq6; exact (dead heq6.symm).elim
                            | ok y ρ10 =>
                              simp only [q9, q10] at heq6
                              intro G10 H10 v R10 S10 hv
                              by_cases hz : acc6.length < sizeLine
                              case neg => rw [if_neg hz] at heq6; exact (dead heq6.symm).elim
                              rw [if_pos hz] at heq6
                              have S710 := ((S7.trans S8).trans S9).trans S10
                              obtain ⟨v1, v2, v3, v4, v5, v6⟩ := lc_after vs1 S6 S710 R10 gD6 hD6 oL6 oI6 noio1
                              rw [hσ8] at v1 v2 v5 v6
                              have hl := RpAll.len ha6
                              exact ⟨accV6, v4, by omega, G10, _, acc6 ++ [y], accV6 ++ [v], v1.beside v3 v5 v6 _, by rw [era_upd]; exact v2, fun a b z => S710.same a b (sm6 a b z), v3, upd_same, v5, v6, RpAll.app (RpAll.mono S710.same ha6) (.cons hv .nil), heq6⟩
                  · have e : ds1.drop j = [] := List.drop_eq_nil_of_le (by omega)
                    rw [e] at heq6
                    have heq6 : lc2 vs vs1 gd ft fi1 gd1 ft1 fe (ds.drop (i + 1)) acc6 (wipeC ρ6 vs) = T := heq6
                    have Rn := R6.wiped vs
                    rw [hww] at Rn
                    have Sn := S6.wipeEnd noio
                    rw [hww] at Sn
                    refine .inl ⟨x2 (by omega), G6, _, acc6, accV6, Rn, Sn, gD6, hD6, fun z => oL6 (OwnL.unwiped (vs := vs) (by rw [hww]; exact z)), fun z => oI6 (OwnI.unwiped (vs := vs) (by rw [hww]; exact z)), ha6, heq6⟩
      · have e : ds.drop i = [] := List.drop_eq_nil_of_le (by omega)
        rw [e] at heq
        have heq : (Res.ok acc ρc : Res (List PyData)) = T := heq
        rw [← heq] at h
        obtain ⟨Rn, Sn⟩ := unwiped_ok R1 (Rc.era D gD oL oI) Sc
        have nn : ∀ b, (OwnL σ (unwipe vs ρ1 ρc) b ∨ OwnI σ (unwipe vs ρ1 ρc) b) → b ≠ D := fun b hb z => by
          subst z
          rcases hb with hb | hb
          · obtain ⟨u, hu⟩ := Rn.ownH hb; rw [era_same] at hu; cases hu
          · obtain ⟨u, hu⟩ := Rn.ownHI hb; rw [era_same] at hu; cases hu
        exact .inl ⟨w2 (by omega), h Gc Hc D Rn.unera (S1.trans Sn.unera) gD ⟨accV, hDc, ha⟩ (S1.keep D hD) (fun z => nn D (.inl z) rfl) fun z => nn D (.inr z) rfl⟩
section
variable {X : Cx} {tg iter tg1 iter1 elt : Expr} {ifs ifs1 : List Expr} {scope : Scope} {pos : Pos}
/-- [elt for tg in iter if .. for tg1 in iter1 if ..] -/
theorem f_lc2 (hp : ∀ wi, PI X tg iter wi → PE X (.ListComp elt [⟨tg, iter, ifs, 0⟩, ⟨tg1, iter1, ifs1, 0⟩] scope pos) (tLc2 wi (tG X.K is gd) (tT X.K X.mg ft) (tI X.K X.mg fi1) (tG X.K is1 gd1) (tT X.K X.mg ft1) (tE X.K X.mg fe) vs vs1)) (his : ∀ j ∈ is, j ∈ vs) (his1 : ∀ j ∈ is1, j ∈ vs1) (hvs : ∀ j ∈ vs1, j ∈ vs) (hi : IJ X E tg iter fi) :
    FJ X E (.ListComp elt [⟨tg, iter, ifs, 0⟩, ⟨tg1, iter1, ifs1, 0⟩] scope pos) (fLc2 vs vs1 fi gd ft fi1 gd1 ft1 fe) := by
  obtain ⟨wi, qi, pi⟩ := hi
  exact ⟨_, hp wi qi, fun σ G H ρ Q R h => lc2_read his his1 hvs pi R h⟩
theorem s_newLc2 {x : Str} {p1 sp : Pos} (i : Nat) (hp : ∀ wi, PI X tg iter wi → PS X (.Assign [.Name x p1] (.ListComp elt [⟨tg, iter, ifs, 0⟩, ⟨tg1, iter1, ifs1, 0⟩] scope pos) sp) (tAsg (tLc2 wi (tG X.K is gd) (tT X.K X.mg ft) (tI X.K X.mg fi1) (tG X.K is1 gd1) (tT X.K X.mg ft1) (tE X.K X.mg fe) vs vs1) (gName i))) (his : ∀ j ∈ is, j ∈ vs) (his1 : ∀ j ∈ is1, j ∈ vs1) (hvs : ∀ j ∈ vs1, j ∈ vs) (hi : IJ X E tg iter fi) :
    SJ X E (.Assign [.Name x p1] (.ListComp elt [⟨tg, iter, ifs, 0⟩, ⟨tg1, iter1, ifs1, 0⟩] scope pos) sp) (sNew i (fLc2 vs vs1 fi gd ft fi1 gd1 ft1 fe)) := by
  obtain ⟨wi, qi, pi⟩ := hi
  exact ⟨_, hp wi qi, fun σ G H ρ D R h => new_read i (fun σ G H ρ Q R h => lc2_read his his1 hvs pi R h) R h⟩
end
end
section
variable {Z : Exn → DEnv → Prop} {ρ : DEnv} {O : OD → DEnv → Prop} {vs vs1 : List Nat} {fi1 : DEnv → Res (List PyData)} {gd gd1 : PyData → DEnv → Option DEnv} {ft ft1 : DEnv → Res Bool} {fe : DEnv → Res PyData}
theorem wp_fLc2 (fi : DEnv → Res (List PyData)) : WpX Z (fLc2 vs vs1 fi gd ft fi1 gd1 ft1 fe ρ) O = WpX Z (fi ρ) fun ds ρ1 => WpX Zn (lc2 vs vs1 gd ft fi1 gd1 ft1 fe ds [] (wipeC ρ1 vs)) fun acc ρ2 => O (.lst acc) (unwipe vs ρ1 ρ2) := by
  unfold fLc2
  rw [wp_bind]
  congr 1
  funext ds ρ1
  cases lc2 vs vs1 gd ft fi1 gd1 ft1 fe ds [] (wipeC ρ1 vs) with
  | ok a ρ2 => rw [wp_ok, wp_ok]
  | err x c => rw [wpq]; rfl
  | bad => rw [wpq]; rfl
theorem wp_lc2_from {L : List PyData → DEnv → Prop} (I : Nat → List PyData → DEnv → Prop) : ∀ (ds : List PyData) (n : Nat) (acc : List PyData) (ρ : DEnv), I n acc ρ →
    (∀ (i : Nat) (d : PyData) (acc : List PyData) (ρ : DEnv), ds[i]? = some d → I (n + i) acc ρ → ∃ ρ1, gd d ρ = some ρ1 ∧ WpX Zn (ft ρ1) fun b ρ2 => if b = true then WpX Zn (fi1 ρ2) fun ds1 ρ3 => WpX Zn (lcL vs1 gd1 ft1 fe ds1 acc (wipeC ρ3 vs1)) fun acc' ρ4 => I (n + i + 1) acc' (wipeC ρ4 vs) else I (n + i + 1) acc (wipeC ρ2 vs)) →
    (∀ acc ρ', I (n + ds.length) acc ρ' → L acc ρ') → WpX Zn (lc2 vs vs1 gd ft fi1 gd1 ft1 fe ds acc ρ) L
  | [], n, acc, ρ, h, _, fin => .ok rfl (fin acc ρ h)
  | d :: ds, n, acc, ρ, h, st, fin => by
    obtain ⟨ρ1, h1, h2⟩ := st 0 d acc ρ rfl h
    obtain ⟨b, ρ2, e, q⟩ := h2.get
    have next : ∀ acc' ρ', I (n + 1) acc' ρ' → WpX Zn (lc2 vs vs1 gd ft fi1 gd1 ft1 fe ds acc' ρ') L := fun acc' ρ' q => wp_lc2_from I ds (n + 1) acc' ρ' q (fun i e a τ hi hτ => by
        have := st (i + 1) e a τ (by simpa using hi) (by rw [show n + (i + 1) = n + 1 + i by omega]; exact hτ)
        rw [show n + (i + 1) + 1 = n + 1 + i + 1 by omega] at this
        exact this) fun a ρ' hq => fin a ρ' (by rw [List.length_cons, show n + (ds.length + 1) = n + 1 + ds.length by omega]; exact hq)
    cases b with
    | false =>
      rw [if_neg Bool.false_ne_true] at q
      have e2 : lc2 vs vs1 gd ft fi1 gd1 ft1 fe (d :: ds) acc ρ = lc2 vs vs1 gd ft fi1 gd1 ft1 fe ds acc (wipeC ρ2 vs) := by rw [lc2, h1]; simp only [e]
      rw [e2]; exact next _ _ q
    | true =>
      rw [if_pos rfl] at q
      obtain ⟨ds1, ρ3, e3, q⟩ := q.get
      obtain ⟨acc', ρ4, e4, q⟩ := q.get
      have e2 : lc2 vs vs1 gd ft fi1 gd1 ft1 fe (d :: ds) acc ρ = lc2 vs vs1 gd ft fi1 gd1 ft1 fe ds acc' (wipeC ρ4 vs) := by
        rw [lc2, h1]; simp only [e, e3, e4]
      rw [e2]; exact next _ _ q
/-- two generators by an invariant of the outer turn's number -/
theorem wp_lc2L {L : List PyData → DEnv → Prop} {ds : List PyData} (I : Nat → List PyData → DEnv → Prop) (h0 : I 0 [] ρ)
    (st : ∀ (i : Nat) (d : PyData) (acc : List PyData) (ρ : DEnv), ds[i]? = some d → I i acc ρ → ∃ ρ1, gd d ρ = some ρ1 ∧ WpX Zn (ft ρ1) fun b ρ2 => if b = true then WpX Zn (fi1 ρ2) fun ds1 ρ3 => WpX Zn (lcL vs1 gd1 ft1 fe ds1 acc (wipeC ρ3 vs1)) fun acc' ρ4 => I (i + 1) acc' (wipeC ρ4 vs) else I (i + 1) acc (wipeC ρ2 vs))
    (fin : ∀ acc ρ', I ds.length acc ρ' → L acc ρ') : WpX Zn (lc2 vs vs1 gd ft fi1 gd1 ft1 fe ds [] ρ) L :=
  wp_lc2_from I ds 0 [] ρ h0 (fun i d a ρ hi h => by
    have := st i d a ρ hi (by rw [Nat.zero_add] at h; exact h)
    rw [Nat.zero_add]
    exact this) fun a ρ h => fin a ρ (by rw [Nat.zero_add] at h; exact h)
end
end DL

set_option Elab.async false
set_option linter.all false
set_option maxRecDepth 100000
set_option maxHeartbeats 4000000
/-! DL part 25: min of a list of tuples of whole numbers. -/
namespace DL
open PySem PySem.Spec PyProof.Rows L2

theorem rc_lt {prog : Program} {w : World} {A : Around} {E : Value → Shared → Prop} {s : Shared} {l b : Addr} {items items2 : Array Value} {ns ms : List Int} {Q : Value → Shared → Prop} (h1 : IsTup s.heap l items) (h2 : IsTup s.heap b items2) (h3 : IntsAre items.toList ns) (h4 : IntsAre items2.toList ms) (hu : A.units < cLine) (hq : Q (.bool (HT.lexLt ns ms)) s) :
    wpAny (model prog w) A (richCompare .Lt (.ref l) (.ref b)) Q E s := HT.lt_tupInts h1 h2 h3 h4 hu hq
example (A : Around) : A.in1.units = A.units + 1 := rfl
def btL (rows : List (List Int)) (i j : Nat) : Bool := HT.lexLt (rows.getD i []) (rows.getD j [])
theorem argBest_s (bt : Nat → Nat → Bool) (j : Nat) : argBest bt (j + 1) = if bt (j + 1) (argBest bt j) = true then j + 1 else argBest bt j := by
  rw [argBest]
theorem argBest_le (bt : Nat → Nat → Bool) : ∀ j, argBest bt j ≤ j
  | 0 => by rw [argBest]; exact Nat.le_refl _
  | j + 1 => by
    rw [argBest_s]
    split
    · exact Nat.le_refl _
    · have := argBest_le bt j; omega
/-- every item of the list is a tuple of whole numbers -/
def TupRows (h : Heap) (vs : List Value) (rows : List (List Int)) : Prop := ∀ (i : Nat) (v : Value), vs[i]? = some v → ∃ a its, v = .ref a ∧ IsTup h a its ∧ IntsAre its.toList (rows.getD i [])
theorem TupRows.mono {h h' : Heap} {vs : List Value} {rows : List (List Int)} (T : TupRows h vs rows) (k : ∀ b o, h.get? b = some o → h'.get? b = some o) : TupRows h' vs rows := fun i v e => by
  obtain ⟨a, its, e1, ⟨o, q1, q2⟩, e3⟩ := T i v e
  exact ⟨a, its, e1, ⟨o, k _ _ q1, q2⟩, e3⟩
theorem min_loop {prog : Program} {w : World} {A : Around} {R : Result → Shared → Prop} {l I S : Addr} {vs : List Value} {rows : List (List Int)} (h0 : Heap) (hh : A.in1.handled = none) (hu : A.in1.units < cLine)
    (hlist : ∀ h : Heap, (∀ b o, h0.get? b = some o → h.get? b = some o) → h.IsList l vs.toArray) (T : TupRows h0 vs rows) (hn : vs.length = rows.length) (nI : h0.get? I = none) (nS : h0.get? S = none) (hIS : I ≠ S)
    {gens : Array GenState} (dummy : True := trivial) :
    ∀ (k j : Nat) (s : Shared) (vb : Value) (c : Nat), vs.length - (j + 1) = k → j + 1 ≤ vs.length → (∀ b o, h0.get? b = some o → s.heap.get? b = some o) → s.heap.IsListIter I l (j + 1) → vs[argBest (btL rows) j]? = some vb →
      s.heap.get? S = some { cls := .type "list", data := .seq #[vb, vb] c } →
      (∀ (v : Value) (h' : Heap) (tk : Nat), vs[argBest (btL rows) (vs.length - 1)]? = some v → (∀ b o, h0.get? b = some o → h'.get? b = some o) → R (.ok (.ret v)) { heap := h', gens := s.gens, drawn := s.drawn, toks := tk, os := s.os }) →
      codeAny (model prog w) A (.builtin "min.loop" { pos := [.ref I, .none, .ref S] }) R s := by
  intro k
  induction k with
  | zero =>
    intro j s vb c hk hj hb hI hvb hS hR
    refine codeAny_builtin F.entry_min_loop ?_
    rw [Around.under_plainId F.plain_min_loop]
    refine wpAny_bind (wpAny_seqItems hS rfl ?_)
    have e0 : vs.toArray[j + 1]? = none := by simp; omega
    refine wpAny_bind (wpAny_tryCatch (wpAny_pyNext_list_end hh hI (hlist _ hb) e0 fun h1 x1 => ?_))
    have hS1 := x1 S _ (fun z => hIS z.symm) hS
    refine wpAny_bind (wpAny_updateSeq hS1 rfl ?_)
    refine wpAny_bind (wpAny_letGo ?_)
    refine wpAny_pure ?_
    have e1 : vs.length - 1 = j := by omega
    rw [e1] at hR
    exact hR vb _ _ hvb fun b o e => by
      have hbS : b ≠ S := fun z => by rw [z, nS] at e; cases e
      have hbI : b ≠ I := fun z => by rw [z, nI] at e; cases e
      rw [Heap.get?_update_other _ _ (fun z => hbS z.symm)]
      exact x1 b o hbI (hb b o e)
  | succ k ih => 
    intro j s vb c hk hj hb hI hvb hS hR
    refine codeAny_builtin F.entry_min_loop ?_
    rw [Around.under_plainId F.plain_min_loop]
    refine wpAny_bind (wpAny_seqItems hS rfl ?_)
    have hj1 : j + 1 < vs.length := by omega
    have e0 : vs.toArray[j + 1]? = some vs[j + 1] := by simp [hj1]
    refine wpAny_bind (wpAny_tryCatch (wpAny_pyNext_list_item hI (hlist _ hb) e0 fun h1 I1 x1 => ?_))
    have hS1 := (x1.2 S fun z => hIS z.symm).trans hS
    have hb1 : ∀ b o, h0.get? b = some o → h1.get? b = some o := fun b o e => by
      have hbI : b ≠ I := fun z => by rw [z, nI] at e; cases e
      rw [x1.2 b hbI]
      exact hb b o e
    refine wpAny_bind (wpAny_pure ?_)
    obtain ⟨a1, its1, q1, q2, q3⟩ := T.mono hb1 (j + 1) _ (List.getElem?_eq_getElem hj1)
    obtain ⟨a2, its2, q4, q5, q6⟩ := T.mono hb1 _ _ hvb
    refine wpAny_bind (wpAny_tryCatch (wpAny_holding (wpAny_bind ?_)))
    rw [q1, q4]
    refine rc_lt (s := { heap := h1, gens := s.gens, drawn := s.drawn, toks := s.toks, os := s.os }) q2 q5 q3 q6 hu ?_
    refine wpAny_bind (wpAny_holding (wpAny_truthy_bool ?_))
    refine wpAny_bind (wpAny_letGo ?_)
    refine wpAny_pure ?_
    have hbt : HT.lexLt (rows.getD (j + 1) []) (rows.getD (argBest (btL rows) j) []) = btL rows (j + 1) (argBest (btL rows) j) := rfl
    rw [hbt]
    have hs := argBest_s (btL rows) j
    by_cases hc : btL rows (j + 1) (argBest (btL rows) j) = true
    · rw [if_pos hc] at hs ⊢
      refine wpAny_bind (wpAny_updateSeq hS1 rfl ?_)
      refine wpAny_bind (wpAny_letGo ?_)
      refine wpAny_pure ⟨plainId_quiet F.plain_min_loop _, ?_⟩
      have hS2 := Heap.get?_update_self (Obj.mapSeq fun _ => #[Value.ref a1, Value.ref a1]) hS1 rfl
      obtain ⟨oI, i1, i2, i3⟩ := I1
      have hI2 : Heap.IsListIter (h1.update S (Obj.mapSeq fun _ => #[Value.ref a1, Value.ref a1])) I l (j + 1 + 1) := ⟨oI, by rw [Heap.get?_update_other _ _ (fun z => hIS z.symm)]; exact i1, i2, i3⟩
      refine ih (j + 1) _ (.ref a1) _ (by omega) hj1 (fun b o e => ?_) hI2 (by rw [hs, List.getElem?_eq_getElem hj1, q1]) hS2 hR
      have hbS : b ≠ S := fun z => by rw [z, nS] at e; cases e
      show (h1.update S _).get? b = some o
      rw [Heap.get?_update_other _ _ (fun z => hbS z.symm)]
      exact hb1 b o e
    · rw [if_neg hc] at hs ⊢
      refine wpAny_bind (wpAny_letGo ?_)
      refine wpAny_pure ⟨plainId_quiet F.plain_min_loop _, ?_⟩
      exact ih (j + 1) _ vb c (by omega) hj1 hb1 I1 (by rw [hs]; exact hvb) hS1 hR
theorem min_tup_raw {prog : Program} {w : World} {A : Around} {E : Value → Shared → Prop} {s : Shared} {l : Addr} {vs : List Value} {rows : List (List Int)} {Q : Value → Shared → Prop} (hh : A.in1.handled = none) (hu : A.in1.units < cLine)
    (hl : s.heap.IsList l vs.toArray) (T : TupRows s.heap vs rows) (hn : vs.length = rows.length) (h0 : 0 < vs.length)
    (hq : ∀ (v : Value) (h' : Heap) (tk : Nat), vs[argBest (btL rows) (vs.length - 1)]? = some v → (∀ b o, s.heap.get? b = some o → h'.get? b = some o) → Q v { heap := h', gens := s.gens, drawn := s.drawn, toks := tk, os := s.os }) :
    wpAny (model prog w) A (call (.builtin "min") [.ref l]) Q E s := by
  refine call_function_tree F.kind_min F.plain_min F.entry_min (F.args_min1 _) ?_
  refine wpAny_bind (wpAny_of_eq rfl ?_)
  refine wpAny_bind (wpAny_pure ?_)
  refine wpAny_bind (wpAny_pyIter_list hl ?_)
  refine wpAny_bind (wpAny_newObj_type ?_)
  refine wpAny_pure ⟨plainId_quiet F.plain_min_loop _, ?_⟩
  have sz : ∀ o : Obj, (s.heap.push o).objs.size = s.heap.objs.size + 1 := fun o => Heap.size_push ..
  have g1 : (s.heap.push { cls := .type "list_iterator", data := .fields #[.ref l, .int 0 0] }).get? s.heap.objs.size = some { cls := .type "list_iterator", data := .fields #[.ref l, .int 0 0] } := Heap.get?_push_size _ rfl
  have g2 : ((s.heap.push { cls := .type "list_iterator", data := .fields #[.ref l, .int 0 0] }).push { cls := .type "list", data := .seq #[] }).get? s.heap.objs.size = some { cls := .type "list_iterator", data := .fields #[.ref l, .int 0 0] } := Heap.get?_push_of_some _ g1
  have g3 : ((s.heap.push { cls := .type "list_iterator", data := .fields #[.ref l, .int 0 0] }).push { cls := .type "list", data := .seq #[] }).get? (s.heap.push { cls := .type "list_iterator", data := .fields #[.ref l, .int 0 0] }).objs.size = some { cls := .type "list", data := .seq #[] } := Heap.get?_push_size _ rfl
  have nI : s.heap.get? s.heap.objs.size = none := by
    cases q : s.heap.get? s.heap.objs.size with
    | none => rfl
    | some o => exact absurd (Heap.lt_size q) (Nat.lt_irrefl _)
  have nS : s.heap.get? (s.heap.push { cls := .type "list_iterator", data := .fields #[.ref l, .int 0 0] }).objs.size = none := by
    cases q : s.heap.get? (s.heap.push { cls := .type "list_iterator", data := .fields #[.ref l, .int 0 0] }).objs.size with
    | none => rfl
    | some o => have := Heap.lt_size q; rw [sz] at this; exact absurd this (Nat.not_lt.mpr (Nat.le_succ _))
  have hIS : s.heap.objs.size ≠ (s.heap.push { cls := .type "list_iterator", data := .fields #[.ref l, .int 0 0] }).objs.size := by rw [sz]; exact Nat.ne_of_lt (Nat.lt_succ_self _)
  have hb : ∀ b o, s.heap.get? b = some o → ((s.heap.push { cls := .type "list_iterator", data := .fields #[.ref l, .int 0 0] }).push { cls := .type "list", data := .seq #[] }).get? b = some o := fun b o e => Heap.get?_push_of_some _ (Heap.get?_push_of_some _ e)
  generalize hI : s.heap.objs.size = I at *
  generalize hSS : (s.heap.push { cls := .type "list_iterator", data := .fields #[.ref l, .int 0 0] }).objs.size = S at *
  generalize hH : (s.heap.push { cls := .type "list_iterator", data := .fields #[.ref l, .int 0 0] }).push { cls := .type "list", data := .seq #[] } = H at *
  have hlist : ∀ h : Heap, (∀ b o, s.heap.get? b = some o → h.get? b = some o) → h.IsList l vs.toArray := fun h k => by
    obtain ⟨o, o1, o2⟩ := hl
    exact ⟨o, k _ _ o1, o2⟩
  show codeAny (model prog w) A (.builtin "min.loop" { pos := [.ref I, .none, .ref S] }) _ _
  refine codeAny_builtin F.entry_min_loop ?_
  rw [Around.under_plainId F.plain_min_loop]
  refine wpAny_bind (wpAny_seqItems g3 rfl ?_)
  have e0 : vs.toArray[0]? = some vs[0] := by simp [h0]
  refine wpAny_bind (wpAny_tryCatch (wpAny_pyNext_list_item (i := 0) ⟨_, g2, rfl, rfl⟩ (hlist _ hb) e0 fun h1 I1 x1 => ?_))
  have hS1 := (x1.2 S fun z => hIS z.symm).trans g3
  have hb1 : ∀ b o, s.heap.get? b = some o → h1.get? b = some o := fun b o e => by
    have hbI : b ≠ I := fun z => by rw [z, nI] at e; cases e
    rw [x1.2 b hbI]
    exact hb b o e
  refine wpAny_bind (wpAny_pure ?_)
  refine wpAny_bind (wpAny_updateSeq hS1 rfl ?_)
  refine wpAny_pure ⟨plainId_quiet F.plain_min_loop _, ?_⟩
  have hS2 := Heap.get?_update_self (Obj.mapSeq fun _ => #[vs[0], vs[0]]) hS1 rfl
  obtain ⟨oI, i1, i2, i3⟩ := I1
  have hI2 : Heap.IsListIter (h1.update S (Obj.mapSeq fun _ => #[vs[0], vs[0]])) I l (0 + 1) := ⟨oI, by rw [Heap.get?_update_other _ _ (fun z => hIS z.symm)]; exact i1, i2, i3⟩
  refine min_loop s.heap hh hu hlist T hn nI nS hIS (gens := s.gens) trivial _ 0 _ vs[0] _ rfl h0 (fun b o e => ?_) hI2 (by rw [argBest]; exact List.getElem?_eq_getElem h0) hS2 hq
  have hbS : b ≠ S := fun z => by rw [z, nS] at e; cases e
  show (h1.update S _).get? b = some o
  rw [Heap.get?_update_other _ _ (fun z => hbS z.symm)]
  exact hb1 b o e
def rMinT (K : PySem.W.Frag) : List V → Hp → VK → Prop := fun vs H Q => ∃ (a : Addr) (rs : List V) (rows : List (List Int)), vs = [.ref a] ∧ SqL K H a rs ∧ rs.length = rows.length ∧ 0 < rs.length ∧
  (∀ (i : Nat) (r : V), rs[i]? = some r → ∃ b, r = .ref b ∧ SqT K H b ((rows.getD i []).map V.int)) ∧ ∀ v, rs[argBest (btL rows) (rs.length - 1)]? = some v → Q v H
theorem vals_getU : ∀ {xs : List V} {us : List Value} {i : Nat} {u : Value}, Vals xs us → us[i]? = some u → ∃ x, xs[i]? = some x ∧ RelV x u
  | _, _, 0, _, .cons r _, h => by simp at h; subst h; exact ⟨_, rfl, r⟩
  | _, _, i + 1, _, .cons _ t, h => by
    obtain ⟨u, h1, h2⟩ := vals_getU (i := i) t (by simpa using h)
    exact ⟨u, by simpa using h1, h2⟩
theorem cr_minT {X : Cx} (ec : X.calm = true) (hu : X.A.units + 1 < cLine) : CallR X (.builtin "min") (rMinT X.K) := by
  intro pins s σ H xs us Q I hv ⟨a, rs, rows, e, hL, hn, h0, hrows, hq⟩
  subst e
  obtain rfl := Vals.ref1 hv
  obtain ⟨its, rv, pl, hz⟩ := I.list hL
  have hlen := vals_len rv
  refine min_tup_raw (vs := its) (rows := rows) (I.ok.hd ec) hu pl.isList (fun i v e => ?_) (by omega) (by omega) fun v h' tk e k => ?_
  · obtain ⟨x, hx, rx⟩ := vals_getU rv e
    obtain ⟨b, rfl, hT⟩ := hrows i x hx
    have rx : v = .ref b := rx
    obtain ⟨its2, rv2, p2, _⟩ := I.tuple hT
    exact ⟨b, _, rx, p2, Vals.ints rv2⟩
  · rw [← hlen] at e
    obtain ⟨x, hx, rx⟩ := vals_getU rv e
    exact ⟨x, H, I.kept k, rx, hq x hx⟩
theorem cr_minL {X : Cx} (ec : X.calm = true) (hu : X.A.units + 1 < cLine) : CallR X (.builtin "min") (fun vs H Q => rMin X.K vs H Q ∨ rMinT X.K vs H Q) := by
  intro pins s σ H xs us Q I hv h
  rcases h with h | h
  · exact cr_min ec pins s σ H xs us Q I hv h
  · exact cr_minT ec hu pins s σ H xs us Q I hv h
def unRowT : PyData → Option (List Int)
  | .tuple ds => unInts ds
  | _ => none
def unRowsT : List PyData → Option (List (List Int))
  | [] => some []
  | d :: r => match unRowT d with
    | none => none
    | some ns => (unRowsT r).map (ns :: ·)
theorem unRowsT_rp {K : PySem.W.Frag} {G : Hp} : ∀ {vs : List V} {ds : List PyData} {rows : List (List Int)}, RpAll K G vs ds → unRowsT ds = some rows → vs.length = rows.length ∧ ∀ (i : Nat) (r : V), vs[i]? = some r → ∃ b, r = .ref b ∧ SqT K G b ((rows.getD i []).map V.int)
  | _, _, rows, .nil, h => by cases h; exact ⟨rfl, fun i r e => by cases e⟩
  | _, _, rows, .cons (d := d) h1 t, h => by
    rename_i v vs ds
    unfold unRowsT at h
    cases q : unRowT d with
    | none => rw [q] at h; cases h
    | some ns =>
      rw [q] at h
      cases q2 : unRowsT ds with
      | none => rw [q2] at h; cases h
      | some rs =>
        rw [q2] at h
        obtain rfl : ns :: rs = rows := Option.some.inj h
        obtain ⟨e1, e2⟩ := unRowsT_rp t q2
        refine ⟨congrArg (· + 1) e1, fun i r e => ?_⟩
        cases i with
        | succ i => exact e2 i r e
        | zero =>
          obtain rfl : v = r := Option.some.inj e
          cases h1 with
          | @tup a xs ds2 g1 g2 =>
            obtain ⟨p1, _⟩ := unInts_rp g2 q
            exact ⟨a, rfl, by rw [show ((ns :: rs).getD 0 []) = ns from rfl, ← p1]; exact g1⟩
          | _ => cases q
def minI : List Int → Int
  | [] => 0
  | [i] => i
  | i :: r => min i (minI r)
theorem minI_le : ∀ {ns : List Int} {k : Int}, k ∈ ns → minI ns ≤ k
  | [], k, h => by cases h
  | [i], k, h => by rw [List.mem_singleton.mp h]; exact Int.le_refl _
  | i :: j :: r, k, h => by
    show min i (minI (j :: r)) ≤ k
    rcases List.mem_cons.mp h with rfl | h
    · omega
    · have := minI_le h; omega
theorem minI_mem : ∀ {ns : List Int}, 0 < ns.length → minI ns ∈ ns
  | [i], _ => List.mem_singleton.mpr rfl
  | i :: j :: r, _ => by
    have := minI_mem (ns := j :: r) (Nat.succ_pos _)
    show min i (minI (j :: r)) ∈ _
    by_cases h : i ≤ minI (j :: r)
    · rw [Int.min_eq_left h]; exact List.mem_cons_self ..
    · rw [Int.min_eq_right (by omega)]; exact List.mem_cons_of_mem _ this
def oMinL : List PyData → Option PyData
  | [.list ds] => match unInts ds with
    | some ns => if 0 < ns.length then some (.int (minI ns)) else none
    | none => match unRowsT ds with
      | some rows => ds[argBest (btL rows) (rows.length - 1)]?
      | none => none
  | _ => none
theorem cd_minL {X : Cx} {E : WX} : CaD X E (fun vs H Q => rMin X.K vs H Q ∨ rMinT X.K vs H Q) oMinL := by
  intro σ G H ρ xs ds c Q R hx ho h
  unfold oMinL at ho
  split at ho
  · rename_i ds
    obtain ⟨v, rfl, q1⟩ := rpAll1 hx
    cases q : unInts ds with
    | some ns =>
      rw [q] at ho
      simp only at ho
      by_cases hp : 0 < ns.length
      case neg => rw [if_neg hp] at ho; cases ho
      rw [if_pos hp] at ho
      cases ho
      cases q1 with
      | lst h1 h2 =>
        obtain ⟨p1, p2⟩ := unInts_rp h2 q
        refine .inl ⟨_, ns, rfl, by rw [← p1]; exact SqL.of (R.gh _ _ h1), hp, fun m hm hle => ?_⟩
        have e : m = minI ns := by
          have h1 := hle _ (minI_mem hp)
          have h2 := minI_le hm
          omega
        rw [e]
        exact Post.done R h (.int _)
    | none =>
      rw [q] at ho
      cases q2 : unRowsT ds with
      | none => rw [q2] at ho; cases ho
      | some rows =>
        rw [q2] at ho
        have ho : ds[argBest (btL rows) (rows.length - 1)]? = some c := ho
        cases q1 with
        | lst h1 h2 =>
          obtain ⟨p1, p2⟩ := unRowsT_rp h2 q2
          have hl := RpAll.len h2
          obtain ⟨w, w1, w2⟩ := RpAll.get h2 ho
          have hpos : 0 < ds.length := by have := (List.getElem?_eq_some_iff.mp ho).1; omega
          refine .inr ⟨_, _, rows, rfl, SqL.of (R.gh _ _ h1), p1, by omega, fun i r e => ?_, fun v e => ?_⟩
          · obtain ⟨b, e1, e2⟩ := p2 i r e
            exact ⟨b, e1, Same.seqT R.gh e2⟩
          · rw [p1, w1] at e
            cases e
            exact Post.done R h w2
  · cases ho
section
variable {X : Cx} {E : WX} {pos : Pos} {a : Expr} {es : List Expr} {fa : DEnv → Res PyData} {fs : DEnv → Res (List PyData)}
/-- a display's pair whose key is a whole number -/
theorem dp_consI {keys : List (Option Expr)} {ks : List Key} {i : Int} {j : Nat} {kp : Pos} (ha : EJ X E a fa) (hr : DispJ X E pos keys es ks fs) : DispJ X E pos (some (.Constant (.int i) j kp) :: keys) (a :: es) (.inl i :: ks) (dCons fa fs) := by
  obtain ⟨ta, qa, pa⟩ := ha
  obtain ⟨⟨l1, l2, l3⟩, trs, q, p⟩ := hr
  refine ⟨⟨congrArg (· + 1) l1, l2, congrArg (· + 1) l3⟩, (tC (.int i), ta) :: trs, pps_cons pe_int qa q, fun σ G H ρ Q R h => ?_⟩
  show ta σ H fun y H1 => tPairs trs σ H1 fun ps H2 => Q ((.int i, y) :: ps) H2
  refine pa σ G H ρ _ R (Post.bind h fun G1 H1 y d ρ1 R1 S1 hy h1 => p σ G1 H1 ρ1 _ R1 (Post.bind h1 fun G2 H2 ps ds ρ2 R2 S2 hps h2 => ?_))
  obtain ⟨kvs, e1, e2, e3⟩ := hps
  exact Post.done R2 h2 ⟨(.inl i, y) :: kvs, by rw [e1]; rfl, .cons ⟨rfl, Rp.mono S2.same hy⟩ e2, congrArg (· + 1) e3⟩
end
end DL

set_option Elab.async false
set_option linter.all false
set_option maxRecDepth 100000
set_option maxHeartbeats 4000000
/-! DL part 26: dicts that are given away: frozen, as values. -/
namespace DL
open PySem PySem.Spec PyProof.Rows L2

theorem kvAll_mono {K : PySem.W.Frag} {G G' : Hp} (e : Same G G') : ∀ {vs : List (Key × V)} {kvs : List (Key × PyData)}, KvAll K G vs kvs → KvAll K G' vs kvs
  | _, _, .nil => .nil
  | _, _, .cons ⟨h1, h2⟩ t => .cons ⟨h1, Rp.mono e h2⟩ (kvAll_mono e t)
theorem kv_split {K : PySem.W.Frag} {G : Hp} : ∀ {vs : List (Key × V)} {kvs : List (Key × PyData)}, KvAll K G vs kvs → vs = (kvs.map (·.1)).zip (vs.map (·.2)) ∧ (kvs.map (·.1)).length = (vs.map (·.2)).length ∧ RpAll K G (vs.map (·.2)) (kvs.map (·.2)) ∧ kvs = (kvs.map (·.1)).zip (kvs.map (·.2))
  | _, _, .nil => ⟨rfl, rfl, .nil, rfl⟩
  | (k, v) :: vs, (k', d) :: kvs, .cons ⟨h1, h2⟩ t => by
    obtain ⟨e1, e2, e3, e4⟩ := kv_split t
    have h1 : k = k' := h1
    subst h1
    exact ⟨congrArg ((k, v) :: ·) e1, congrArg (· + 1) e2, .cons h2 e3, congrArg ((k, d) :: ·) e4⟩
theorem kv_join {K : PySem.W.Frag} {G : Hp} : ∀ {vs : List V} {ds : List PyData} {ks : List Key}, ks.length = vs.length → RpAll K G vs ds → KvAll K G (ks.zip vs) (ks.zip ds)
  | _, _, [], _, .nil => .nil
  | _, _, k :: ks, h, .cons h1 t => .cons ⟨rfl, h1⟩ (kv_join (Nat.succ.inj h) t)
theorem rp_dk {K : PySem.W.Frag} {G : Hp} {a : Addr} {vs : List (Key × V)} {kvs : List (Key × PyData)} (h : G a = some (.dK vs)) (t : KvAll K G vs kvs) : Rp K G (.ref a) (dkD kvs) := by
  obtain ⟨e1, e2, e3, e4⟩ := kv_split t
  rw [e4]
  exact .dic (by rw [← e1]; exact h) e2 e3
theorem Rel.frzK {K : PySem.W.Frag} {G H : Hp} {σ : St} {ρ : DEnv} {i : Nat} (R : Rel K G σ H ρ) {kvs : List (Key × PyData)} (h0 : ρ[i]? = some (.own (.dk kvs))) : ∃ G', Rel K G' σ H (ρ.set i (.val (dkD kvs))) ∧ Stp G H σ ρ G' H σ (ρ.set i (.val (dkD kvs))) := by
  obtain ⟨v0, hv0, p, rfl, hg, vs, hv, hd⟩ := R.cell i _ h0
  have s1 : Same G (upd G p (.dK vs)) := same_upd hg
  have apart : ∀ j c b, j ≠ i → ρ[j]? = some c → c.isOwn = true → σ[j]? = some (some (.ref b)) → b ≠ p := fun j c b ne e w a z => R.sep j i p ne ⟨by rw [a, z], c, e, w⟩ ⟨hv0, _, h0, rfl⟩
  refine ⟨upd G p (.dK vs), ⟨fun b u z => ?_, by rw [List.length_set]; exact R.len, fun j c e => ?_, fun j k q hjk a b => ?_⟩, ⟨s1, fun _ _ h _ _ => h, fun _ h => h, fun b u z => ?_, fun b => ?_, fun j o e => ?_, fun j o e => ?_, by first | rfl | simp⟩⟩
  · by_cases hb : b = p
    · subst hb; rw [upd_same] at z; cases z; exact hv
    · rw [upd_ne hb] at z; exact R.gh b u z
  · rcases getset e with ⟨rfl, rfl, _⟩ | ⟨ne, e⟩
    · exact ⟨_, hv0, _, rfl, rp_dk upd_same (kvAll_mono s1 hd)⟩
    · obtain ⟨v, e1, q⟩ := R.cell j c e
      refine ⟨v, e1, ?_⟩
      cases c with
      | un => trivial
      | val d => obtain ⟨x, e2, q⟩ := q; exact ⟨x, e2, Rp.mono s1 q⟩
      | own o => obtain ⟨b, e2, g, q⟩ := q; exact ⟨b, e2, by rw [upd_ne (apart j _ b ne e rfl (e2 ▸ e1))]; exact g, q.mono s1 fun _ y => y⟩
      | io o => obtain ⟨b, e2, g, q⟩ := q; exact ⟨b, e2, by rw [upd_ne (apart j _ b ne e rfl (e2 ▸ e1))]; exact g, q.mono s1 fun _ y => y⟩
  · obtain ⟨a1, c1, a2, a3⟩ := a
    obtain ⟨b1, c2, b2, b3⟩ := b
    rcases getset a2 with ⟨rfl, rfl, _⟩ | ⟨ne, e⟩
    · cases a3
    · rcases getset b2 with ⟨rfl, rfl, _⟩ | ⟨ne2, e2⟩
      · cases b3
      · exact R.sep j k q hjk ⟨a1, c1, e, a3⟩ ⟨b1, c2, e2, b3⟩
  · by_cases hb : b = p
    · subst hb; exact .inr (.inr ⟨i, _, h0, hv0⟩)
    · rw [upd_ne hb] at z; exact .inl z
  · rintro ⟨j, o, e, w⟩
    rcases getset e with ⟨rfl, z, _⟩ | ⟨ne, e⟩
    · cases z
    · exact .inl ⟨j, o, e, w⟩
  · by_cases hj : j = i
    · subst hj; rw [h0] at e; cases e
    · rw [List.getElem?_set_ne (Ne.symm hj)]; exact ⟨rfl, o, e⟩
  · rcases getset e with ⟨rfl, z, _⟩ | ⟨ne, e⟩
    · cases z
    · exact ⟨o, e⟩

def frzKO (c : Option Cell) (i : Nat) (ρ : DEnv) : DEnv := match c with
  | some (.own (.dk kvs)) => ρ.set i (.val (dkD kvs))
  | _ => ρ
def sFrzK (i : Nat) (f : DEnv → Res Out) : DEnv → Res Out := fun ρ => f (frzKO ρ[i]? i ρ)
theorem s_frzK {X : Cx} {E : WX} {st : Stmt} {f : DEnv → Res Out} (i : Nat) (h : SJ X E st f) : SJ X E st (sFrzK i f) := by
  obtain ⟨t, q, p⟩ := h
  refine ⟨t, q, fun σ G H ρ D R h => ?_⟩
  have h : SPost X.K X.mg E D σ G H ρ (f (frzKO ρ[i]? i ρ)) := h
  cases e : ρ[i]? with
  | none => rw [e] at h; exact p σ G H ρ D R h
  | some c =>
    cases c with
    | un => rw [e] at h; exact p σ G H ρ D R h
    | val _ => rw [e] at h; exact p σ G H ρ D R h
    | io _ => rw [e] at h; exact p σ G H ρ D R h
    | own o =>
      cases o with
      | lst _ => rw [e] at h; exact p σ G H ρ D R h
      | dt _ => rw [e] at h; exact p σ G H ρ D R h
      | ins _ _ => rw [e] at h; exact p σ G H ρ D R h
      | dn _ => rw [e] at h; exact p σ G H ρ D R h
      | ts _ _ _ => rw [e] at h; exact p σ G H ρ D R h
      | dk ds =>
        rw [e] at h
        obtain ⟨G', R', S'⟩ := R.frzK e
        exact p σ G' H _ D R' (SPost.from S' h)
/-! ### d[k], d a frozen dict -/
def unps : List (PyData × PyData) → Option (List (Key × PyData))
  | [] => some []
  | (k, d) :: r => match keyD k with
    | some k => (unps r).map ((k, d) :: ·)
    | none => none
def undk : PyData → Option (List (Key × PyData))
  | .dict ((.bool true, .none) :: ps) => unps ps
  | _ => none
theorem unps_dk : ∀ kvs : List (Key × PyData), unps (kvs.map fun kv => (keyDat kv.1, kv.2)) = some kvs
  | [] => rfl
  | (.inl i, d) :: kvs => by
    show (unps (kvs.map fun kv => (keyDat kv.1, kv.2))).map ((.inl i, d) :: ·) = _
    rw [unps_dk kvs]; rfl
  | (.inr i, d) :: kvs => by
    show (unps (kvs.map fun kv => (keyDat kv.1, kv.2))).map ((.inr i, d) :: ·) = _
    rw [unps_dk kvs]; rfl
theorem undk_dk (kvs : List (Key × PyData)) : undk (dkD kvs) = some kvs := unps_dk kvs
theorem unps_of : ∀ {ps : List (PyData × PyData)} {kvs : List (Key × PyData)}, unps ps = some kvs → ps = kvs.map fun kv => (keyDat kv.1, kv.2)
  | [], kvs, h => by cases h; rfl
  | (k, d) :: ps, kvs, h => by
    unfold unps at h
    cases q : keyD k with
    | none => rw [q] at h; cases h
    | some k1 =>
      rw [q] at h
      cases q2 : unps ps with
      | none => rw [q2] at h; cases h
      | some r =>
        rw [q2] at h
        obtain rfl : (k1, d) :: r = kvs := Option.some.inj h
        rw [unps_of q2, List.map_cons]
        congr 2
        cases k <;> first | (cases q; rfl) | cases q
theorem undk_of {d : PyData} {kvs : List (Key × PyData)} (h : undk d = some kvs) : d = dkD kvs := by
  unfold undk at h
  split at h
  · unfold dkD; rw [unps_of h]
  · cases h
def dKGet (i : Nat) (f : DEnv → Res PyData) : DEnv → Res PyData := fun ρ => match ρ[i]? with
  | some (.val _) => (f ρ).bind fun k ρ1 => match ρ1[i]? with
    | some (.val d) => Res.of ((undk d).bind fun kvs => (keyD k).bind fun k => valD kvs k) ρ1
    | _ => .bad
  | _ => .bad
theorem e_kget {X : Cx} {E : WX} {x : Str} {a : Expr} {fa : DEnv → Res PyData} {pos px : Pos} (i : Nat) (hu : X.A.units + 1 < cLine) (hx : PE X (.Name x px) (tVar i)) (ha : EJ X E a fa) (hs : NoSl a) : EJ X E (.Subscript (.Name x px) a pos) (dKGet i fa) := by
  obtain ⟨t, q, p⟩ := ha
  refine ⟨_, pe_dget hu hx q hs, fun σ G H ρ Q R h => ?_⟩
  unfold dKGet at h
  cases c0 : ρ[i]? with
  | none => rw [c0] at h; exact h.elim
  | some c =>
    rw [c0] at h
    cases c with
    | val d0 =>
      obtain ⟨v, e0, v', rfl, _⟩ := R.cell i _ c0
      refine ⟨v', e0, p σ G H ρ _ R (Post.bind h fun G1 H1 y k ρ1 R1 S1 hy h1 => ?_)⟩
      cases c1 : ρ1[i]? with
      | none => rw [c1] at h1; exact h1.elim
      | some c =>
        rw [c1] at h1
        cases c with
        | val d =>
          have h1 : EPost X E σ G1 H1 ρ1 Q (Res.of ((undk d).bind fun kvs => (keyD k).bind fun k => valD kvs k) ρ1) := h1
          obtain ⟨v2, e2, v3, rfl, hr⟩ := R1.cell i _ c1
          rw [e0] at e2
          cases e2
          cases q0 : undk d with
          | none => rw [q0] at h1; exact h1.elim
          | some kvs =>
            rw [q0] at h1
            obtain rfl := undk_of q0
            generalize hd : dkD kvs = d at hr
            cases hr with
            | @dic b ks vs ds g1 g2 g3 =>
              have hk : undk (dkD (ks.zip ds)) = undk (dkD kvs) := by rw [hd]
              rw [undk_dk, undk_dk] at hk
              have hk := Option.some.inj hk
              subst hk
              have h1 : EPost X E σ G1 H1 ρ1 Q (Res.of ((undk (dkD (ks.zip ds))).bind fun kvs => (keyD k).bind fun k => valD kvs k) ρ1) := h1
              rw [undk_dk, Option.bind_some] at h1
              cases q1 : keyD k with
              | none => simp only [q1, Option.bind_some] at h1; exact h1.elim
              | some k1 =>
                cases q2 : valD (ks.zip ds) k1 with
                | none => simp only [q1, Option.bind_some, q2] at h1; exact h1.elim
                | some c =>
                  simp only [q1, Option.bind_some, q2] at h1
                  obtain ⟨v, w1, w2⟩ := kv_get (kv_join g2 g3) q2
                  exact ⟨b, v, rfl, .inl ⟨_, k1, .inl (R1.gh _ _ g1), keyD_kV hy q1, w1.symm⟩, Post.done R1 h1 w2⟩
            | scr _ => cases hd
            | _ => cases hd
        | _ => exact h1.elim
    | _ => exact h.elim
section
variable {Z : Exn → DEnv → Prop} {ρ : DEnv} {Q : PyData → DEnv → Prop} {S : Out → DEnv → Prop}
theorem ws_frzK (i : Nat) (f : DEnv → Res Out) : WpX Z (sFrzK i f ρ) S = WpX Z (f (frzKO ρ[i]? i ρ)) S := rfl
theorem frzKO_own (kvs : List (Key × PyData)) (i : Nat) (ρ : DEnv) : frzKO (some (.own (.dk kvs))) i ρ = ρ.set i (.val (dkD kvs)) := rfl
theorem frzKO_val (d : PyData) (i : Nat) (ρ : DEnv) : frzKO (some (.val d)) i ρ = ρ := rfl
theorem wp_kget (i : Nat) (f : DEnv → Res PyData) : WpX Z (dKGet i f ρ) Q = cellQ (fun _ _ => WpX Z (f ρ) fun k ρ1 => cellQ (fun d ρ1 => WpX Z (Res.of ((undk d).bind fun kvs => (keyD k).bind fun k => valD kvs k) ρ1) Q) ρ1[i]? ρ1) ρ[i]? ρ := by
  unfold dKGet
  cases ρ[i]? with
  | none => exact wp_bad _
  | some c =>
    cases c with
    | val d =>
      show WpX Z ((f ρ).bind _) Q = WpX Z (f ρ) _
      rw [wp_bind]
      congr 1
      funext k ρ1
      cases ρ1[i]? with
      | none => exact wp_bad _
      | some c => cases c <;> first | rfl | exact wp_bad _
    | _ => exact wp_bad _
end
end DL

set_option Elab.async false
set_option linter.all false
set_option maxRecDepth 100000
set_option maxHeartbeats 4000000
/-! DL part 27: reckoning of comprehensions with two generators over mapped lists. -/
namespace DL
open PySem PySem.Spec PyProof.Rows L2
theorem flatMap_len_le {α β : Type} (g : α → List β) : ∀ (xs : List α) (i : Nat), ((xs.take i).flatMap g).length ≤ (xs.flatMap g).length
  | [], i => by rw [List.take_nil]; exact Nat.le_refl _
  | x :: xs, 0 => by rw [List.take_zero]; exact Nat.zero_le _
  | x :: xs, i + 1 => by
    rw [List.take_succ_cons, List.flatMap_cons, List.flatMap_cons, List.length_append, List.length_append]
    have := flatMap_len_le g xs i
    omega
theorem take_filter_len {α : Type} (p : α → Bool) (xs : List α) (i : Nat) : ((xs.take i).filter p).length ≤ i := by
  have h1 := List.length_filter_le p (xs.take i)
  rw [List.length_take] at h1
  omega
/-- an inner comprehension, behind what is made already -/
theorem wp_lcFil {β : Type} {vs : List Nat} {gd : PyData → DEnv → Option DEnv} {ft : DEnv → Res Bool} {fe : DEnv → Res PyData} {L : List PyData → DEnv → Prop} {ys : List β} {e : β → PyData} {ρ : DEnv} {acc : List PyData} (p : β → Bool) (f : β → PyData) (hl : acc.length + ys.length ≤ 1000000)
    (st : ∀ y ∈ ys, ∃ ρ1, gd (e y) ρ = some ρ1 ∧ WpX Zn (ft ρ1) fun b ρ2 => b = p y ∧ if b = true then WpX Zn (fe ρ2) (fun z ρ3 => z = f y ∧ wipeC ρ3 vs = ρ) else wipeC ρ2 vs = ρ)
    (fin : L (acc ++ (ys.filter p).map f) ρ) : WpX Zn (lcL vs gd ft fe (ys.map e) acc ρ) L := by
  refine wp_lcL_from (fun i a ρ' => ρ' = ρ ∧ a = acc ++ ((ys.take i).filter p).map f) (ys.map e) 0 acc ρ ⟨rfl, by rw [List.take_zero]; exact (List.append_nil _).symm⟩ (small_line (by rw [List.length_map]; exact hl)) (fun i d a ρ' hd h => ?_) fun a ρ' h => ?_
  · obtain ⟨rfl, rfl⟩ := h
    rw [Nat.zero_add]
    rw [List.getElem?_map] at hd
    cases q : ys[i]? with
    | none => rw [q] at hd; cases hd
    | some y =>
      rw [q] at hd
      obtain rfl : e y = d := Option.some.inj hd
      obtain ⟨ρ1, h1, h2⟩ := st y (List.mem_of_getElem? q)
      refine ⟨ρ1, h1, ?_⟩
      obtain ⟨b, ρ2, e2, rfl, h3⟩ := h2.get
      refine .ok e2 ?_
      rw [List.take_add_one, q, List.filter_append]
      by_cases hp : p y = true
      · rw [if_pos hp] at h3 ⊢
        obtain ⟨z, ρ3, e3, rfl, rfl⟩ := h3.get
        refine .ok e3 ⟨rfl, ?_⟩
        have e1 : (some y).toList.filter p = [y] := by
          show [y].filter p = [y]
          rw [List.filter_cons, if_pos hp]; rfl
        rw [e1, List.map_append, List.append_assoc]
        rfl
      · rw [if_neg hp] at h3 ⊢
        refine ⟨h3, ?_⟩
        have e1 : (some y).toList.filter p = [] := by
          show [y].filter p = []
          rw [List.filter_cons, if_neg hp]; rfl
        rw [e1, List.append_nil]
  · obtain ⟨rfl, rfl⟩ := h
    rw [Nat.zero_add, List.length_map, List.take_length]
    exact fin
/-- two generators over mapped lists, with a test in the inner one -/
theorem wp_lc2Fil {α β : Type} {vs vs1 : List Nat} {gd gd1 : PyData → DEnv → Option DEnv} {fi1 : DEnv → Res (List PyData)} {ft1 : DEnv → Res Bool} {fe : DEnv → Res PyData} {L : List PyData → DEnv → Prop} {xs : List α} {e : α → PyData} {ρ : DEnv} (ys : α → List β) (e1 : α → β → PyData) (p : α → β → Bool) (f : α → β → PyData) (hl : (xs.flatMap ys).length ≤ 1000000)
    (st : ∀ x ∈ xs, ∃ ρ1, gd (e x) ρ = some ρ1 ∧ WpX Zn (fi1 ρ1) fun ds1 ρ3 => ds1 = (ys x).map (e1 x) ∧ wipeC (wipeC ρ3 vs1) vs = ρ ∧
      ∀ y ∈ ys x, ∃ ρ4, gd1 (e1 x y) (wipeC ρ3 vs1) = some ρ4 ∧ WpX Zn (ft1 ρ4) fun b ρ5 => b = p x y ∧ if b = true then WpX Zn (fe ρ5) (fun z ρ6 => z = f x y ∧ wipeC ρ6 vs1 = wipeC ρ3 vs1) else wipeC ρ5 vs1 = wipeC ρ3 vs1)
    (fin : L (xs.flatMap fun x => ((ys x).filter (p x)).map (f x)) ρ) : WpX Zn (lc2 vs vs1 gd tTrue fi1 gd1 ft1 fe (xs.map e) [] ρ) L := by
  have hb : ∀ i, ((xs.take i).flatMap fun x => ((ys x).filter (p x)).map (f x)).length ≤ ((xs.take i).flatMap ys).length := fun i => by
    generalize xs.take i = zs
    induction zs with
    | nil => exact Nat.le_refl _
    | cons z zs ih =>
      rw [List.flatMap_cons, List.flatMap_cons, List.length_append, List.length_append, List.length_map]
      have := List.length_filter_le (p z) (ys z)
      omega
  refine wp_lc2L (fun i a ρ' => ρ' = ρ ∧ a = (xs.take i).flatMap fun x => ((ys x).filter (p x)).map (f x)) ⟨rfl, by rw [List.take_zero]; rfl⟩ (fun i d a ρ' hd h => ?_) fun a ρ' h => ?_
  · obtain ⟨rfl, rfl⟩ := h
    rw [List.getElem?_map] at hd
    cases q : xs[i]? with
    | none => rw [q] at hd; cases hd
    | some x =>
      rw [q] at hd
      obtain rfl : e x = d := Option.some.inj hd
      obtain ⟨ρ1, h1, h2⟩ := st x (List.mem_of_getElem? q)
      refine ⟨ρ1, h1, ?_⟩
      rw [wp_tTrue, if_pos rfl]
      obtain ⟨ds1, ρ3, e3, rfl, h4, h5⟩ := h2.get
      refine .ok e3 (wp_lcFil (p x) (f x) ?_ h5 ⟨h4, ?_⟩)
      · have h6 := hb i
        have h7 := flatMap_len_le ys xs (i + 1)
        rw [List.take_add_one, q, List.flatMap_append, List.length_append] at h7
        have h8 : ((some x).toList.flatMap ys).length = (ys x).length := by show ([x].flatMap ys).length = _; rw [List.flatMap_cons, List.flatMap_nil, List.append_nil]
        omega
      · rw [List.take_add_one, q, List.flatMap_append]
        congr 1
        show _ = [x].flatMap _
        rw [List.flatMap_cons, List.flatMap_nil, List.append_nil]
  · obtain ⟨rfl, rfl⟩ := h
    rw [List.length_map, List.take_length]
    exact fin
end DL

set_option Elab.async false
set_option linter.all false
set_option maxRecDepth 100000
set_option maxHeartbeats 4000000
/-! DL part 29: instances of own classes that a def holds or was lent. -/
namespace DL
open PySem PySem.Spec PyProof.Rows L2

/-- what the top says of a class, and of the names that its instances bear -/
structure ClsF (K : PySem.W.Frag) (mg : Str → Option Value) (c : Str) (fields : List Str) : Prop where
  ex : ∃ C, PySem.W.nsIn K mainGlobals c = some (some (.ref C)) ∧ mg c = some (.ref C) ∧ Cls K C ∧ ∀ f ∈ fields, NoAttr K C f
/-- a method, and its promise -/
structure KeptM (P : Program) (w : World) (K : PySem.W.Frag) (mg : Str → Option Value) (base : Heap) (CX : CXT) (k : Nat) (c m : Str) (ps : List Str) (den : DEnv → Res PyData) : Prop where
  ex : ∃ (C f : Addr) (fd : FuncData), PySem.W.nsIn K mainGlobals c = some (some (.ref C)) ∧ Cls K C ∧ Meth K C m f ∧ Binds K fd ps [] ∧ FnOk P w K mg base CX k f fd ps (spD K mg ps.length den)
/-- how a method stands behind the top -/
structure IsMeth (K : PySem.W.Frag) (c m qual : Str) (st : Stmt) (ps : List Str) (f : Addr) (fd : FuncData) : Prop where
  fn : Fun K m qual st f fd
  bi : Binds K fd ps []
  cl : ∃ C, PySem.W.nsIn K mainGlobals c = some (some (.ref C)) ∧ Cls K C ∧ Meth K C m f
structure KeptI (P : Program) (w : World) (K : PySem.W.Frag) (mg : Str → Option Value) (base : Heap) (CX : CXT) (k : Nat) (c : Str) (ps : List Str) (den : DEnv → Res PyData) : Prop where
  ex : ∃ (C f : Addr) (fd : FuncData), PySem.W.nsIn K mainGlobals c = some (some (.ref C)) ∧ mg c = some (.ref C) ∧ Mk K C f ∧ Binds K fd ps [] ∧ FnOk P w K mg base CX k f fd ps (spD K mg ps.length den)
structure IsInit (K : PySem.W.Frag) (mg : Str → Option Value) (c qual : Str) (st : Stmt) (ps : List Str) (f : Addr) (fd : FuncData) : Prop where
  fn : Fun K "__init__" qual st f fd
  bi : Binds K fd ps []
  cl : ∃ C, PySem.W.nsIn K mainGlobals c = some (some (.ref C)) ∧ mg c = some (.ref C) ∧ Mk K C f
section
variable {P : Program} {w : World} {K : PySem.W.Frag} {mg : Str → Option Value} {base : Heap}
theorem fnok_ofF {x qual : Str} {st : Stmt} {f : Addr} {fd : FuncData} {N ps : List Str} {k m : Nat} {body : DEnv → Res Out} (D : Fun K x qual st f fd) (S : FnScope N ps (defScope st)) (hN : N.length = ps.length + m)
    (hb : ∀ (cdv : Value) (A : Around) (outer : List Env) (s : Shared) (H : Hp) (E : XK), Room k (A.deeper (envOfC qual (defScope st) s.heap.objs.size f cdv)) → BJ (cxOf CX0 P w K mg base N qual (defScope st) f cdv A outer s H E).nox (upE E) (defBody st) body) :
    FnOk P w K mg base CX0 (k + 1) f fd ps (spD K mg ps.length (defD m body)) := by
  refine D.ok S (fun vs H Q E h => ?_) fun cdv A outer s H vs Q E hr h => ?_
  · obtain ⟨_, _, h, _⟩ := h
    exact h
  · obtain ⟨G, cs, hl, ha, R, h⟩ := h
    obtain ⟨t, q, p⟩ := (hb cdv A outer s H E hr).ex
    refine ⟨t, q, ?_⟩
    have hst : L2.start N vs = vs.map some ++ List.replicate m none := by
      unfold L2.start
      rw [hN, hl]
      congr 2
      omega
    rw [hst]
    have R0 := R.ext m
    have p' : ∀ (σ : St) (G H : Hp) (ρ : DEnv) (D : Ends), Rel K G σ H ρ → SPost K mg (upE E) D σ G H ρ (body ρ) → t D σ H := p
    refine p' _ G H (cs ++ List.replicate m .un) _ R0 ?_
    show SPost K mg (upE E) _ (vs.map some ++ List.replicate m none) G H (cs ++ List.replicate m .un) (body (cs ++ List.replicate m .un))
    unfold defD at h
    cases r : body (cs ++ List.replicate m .un) with
    | bad => rw [r] at h; exact h
    | err x ρ' =>
      rw [r] at h
      intro G' H' σ' c od R' S' q
      obtain ⟨R2, S2⟩ := back_ok ha R R' S'
      exact h G' H' c od R2 S2 q
    | ok o ρ' =>
      rw [r] at h
      cases o with
      | nx =>
        intro G' H' σ' R' S'
        obtain ⟨R2, S2⟩ := back_ok ha R R' S'
        exact h G' H' .non R2 S2 .non
      | rt d =>
        intro G' H' σ' v R' S' q
        obtain ⟨R2, S2⟩ := back_ok ha R R' S'
        exact h G' H' v R2 S2 q
      | bk => exact h.elim
      | ct => exact h.elim
theorem keptM_of {c mth qual : Str} {st : Stmt} {f : Addr} {fd : FuncData} {N ps : List Str} {k m : Nat} {body : DEnv → Res Out} (D : IsMeth K c mth qual st ps f fd) (S : FnScope N ps (defScope st)) (hN : N.length = ps.length + m)
    (hb : ∀ (cdv : Value) (A : Around) (outer : List Env) (s : Shared) (H : Hp) (E : XK), Room k (A.deeper (envOfC qual (defScope st) s.heap.objs.size f cdv)) → BJ (cxOf CX0 P w K mg base N qual (defScope st) f cdv A outer s H E).nox (upE E) (defBody st) body) :
    KeptM P w K mg base CX0 (k + 1) c mth ps (defD m body) := by
  obtain ⟨C, n, cl, mt⟩ := D.cl
  exact ⟨C, f, fd, n, cl, mt, D.bi, fnok_ofF D.fn S hN hb⟩
theorem keptI_of {c qual : Str} {st : Stmt} {f : Addr} {fd : FuncData} {N ps : List Str} {k m : Nat} {body : DEnv → Res Out} (D : IsInit K mg c qual st ps f fd) (S : FnScope N ps (defScope st)) (hN : N.length = ps.length + m)
    (hb : ∀ (cdv : Value) (A : Around) (outer : List Env) (s : Shared) (H : Hp) (E : XK), Room k (A.deeper (envOfC qual (defScope st) s.heap.objs.size f cdv)) → BJ (cxOf CX0 P w K mg base N qual (defScope st) f cdv A outer s H E).nox (upE E) (defBody st) body) :
    KeptI P w K mg base CX0 (k + 1) c ps (defD m body) := by
  obtain ⟨C, n, g, mk⟩ := D.cl
  exact ⟨C, f, fd, n, g, mk, D.bi, fnok_ofF D.fn S hN hb⟩
end
/-! ### fields -/
def putP (f : Str) (d : PyData) : List (Str × PyData) → List (Str × PyData)
  | [] => [(f, d)]
  | p :: r => if p.1 = f then (p.1, d) :: r else p :: putP f d r
def getP (f : Str) : List (Str × PyData) → Option PyData
  | [] => none
  | p :: r => if p.1 = f then some p.2 else getP f r
theorem kv_getF {K : PySem.W.Frag} {G : Hp} {f : Str} {d : PyData} : ∀ {vs : List (Str × V)} {fs : List (Str × PyData)}, KvAll K G vs fs → getP f fs = some d → ∃ v, vs.lookup f = some v ∧ Rp K G v d
  | _, _, .nil, h => by cases h
  | (k1, v1) :: vs, (k2, d2) :: fs, .cons h t, e => by
    obtain ⟨h1, h2⟩ := h
    cases h1
    unfold getP at e
    by_cases hk : k1 = f
    · subst hk
      rw [if_pos rfl] at e
      cases e
      exact ⟨v1, by simp [List.lookup], h2⟩
    · rw [if_neg hk] at e
      obtain ⟨v, a, b⟩ := kv_getF t e
      have hb : (f == k1) = false := by simpa using fun z : f = k1 => hk z.symm
      exact ⟨v, by simp [List.lookup, hb]; exact a, b⟩
theorem kv_noF {K : PySem.W.Frag} {G : Hp} {f : Str} : ∀ {vs : List (Str × V)} {fs : List (Str × PyData)}, KvAll K G vs fs → getP f fs = none → vs.lookup f = none
  | _, _, .nil, h => rfl
  | (k1, v1) :: vs, (k2, d2) :: fs, .cons h t, e => by
    obtain ⟨h1, h2⟩ := h
    cases h1
    unfold getP at e
    by_cases hk : k1 = f
    · subst hk
      rw [if_pos rfl] at e
      cases e
    · rw [if_neg hk] at e
      have hb : (f == k1) = false := by simpa using fun z : f = k1 => hk z.symm
      have e2 : List.lookup f ((k1, v1) :: vs) = List.lookup f vs := by simp only [List.lookup, hb]
      rw [e2]
      exact kv_noF t e
theorem kv_putF {K : PySem.W.Frag} {G : Hp} {f : Str} {v : V} {d : PyData} (hd : Rp K G v d) : ∀ {vs : List (Str × V)} {fs : List (Str × PyData)}, KvAll K G vs fs → KvAll K G (putF f v vs) (putP f d fs)
  | _, _, .nil => .cons ⟨rfl, hd⟩ .nil
  | (k1, v1) :: vs, (k2, d2) :: fs, .cons h t => by
    obtain ⟨h1, h2⟩ := h
    cases h1
    unfold putF putP
    by_cases hk : k1 = f
    · rw [if_pos hk, if_pos hk]
      exact .cons ⟨rfl, hd⟩ t
    · rw [if_neg hk, if_neg hk]
      exact .cons ⟨rfl, h2⟩ (kv_putF hd t)
/-- b.f -/
def dFld (c : Str) (i : Nat) (f : Str) : DEnv → Res PyData := fun ρ => match hobj i ρ with
  | some (.ins c' fs) => if c' = c then Res.of (getP f fs) ρ else .bad
  | _ => .bad
/-- b.f = e -/
def sFSet (c : Str) (i : Nat) (f : Str) (fa : DEnv → Res PyData) : DEnv → Res Out := fun ρ => (fa ρ).bind fun d ρ1 => match hobj i ρ1 with
  | some (.ins c' fs) => if c' = c ∧ fs.length < 1000 then .ok .nx (setHeld i (.ins c (putP f d fs)) ρ1) else .bad
  | _ => .bad
/-- b.m(es) -/
def insOk (c m : Str) (o : Option OD) : Bool := match o with
  | some (.ins c' fs) => decide (c' = c) && (getP m fs).isNone
  | _ => false
def dMeth (c m : Str) (den : DEnv → Res PyData) (i : Nat) (fs : DEnv → Res (List PyData)) : DEnv → Res PyData := fun ρ => if insOk c m (hobj i ρ) = true then dCallI den i fs ρ else .bad
/-- C(es) -/
def fMake (c : Str) (den : DEnv → Res PyData) (fs : DEnv → Res (List PyData)) : DEnv → Res OD := fun ρ => (fs ρ).bind fun ds ρ1 => match den (.io (.ins c []) :: ds.map .val) with
  | .ok .none (.io o' :: _) => .ok o' ρ1
  | _ => .bad
theorem make_step {K : PySem.W.Frag} {G H G' H' : Hp} {σ : St} {ρ : DEnv} {vs : List V} {ds : List PyData} {cs : DEnv} {p dx : Addr} {u1 u2 : HO} {o o' : OD} (R : Rel K G σ H ρ) (hp : H p = none) (hd : H dx = none)
    (R' : Rel K G' ((V.ref p :: vs).map some) H' (.io o' :: cs)) (S : Stp G (upd (upd H dx u1) p u2) ((V.ref p :: vs).map some) (.io o :: ds.map .val) G' H' ((V.ref p :: vs).map some) (.io o' :: cs)) :
    Rel K G' σ H' ρ ∧ Stp G H σ ρ G' H' σ ρ ∧ G' p = none ∧ OwnAt K G' H' p o' := by
  have nv : ∀ {j : Nat} {c : Cell}, (Cell.io o :: ds.map Cell.val)[j]? = some c → (j = 0 ∧ c = .io o) ∨ ∃ d, c = .val d := fun {j c} e => by
    cases j with
    | zero => cases e; exact .inl ⟨rfl, rfl⟩
    | succ j =>
      rw [List.getElem?_cons_succ, List.getElem?_map] at e
      cases q : ds[j]? with
      | none => rw [q] at e; cases e
      | some d => rw [q] at e; cases e; exact .inr ⟨d, rfl⟩
  have nL : ∀ b, ¬ OwnL ((V.ref p :: vs).map some) (.io o :: ds.map .val) b := fun b ⟨j, u, e, _⟩ => by
    rcases nv e with ⟨_, z⟩ | ⟨d, z⟩ <;> cases z
  have nI : ∀ b, OwnI ((V.ref p :: vs).map some) (.io o :: ds.map .val) b → b = p := fun b ⟨j, u, e, w⟩ => by
    rcases nv e with ⟨rfl, _⟩ | ⟨d, z⟩
    · cases w; rfl
    · cases z
  have hN : ∀ b u, H b = some u → b ≠ p ∧ b ≠ dx := fun b u e => ⟨ne_of_none e hp, ne_of_none e hd⟩
  have at_ : ∀ b u, H b = some u → upd (upd H dx u1) p u2 b = some u := fun b u e => by
    obtain ⟨a1, a2⟩ := hN b u e
    rw [upd_ne a1, upd_ne a2]
    exact e
  have fr : ∀ b u, H b = some u → H' b = some u := fun b u e => S.frame b u (at_ b u e) (nL b) fun z => (hN b u e).1 (nI b z)
  have none_ : ∀ b, upd (upd H dx u1) p u2 b = none → H b = none := fun b z => by
    cases q : H b with
    | none => rfl
    | some u => rw [at_ b u q] at z; cases z
  have old : ∀ b u, H b = some u → G b = none → G' b = none := fun b u e g => by
    cases q : G' b with
    | none => rfl
    | some u' =>
      rcases S.fresh b u' q with z | z | z
      · rw [g] at z; cases z
      · rw [none_ b z] at e; cases e
      · exact absurd z (nL b)
  obtain ⟨v0, e0, p0, z0, g0, q0⟩ := R'.cell 0 _ rfl
  cases e0
  cases z0
  refine ⟨⟨R'.gh, R.len, fun i c e => ?_, R.sep⟩, ⟨S.same, fun b u e _ _ => fr b u e, fun b z => ?_, fun b u e => ?_, fun b z => .inl z, fun _ o e => ⟨rfl, o, e⟩, fun _ o e => ⟨o, e⟩, rfl⟩, g0, q0⟩
  · obtain ⟨v, e1, q⟩ := R.cell i c e
    refine ⟨v, e1, ?_⟩
    cases c with
    | un => trivial
    | val d => obtain ⟨x, e2, q⟩ := q; exact ⟨x, e2, Rp.mono S.same q⟩
    | own o => obtain ⟨b, e2, g, q⟩ := q; obtain ⟨u, hu⟩ := q.ex; exact ⟨b, e2, old b u hu g, q.mono S.same fun u z => fr b u z⟩
    | io o => obtain ⟨b, e2, g, q⟩ := q; obtain ⟨u, hu⟩ := q.ex; exact ⟨b, e2, old b u hu g, q.mono S.same fun u z => fr b u z⟩
  · cases q : H b with
    | none => rfl
    | some u => rw [fr b u q] at z; cases z
  · rcases S.fresh b u e with z | z | z
    · exact .inl z
    · exact .inr (.inl (none_ b z))
    · exact absurd z (nL b)
section
variable {X : Cx} {E : WX} {e a : Expr} {es : List Expr} {fa : DEnv → Res PyData} {fs : DEnv → Res (List PyData)} {den : DEnv → Res PyData} {pos p px pos' apos : Pos} {x c f m : Str} {k : Nat} {ps fields : List Str}
theorem e_fld (i : Nat) (F : ClsF X.K X.mg c fields) (hf : f ∈ fields) (hx : PE X (.Name x px) (tVar i)) (hb : attributeBase (.Name x px) f X.env (eval (.Name x px) X.env) = eval (.Name x px) X.env := by rfl) : EJ X E (.Attribute (.Name x px) f pos) (dFld c i f) := by
  obtain ⟨C, n, _, cl, na⟩ := F
  refine ⟨_, pe_fld hx hb, fun σ G H ρ Q R h => ?_⟩
  unfold dFld at h
  cases q0 : hobj i ρ with
  | none => rw [q0] at h; exact h.elim
  | some o =>
    rw [q0] at h
    obtain ⟨b1, f0, g1, o1, _⟩ := R.hobjAny q0
    cases o with
    | ins c' fl =>
      have h3 : EPost X E σ G H ρ Q (if c' = c then Res.of (getP f fl) ρ else .bad) := h
      clear h
      by_cases hc : c' = c
      case neg => rw [if_neg hc] at h3; exact h3.elim
      rw [if_pos hc] at h3
      subst hc
      obtain ⟨C', dx, vs, n', u1, u2⟩ := o1
      rw [n] at n'
      cases n'
      cases q2 : getP f fl with
      | none => rw [q2] at h3; exact h3.elim
      | some d =>
        rw [q2] at h3
        obtain ⟨v, w1, w2⟩ := kv_getF u2 q2
        exact ⟨.ref b1, f0, b1, C, dx, vs, v, rfl, u1, cl, na f hf, w1, Post.done R h3 w2⟩
    | _ => exact h.elim
theorem s_fset (i : Nat) (F : ClsF X.K X.mg c fields) (hf : f ∈ fields) (hx : PE X (.Name x px) (tVar i)) (ha : EJ X E a fa) (hs : swapsWith a (some (.Attribute (.Name x px) f pos')) pos.line X.env = pure false := by rfl) : SJ X E (.Assign [.Attribute (.Name x px) f pos'] a pos) (sFSet c i f fa) := by
  obtain ⟨C, n, _, cl, na⟩ := F
  obtain ⟨t, q, p⟩ := ha
  refine ⟨_, ps_fld hx q hs, fun σ G H ρ D R h => p σ G H ρ _ R (SPost.bind h fun G1 H1 y d ρ1 R1 S1 hy h1 => ?_)⟩
  cases q0 : hobj i ρ1 with
  | none => rw [q0] at h1; exact h1.elim
  | some o =>
    rw [q0] at h1
    obtain ⟨b1, f0, g1, o1, f3⟩ := R1.hobjAny q0
    cases o with
    | ins c' fl =>
      have h1 : SPost X.K X.mg E D σ G1 H1 ρ1 (if c' = c ∧ fl.length < 1000 then .ok .nx (setHeld i (.ins c (putP f d fl)) ρ1) else .bad) := h1
      by_cases hc : c' = c ∧ fl.length < 1000
      case neg => rw [if_neg hc] at h1; exact h1.elim
      rw [if_pos hc] at h1
      obtain ⟨hc, hl⟩ := hc
      subst hc
      obtain ⟨C', dx, vs, n', u1, u2⟩ := o1
      rw [n] at n'
      cases n'
      have hl2 := kv_len u2
      obtain ⟨R3, S3⟩ := f3 (.ins c' (putP f d fl)) (.ins C dx (putF f y vs)) ⟨C, dx, _, n, upd_same, kv_putF hy u2⟩
      exact ⟨.ref b1, f0, b1, C, dx, vs, rfl, u1, cl, na f hf, by omega, h1 _ _ _ R3 S3⟩
    | _ => exact h1.elim
theorem insOk_at {K : PySem.W.Frag} {G H : Hp} {σ : St} {ρ : DEnv} {i : Nat} {C : Addr} (R : Rel K G σ H ρ) (n : PySem.W.nsIn K mainGlobals c = some (some (.ref C))) (h : insOk c m (hobj i ρ) = true) :
    ∃ b dx vs, σ[i]? = some (some (.ref b)) ∧ H b = some (.ins C dx vs) ∧ vs.lookup m = none := by
  unfold insOk at h
  cases q0 : hobj i ρ with
  | none => rw [q0] at h; cases h
  | some o =>
    rw [q0] at h
    obtain ⟨b1, f0, g1, o1, _⟩ := R.hobjAny q0
    cases o with
    | ins c' fl =>
      have h : (decide (c' = c) && (getP m fl).isNone) = true := h
      rw [Bool.and_eq_true] at h
      obtain ⟨h1, h2⟩ := h
      have h1 := of_decide_eq_true h1
      subst h1
      obtain ⟨C', dx, vs, n', u1, u2⟩ := o1
      rw [n] at n'
      cases n'
      exact ⟨b1, dx, vs, f0, u1, kv_noF u2 (Option.isNone_iff_eq_none.mp h2)⟩
    | _ => cases h
theorem e_meth {pl : Sem Bool} (i : Nat) (F : KeptM X.prog X.w X.K X.mg X.base CX0 k c m ps den) (hn : (e :: es).length + 1 = ps.length) (hr : Room k X.A) (hx : PE X (.Name x px) (tVar i)) (ha : AJ X E (e :: es) fs)
    (hst : starEach (e :: es) X.env = (false, eval e X.env) :: starEach es X.env := by rfl) (hpl : (backTo pos (starEach es X.env)).any (·.1) = false := by rfl)
    (ht : eval (.Call (.Attribute (.Name x px) m apos) (e :: es) [] pos) X.env = (do
      let ov ← eval (.Name x px) X.env
      standAt apos.atName
      let (f, first) ← holding [ov] (getMethod ov m pl)
      callWith pos f first (backTo pos (starEach (e :: es) X.env)) (backToKw pos (keywordEach [] X.env))) := by rfl) :
    EJ X E (.Call (.Attribute (.Name x px) m apos) (e :: es) [] pos) (dMeth c m den i fs) := by
  obtain ⟨C, f, fd, n, cl, mt, bi, F⟩ := F
  obtain ⟨hl, t, q, p⟩ := ha
  refine ⟨_, pe_meth hx cl mt F hr bi .nil pass0 q hst hpl ht, fun σ G H ρ Q R h => ?_⟩
  unfold dMeth at h
  by_cases hc : insOk c m (hobj i ρ) = true
  case neg => rw [if_neg hc] at h; exact h.elim
  rw [if_pos hc] at h
  obtain ⟨b, dx, vs, e1, e2, e3⟩ := insOk_at R n hc
  obtain ⟨v, f1, f2⟩ := lent_of hl p hn R h
  rw [e1] at f1
  cases f1
  exact ⟨.ref b, e1, b, dx, vs, rfl, e2, e3, f2⟩
theorem e_meth0 {pl : Sem Bool} (i : Nat) (F : KeptM X.prog X.w X.K X.mg X.base CX0 k c m ps den) (hn : 1 = ps.length) (hr : Room k X.A) (hx : PE X (.Name x px) (tVar i))
    (ht : eval (.Call (.Attribute (.Name x px) m apos) [] [] pos) X.env = (do
      let ov ← eval (.Name x px) X.env
      standAt apos.atName
      let (f, first) ← holding [ov] (getMethod ov m pl)
      callWith pos f first (backTo pos (starEach [] X.env)) (backToKw pos (keywordEach [] X.env))) := by rfl) :
    EJ X E (.Call (.Attribute (.Name x px) m apos) [] [] pos) (dMeth c m den i dNil) := by
  obtain ⟨C, f, fd, n, cl, mt, bi, F⟩ := F
  obtain ⟨hl, t, q, p⟩ := a_nil (X := X) (E := E)
  refine ⟨_, pe_meth0 hx cl mt F hr bi .nil pass0 ht, fun σ G H ρ Q R h => ?_⟩
  unfold dMeth at h
  by_cases hc : insOk c m (hobj i ρ) = true
  case neg => rw [if_neg hc] at h; exact h.elim
  rw [if_pos hc] at h
  obtain ⟨b, dx, vs, e1, e2, e3⟩ := insOk_at R n hc
  obtain ⟨v, f1, f2⟩ := lent_of (es := []) (t := tNil) hl (fun σ G H ρ Q R h => Post.done R h .nil) hn R h
  rw [e1] at f1
  cases f1
  exact ⟨.ref b, e1, b, dx, vs, rfl, e2, e3, f2⟩
theorem f_make (F : KeptI X.prog X.w X.K X.mg X.base CX0 k c ps den) (hn : (e :: es).length + 1 = ps.length) (hr : Room (k + 1) X.A) (hg : Gl X c) (ha : AJ X E (e :: es) fs) (hdb : (c == ("__debug__" : Str)) = false := by decide)
    (he : starEach (e :: es) X.env = (false, eval e X.env) :: starEach es X.env := by rfl) (hpl : (backTo pos (starEach es X.env)).any (·.1) = false := by rfl) :
    FJ X E (.Call (.Name c p) (e :: es) [] pos) (fMake c den fs) := by
  obtain ⟨C, f, fd, n, gm, M, bi, F⟩ := F
  obtain ⟨hl, t, q, p⟩ := ha
  refine ⟨_, pe_make M F hr hg gm bi .nil pass0 q hdb he hpl, fun σ G H ρ Q R h => p σ G H ρ _ R ?_⟩
  unfold fMake at h
  cases r : fs ρ with
  | bad => rw [r] at h; exact h
  | err x c => rw [r] at h; exact h
  | ok ds ρ1 =>
    rw [r, Res.bind_ok] at h
    intro G1 H1 vs R1 S1 hv x dx hx hdx ne
    have h1 := FPost.from S1 h
    rw [List.append_nil]
    have s1 : Same H1 (upd (upd H1 dx (.own x)) x (.ins C dx [])) := fun b o z => by rw [upd_ne (ne_of_none z hx), upd_ne (ne_of_none z hdx)]; exact z
    have s2 : Same G1 (upd (upd H1 dx (.own x)) x (.ins C dx [])) := fun b o z => s1 b o (R1.gh b o z)
    have Rv := vals_rel s2 hv
    refine ⟨G1, .io (.ins c []) :: ds.map .val, ?_, ?_, ⟨s2, ?_, fun j cc e => ?_, fun j k b2 hjk a1 a2 => ?_⟩, ?_⟩
    · rw [List.length_cons, RpAll.len hv, hl ρ ds ρ1 r]; exact hn
    · rw [List.all_cons, vals_arg]; rfl
    · rw [List.map_cons, List.length_cons, List.length_cons, Rv.len]
    · cases j with
      | zero => cases e; exact ⟨_, rfl, x, rfl, R1.noneG hx, C, dx, [], n, upd_same, .nil⟩
      | succ j => exact Rv.cell j cc e
    · obtain ⟨x1, c1, y1, z1⟩ := a1
      obtain ⟨x2, c2, y2, z2⟩ := a2
      cases j with
      | zero =>
        cases k with
        | zero => exact hjk rfl
        | succ k =>
          rw [List.getElem?_cons_succ, List.getElem?_map] at y2
          cases q : ds[k]? with
          | none => rw [q] at y2; cases y2
          | some d => rw [q] at y2; cases y2; cases z2
      | succ j =>
        rw [List.getElem?_cons_succ, List.getElem?_map] at y1
        cases q : ds[j]? with
        | none => rw [q] at y1; cases y1
        | some d => rw [q] at y1; cases y1; cases z1
    · have h1 : FPost X.K X.mg E σ G1 H1 ρ1 Q (match den (.io (.ins c []) :: ds.map .val) with
        | .ok .none (.io o' :: _) => .ok o' ρ1
        | _ => .bad) := h1
      cases r2 : den (.io (.ins c []) :: ds.map .val) with
      | bad => rw [r2] at h1; exact h1
      | err x c => rw [r2] at h1; exact h1.elim
      | ok d cs =>
        rw [r2] at h1
        cases d with
        | none =>
          cases cs with
          | nil => exact h1.elim
          | cons c0 cs =>
            cases c0 with
            | un => exact h1.elim
            | val _ => exact h1.elim
            | own _ => exact h1.elim
            | io o' =>
              intro G2 H2 u R2 S2 hu
              cases hu
              obtain ⟨a1, a2, a3, a4⟩ := make_step R1 hx hdx R2 S2
              have n1 : ¬ OwnL σ ρ1 x := fun z => by obtain ⟨w, e⟩ := R1.ownH z; rw [hx] at e; cases e
              have n2 : ¬ OwnI σ ρ1 x := fun z => by obtain ⟨w, e⟩ := R1.ownHI z; rw [hx] at e; cases e
              exact ⟨rfl, h1 G2 H2 x a1 a2 a3 a4 hx n1 n2⟩
        | _ => exact h1.elim
end
/-! ### the reckoning -/
def insQ (K : Str → List (Str × PyData) → Prop) (o : Option OD) : Prop := match o with
  | some (.ins c fs) => K c fs
  | _ => False
theorem insQ_ins (K : Str → List (Str × PyData) → Prop) (c : Str) (fs : List (Str × PyData)) : insQ K (some (.ins c fs)) = K c fs := rfl
theorem getP_cons (f g : Str) (d : PyData) (r : List (Str × PyData)) : getP f ((g, d) :: r) = if g = f then some d else getP f r := rfl
theorem getP_nil (f : Str) : getP f [] = none := rfl
theorem putP_cons (f g : Str) (d e : PyData) (r : List (Str × PyData)) : putP f d ((g, e) :: r) = if g = f then (g, d) :: r else (g, e) :: putP f d r := rfl
theorem putP_nil (f : Str) (d : PyData) : putP f d [] = [(f, d)] := rfl
theorem insOk_ins (c m c' : Str) (fs : List (Str × PyData)) : (insOk c m (some (.ins c' fs)) = true) = (c' = c ∧ getP m fs = none) := by
  show ((decide (c' = c) && (getP m fs).isNone) = true) = _
  rw [Bool.and_eq_true, decide_eq_true_eq, Option.isNone_iff_eq_none]
section
variable {Z : Exn → DEnv → Prop} (ρ : DEnv) (Q : PyData → DEnv → Prop) (S : Out → DEnv → Prop) (O : OD → DEnv → Prop)
theorem wp_fld (c : Str) (i : Nat) (f : Str) : WpX Z (dFld c i f ρ) Q = insQ (fun c' fs => c' = c ∧ WpX Z (Res.of (getP f fs) ρ) Q) (hobj i ρ) := by
  unfold dFld
  cases hobj i ρ with
  | none => exact wp_bad _
  | some o =>
    cases o with
    | ins c' fs => exact wp_guard _ _
    | _ => exact wp_bad _
theorem ws_fset (c : Str) (i : Nat) (f : Str) (fa : DEnv → Res PyData) : WpX Z (sFSet c i f fa ρ) S = WpX Z (fa ρ) fun d ρ1 => insQ (fun c' fs => (c' = c ∧ fs.length < 1000) ∧ S .nx (setHeld i (.ins c (putP f d fs)) ρ1)) (hobj i ρ1) := by
  unfold sFSet
  rw [wp_bind]
  congr 1
  funext d ρ1
  cases hobj i ρ1 with
  | none => exact wp_bad _
  | some o =>
    cases o with
    | ins c' fs => exact (wp_guard _ _).trans (congrArg _ (wp_ok _ _ _))
    | _ => exact wp_bad _
theorem wp_meth (c m : Str) (den : DEnv → Res PyData) (i : Nat) (fs : DEnv → Res (List PyData)) : WpX Z (dMeth c m den i fs ρ) Q = (insOk c m (hobj i ρ) = true ∧ WpX Z (dCallI den i fs ρ) Q) := by
  unfold dMeth
  exact wp_guard _ _
def mkQ (O : OD → Prop) (d : PyData) (cs : DEnv) : Prop := match d, cs with
  | .none, .io o :: _ => O o
  | _, _ => False
theorem mkQ_io (O : OD → Prop) (o : OD) (cs : DEnv) : mkQ O .none (.io o :: cs) = O o := rfl
theorem wp_make (c : Str) (den : DEnv → Res PyData) (fs : DEnv → Res (List PyData)) : WpX Z (fMake c den fs ρ) O = WpX Z (fs ρ) fun ds ρ1 => WpX Zn (den (.io (.ins c []) :: ds.map .val)) (mkQ fun o => O o ρ1) := by
  unfold fMake
  rw [wp_bind]
  congr 1
  funext ds ρ1
  cases den (.io (.ins c []) :: ds.map .val) with
  | bad => exact (wp_bad _).trans (wp_bad _).symm
  | err x c => exact (wp_bad _).trans (propext ⟨False.elim, fun h => h.out.elim⟩)
  | ok d cs =>
    refine Eq.trans ?_ (wp_ok d cs (mkQ fun o => O o ρ1)).symm
    cases d with
    | none =>
      cases cs with
      | nil => exact wp_bad _
      | cons c0 cs =>
        cases c0 with
        | io o => exact wp_ok _ _ _
        | _ => exact wp_bad _
    | _ => exact wp_bad _
end
end DL

set_option Elab.async false
set_option linter.all false
set_option maxRecDepth 100000
set_option maxHeartbeats 4000000
/-! DL part 30: xs[::-1], sorted down, reversed ranges. -/
namespace DL
open PySem PySem.Spec PyProof.Rows L2

theorem RpAll.rev {K : PySem.W.Frag} {G : Hp} : ∀ {vs : List V} {ds : List PyData}, RpAll K G vs ds → RpAll K G vs.reverse ds.reverse
  | _, _, .nil => .nil
  | _, _, .cons h t => by
    rw [List.reverse_cons, List.reverse_cons]
    exact RpAll.app (RpAll.rev t) (.one h)
def dRev (f : DEnv → Res PyData) : DEnv → Res PyData := fun ρ => (f ρ).bind fun d ρ1 => match d with
  | .list ds => .ok (.list ds.reverse) ρ1
  | _ => .bad
theorem e_rev {X : Cx} {E : WX} {a : Expr} {fa : DEnv → Res PyData} {pos p1 p2 p3 : Pos} {k : Nat} (ha : EJ X E a fa) : EJ X E (.Subscript a (.Slice none none (some (.UnaryOp .USub (.Constant (.int 1) k p1) p2)) p3) pos) (dRev fa) := by
  obtain ⟨t, q, p⟩ := ha
  refine ⟨_, pe_revL q, fun σ G H ρ Q R h => p σ G H ρ _ R (Post.bind h fun G1 H1 x d ρ1 R1 S1 hx h1 => ?_)⟩
  cases hx with
  | @lst b vs ds g1 g2 =>
    have h1 : EPost X E σ G1 H1 ρ1 Q (.ok (.list ds.reverse) ρ1) := h1
    exact ⟨b, vs, rfl, R1.gh.seq (SqL.of g1), fun r hr => Post.new R1 h1 hr (.lst upd_same (RpAll.mono (same_upd (R1.noneG hr)) (RpAll.rev g2)))⟩
  | _ => exact h1.elim
/-! ### sorted(xs, reverse=True) of alike data -/
def sortDr (ds : List PyData) : List PyData := ds.mergeSort (PySem.W.dataLe true fun d => d)
def rSortDr (K : PySem.W.Frag) (u : Nat) : List V → List V → Hp → VK → Prop := fun xs zs H Q => ∃ (a : Addr) (vs : List V) (ds : List PyData), xs = [.ref a] ∧ zs = [.bl true] ∧ SqL K H a vs ∧ DpAll K H vs ds ∧ PySem.W.AllAlike ds ∧ PySem.W.Sortable ds ∧ (∀ d ∈ ds, u + 2 + d.depth < cLine) ∧
  ∀ (ps : List (PyData × V)) (p : Addr), ps.Perm (ds.zip vs) → ps.map (·.1) = sortDr ds → H p = none → Q (.ref p) (upd H p (.lst (ps.map (·.2))))
theorem cr_sortDr {X : Cx} : CallRK X (.builtin "sorted") [Str.ofString "reverse"] (rSortDr X.K X.A.units) := by
  intro pins s σ H xs zs us ws Q I rv rz h
  obtain ⟨a, vs, ds, rfl, rfl, hq, hd, h1, h2, h3, h4⟩ := h
  cases rz with
  | cons z0 zn =>
    cases zn
    cases z0
    cases rv with
    | cons r0 rn =>
      cases rn
      cases r0
      obtain ⟨its, rl, p, hz⟩ := I.list hq
      have hlen : ds.length = vs.length := (DpAll.len' hd).symm
      have hmap : (ds.zip vs).map (·.1) = ds := List.map_fst_zip (by omega)
      show wpAny _ _ (call (.builtin "sorted") [.ref a] [(Str.ofString "reverse", .bool true)]) _ _ _
      refine PySem.W.sorted_rev_data (bs := ds.zip vs) (enc := fun p => p.1) (R := fun u p => RelV p.2 u) (vs := its) p.isList (zip_each hlen rl fun i u d v a b c => ?_) (zip_each hlen rl fun i u d v a b c => ?_) (by rw [hmap]; exact h1) (by rw [hmap]; exact h2) (by rw [List.length_zip]; omega) (fun q hq => h3 _ (List.of_mem_zip hq).1) fun out hl ho => ?_
      · obtain ⟨u', e1, e2⟩ := vals_get rl c
        rw [a] at e1; cases e1; exact e2
      · obtain ⟨u', e1, e2⟩ := vals_get rl c
        rw [a] at e1; cases e1
        exact Dp.reads I d v u (DpAll.get' hd c b) e2
      · obtain ⟨e, he⟩ := sortedAll_at s.heap its out.toArray
        have hperm := List.mergeSort_perm (ds.zip vs) (PySem.W.dataLe true fun p => p.1)
        have hm : ((ds.zip vs).mergeSort (PySem.W.dataLe true fun p => p.1)).map (·.1) = sortDr ds :=
          (List.map_mergeSort (r := PySem.W.dataLe true fun p : PyData × V => p.1) (s := PySem.W.dataLe true fun d : PyData => d) (f := fun p : PyData × V => p.1) (fun a _ b _ => rfl)).trans (by rw [hmap]; rfl)
        have hle : s.heap.objs.size ≤ s.heap.objs.size + 1 := Nat.le_succ _
        refine ⟨.ref (s.heap.objs.size + 1), _, I.turnedNew (ch := []) (T := s.heap.objs.size + 1) (ob := .lst (((ds.zip vs).mergeSort (PySem.W.dataLe true fun p => p.1)).map (·.2))) (fun b o _ z => sortedAll_old z) (fun b hb => nomatch hb) hle ?_, rfl, h4 _ _ hperm hm (I.hok.fresh hle)⟩
        unfold ObjOk
        refine ⟨by rw [List.length_map, List.length_mergeSort, List.length_zip]; omega, out, e, each_vals ho, ?_⟩
        exact he
def fSortDr (f : DEnv → Res PyData) : DEnv → Res OD := fun ρ => (f ρ).bind fun d ρ1 => match d with
  | .list ds => if sortB ds = true then .ok (.lst (sortDr ds)) ρ1 else .bad
  | _ => .bad
theorem f_sortDr {X : Cx} {E : WX} {a : Expr} {fa : DEnv → Res PyData} {pos p p1 kp : Pos} {k : Nat} (hg : Gl X "sorted") (hm : X.mg "sorted" = none) (hu : X.A.units + 65 < cLine) (ha : EJ X E a fa) (na : starEach [a] X.env = (false, eval a X.env) :: starEach [] X.env := by rfl)
    (he : backTo pos (starEach [a] X.env) = (false, eval a X.env) :: backTo pos (starEach [] X.env) := by rfl) (hpl : (backTo pos (starEach [a] X.env)).any (·.1) = false := by rfl)
    (hall : (backToKw pos (keywordEach [⟨some "reverse", .Constant (.bool true) k p1, kp⟩] X.env)).all (·.1.isSome) = true := by rfl) (hnone : (backToKw pos (keywordEach [⟨some "reverse", .Constant (.bool true) k p1, kp⟩] X.env)).any (·.1.isNone) = false := by rfl)
    (hks : (backToKw pos (keywordEach [⟨some "reverse", .Constant (.bool true) k p1, kp⟩] X.env)).filterMap (·.1) = [Str.ofString "reverse"] := by rfl) :
    FJ X E (.Call (.Name "sorted" p) [a] [⟨some "reverse", .Constant (.bool true) k p1, kp⟩] pos) (fSortDr fa) := by
  obtain ⟨t, q, pp⟩ := ha
  refine ⟨_, pe_callBK cr_sortDr hg hm (by decide +kernel) (pa_cons q pa_nil na) (pk_cons pe_bl pk_nil) (he := he) (hpl := hpl) (hall := hall) (hnone := hnone) (hks := hks), fun σ G H ρ Q R h => pp σ G H ρ _ R (FPost.bind h fun G1 H1 x d ρ1 R1 S1 hx h1 => ?_)⟩
  cases hx with
  | @lst b vs ds g1 g2 =>
    have h1 : FPost X.K X.mg E σ G1 H1 ρ1 Q (if sortB ds = true then .ok (.lst (sortDr ds)) ρ1 else .bad) := h1
    by_cases hs : sortB ds = true
    case neg => rw [if_neg hs] at h1; exact h1.elim
    rw [if_pos hs] at h1
    obtain ⟨s1, s2, s3, s4⟩ := sortB_of hs
    refine ⟨b, vs, ds, rfl, rfl, R1.gh.seq (SqL.of g1), rpAll_dp (RpAll.mono R1.gh g2) s3, s1, s2, fun d hd => by have := s4 d hd; omega, fun ps r hp hm hr => ?_⟩
    refine FPost.new R1 h1 hr ⟨_, upd_same, ?_⟩
    show RpAll X.K G1 (ps.map (·.2)) (sortDr ds)
    rw [← show ps.map (·.1) = sortDr ds from hm]
    exact rp_pairs fun q hq => rp_zip g2 q (hp.mem_iff.mp hq)
  | _ => exact h1.elim
end DL

set_option Elab.async false
set_option linter.all false
set_option maxRecDepth 100000
set_option maxHeartbeats 4000000
/-! DL part 31: list(reversed(range(n))), walks over reversed(range(n)). -/
namespace DL
open PySem PySem.Spec PyProof.Rows L2
section
variable {prog : Program} {w : World} {A : Around} {E : Value → Shared → Prop} {s : Shared}
theorem hintcall_rit {I : Addr} {a l c : Int} {Q : Value → Shared → Prop} (h : IsRangeIter s.heap I a l c) (hQ : ∀ u tk, s.toks ≤ tk → Q (.int l u) { s with toks := tk }) :
    wpAny (model prog w) A (call (.builtin "range_iterator.__length_hint__") [.ref I]) Q E s := by
  have hT : s.TypeIs (.ref I) "range_iterator" := ⟨_, h, rfl⟩
  have h0 : s.heap.get? I = some { cls := .type "range_iterator", data := .fields #[rawInt a, rawInt l, rawInt c] } := h
  refine wpAny_call_entry F.slot_range_iterator_length_hint hT F.entry_range_iterator_length_hint ?_ (F.args_range_iterator_length_hint_1 _)
  unfold Builtin.«range_iterator.__length_hint__»
  refine wpAny_bind (wpAny_of_eq (a := Value.ref I) rfl ?_)
  refine wpAny_bind (wpAny_field h0 rfl (x := rawInt l) rfl ?_)
  show wpAny _ _ (retInt l) _ _ _
  unfold retInt
  exact wpAny_bind (wpAny_mkInt (wpAny_pure ⟨_, rfl, hQ _ _ (Nat.le_succ _)⟩))
theorem hint_rit {I : Addr} {a l c : Int} {Q : Bool → Shared → Prop} (h : IsRangeIter s.heap I a l c) (hl : l.toNat ≤ sizeLine) (hQ : ∀ tk, s.toks ≤ tk → Q false { s with toks := tk }) :
    wpAny (model prog w) A (Builtin.List.listLengthHint (.ref I)) Q E s := by
  have hT : s.TypeIs (.ref I) "range_iterator" := ⟨_, h, rfl⟩
  unfold Builtin.List.listLengthHint
  refine wpAny_bind (wpAny_specialOf hT F.nolen_ra ?_)
  show wpAny _ A (specialOf (Value.ref I) "__length_hint__" >>= _) _ _ _
  refine wpAny_bind (wpAny_specialOf hT F.hint_ra ?_)
  generalize hid : ("range_iterator.__length_hint__" : String) = id0
  wp_delta
  rw [show splitId id0 = some ("range_iterator", "__length_hint__") by subst hid; decide +kernel]
  subst hid
  refine wpAny_bind (wpAny_isInstance (b := true) hT (by rw [isSubtype_type]; kernel_rfl) ?_)
  show wpAny _ A (call (.builtin "range_iterator.__length_hint__") [.ref I] >>= _) _ _ _
  refine wpAny_bind (hintcall_rit h fun u tk ht => ?_)
  refine wpAny_bind (m := asInt? (.int l u)) (wpAny_pure ?_)
  dsimp only
  rw [if_neg (by show ¬ (decide (l.toNat > sizeLine) = true); rw [decide_eq_true_eq]; omega)]
  exact wpAny_pure (hQ tk ht)
/-- list(an iterator over a range) -/
theorem list_rit {I : Addr} {a c : Int} {n : Nat} {Q : Value → Shared → Prop} (hh : A.handled = none) (hit : IsRangeIter s.heap I a (n : Int) c) (hn : n ≤ sizeLine)
    (hQ : ∀ (h' : Heap) (tk : Nat) (acc : Array Value) (c' : Nat), (∀ b o, b ≠ I → s.heap.get? b = some o → h'.get? b = some o) → h'.get? s.heap.objs.size = some { cls := .type "list", dict := none, data := .seq acc c', slots := #[] } → ItemsOf (fun i v => ∃ t, v = .int (a + i * c) t) acc n → Q (.ref s.heap.objs.size) { s with heap := h', toks := tk }) :
    wpAny (model prog w) A (call (.type "list") [.ref I]) Q E s := by
  obtain ⟨hp, g, d, tk0, os⟩ := s
  have hI : I < hp.objs.size := Heap.lt_size hit
  have hSI : hp.objs.size ≠ I := Nat.ne_of_gt hI
  refine callType_codes (Q₁ := fun obj s₁ => obj = .ref hp.objs.size ∧ s₁ = ⟨hp.push { cls := .type "list", data := .seq #[] }, g, d, tk0, os⟩) F.called_list (F.typeCall_list_1 _) F.entry_list_init (code_list_new _ ⟨rfl, rfl⟩) ?_
  rintro _ _ ⟨rfl, rfl⟩
  have p0 : (hp.push { cls := .type "list", data := .seq #[] }).get? hp.objs.size = some { cls := .type "list", data := .seq #[] } := Heap.get?_push_size hp rfl
  refine ⟨⟨_, p0, rfl⟩, F.args_list_init_2 _ _, ?_⟩
  have k0 : ∀ b o, hp.get? b = some o → (hp.push { cls := .type "list", data := .seq #[] }).get? b = some o := fun b o e => Heap.get?_push_of_some _ e
  generalize hp.push { cls := .type "list", data := .seq #[] } = h1 at p0 k0 ⊢
  unfold Builtin.«list.__init__»
  refine wpAny_bind ?_
  unfold Builtin.List.listItems
  refine wpAny_bind (wpAny_seqItems p0 rfl (wpAny_pure ?_))
  refine wpAny_bind (m := updateSeq hp.objs.size (fun _ => #[])) (wpAny_updateSeq p0 rfl ?_)
  have p1 := Heap.get?_update_self (Obj.mapSeq (fun _ => (#[] : Array Value))) p0 rfl
  have k1 : ∀ b o, hp.get? b = some o → (h1.update hp.objs.size (Obj.mapSeq (fun _ => (#[] : Array Value)))).get? b = some o := fun b o e => by
    rw [Heap.get?_update_other _ _ (Nat.ne_of_gt (Heap.lt_size e))]
    exact k0 b o e
  generalize h1.update hp.objs.size (Obj.mapSeq (fun _ => (#[] : Array Value))) = h2 at p1 k1 ⊢
  refine wpAny_bind (wpAny_letGo ?_)
  have i1 : IsRangeIter h2 I a (n : Int) c := k1 _ _ hit
  have i0 : IsRangeIter h2 I (a + ((0 : Nat) : Int) * c) ((n : Int) - ((0 : Nat) : Int)) c := by
    rw [show a + ((0 : Nat) : Int) * c = a by simp, show (n : Int) - ((0 : Nat) : Int) = n by simp]
    exact i1
  unfold Builtin.List.listExtendWith
  refine wpAny_bind (wpAny_typeOf (T := "range_iterator") ⟨_, i1, rfl⟩ ?_)
  rw [if_neg (by rw [show Builtin.List.listSameRef (.ref hp.objs.size) (.ref I) = false by simp [Builtin.List.listSameRef, hSI]]; decide)]
  refine wpAny_bind (wpAny_pyIter_rangeiter i1 ?_)
  refine wpAny_bind (wpAny_holding (hint_rit i1 (by omega) fun tk ht => ?_))
  rw [if_neg (by decide)]
  have W := (Walks.range (prog := prog) (w := w) (A := A.in1.in1) hh I a c n).toS
  refine wpAny_pure ⟨plainId_quiet F.plain_extend_loop _, codeAny_extend_loopS W hn hp.objs.size (fun z => hSI (List.mem_singleton.mp z)) _ n 0 ⟨h2, g, d, tk, os⟩ #[] _ rfl (Nat.zero_le _) i0 p1 (ItemsOf.nil _) fun s' acc c' hm hS' hacc => ?_⟩
  rw [Moved.eq_with hm]
  refine ⟨rfl, hQ s'.heap s'.toks acc c' (fun b o hb e => hm.heap b o (fun z => ?_) (k1 b o e)) hS' hacc⟩
  rcases List.mem_cons.mp z with z | z
  · exact absurd (Heap.lt_size e) (by rw [z]; exact Nat.lt_irrefl _)
  · exact hb (List.mem_singleton.mp z)
end
/-- n - 1, .., 0 -/
def revD (n : Nat) : List PyData := (List.range n).map fun i => .int ((n : Int) - 1 - (i : Nat))
def revV (n : Nat) : List V := (List.range n).map fun i => .int ((n : Int) - 1 - (i : Nat))
theorem revD_len (n : Nat) : (revD n).length = n := by simp [revD]
theorem rev_rp {K : PySem.W.Frag} {G : Hp} (n : Nat) : RpAll K G (revV n) (revD n) := by
  unfold revV revD
  generalize List.range n = l
  induction l with
  | nil => exact .nil
  | cons i l ih => exact .cons (.int _) ih
theorem vals_revV {n : Nat} {acc : Array Value} (h : ItemsOf (fun i v => ∃ t, v = .int (((n : Int) - 1) + i * (-1)) t) acc n) : Vals (revV n) acc.toList := by
  have e : acc.toList.length = n := by rw [Array.length_toList]; exact h.1
  have key : ∀ (us : List Value) (f : Nat → V), (∀ j u, us[j]? = some u → RelV (f j) u) → Vals ((List.range us.length).map f) us := vals_of_get
  have := key acc.toList (fun i => V.int ((n : Int) - 1 - (i : Nat))) fun j u hj => by
    obtain ⟨t, rfl⟩ := h.2 j u (by rw [← hj, Array.getElem?_toList])
    exact ⟨t, by rw [show ((n : Int) - 1) + (j : Nat) * (-1) = (n : Int) - 1 - (j : Nat) by omega]⟩
  rw [e] at this
  exact this
def tLstRevRg (tr : St → Hp → (Int → Int → Hp → Prop) → Prop) : TE := fun σ H Q => tr σ H fun a b H1 => ∃ n : Nat, a = 0 ∧ b = (n : Int) ∧ n ≤ 16777216 ∧ ∀ p, H1 p = none → Q (.ref p) (upd H1 p (.lst (revV n)))
theorem pe_lstRevRg {X : Cx} {e : Expr} {tr : St → Hp → (Int → Int → Hp → Prop) → Prop} {p p2 pos pos2 : Pos} (hc : X.calm = true) (hg : Gl X "list") (hm : X.mg "list" = none) (hg2 : Gl X "reversed") (hm2 : X.mg "reversed" = none) (he : PRg X e tr)
    (hs : starEach [e] X.env = (false, eval e X.env) :: starEach [] X.env := by rfl) (hs2 : starEach [.Call (.Name "reversed" p2) [e] [] pos2] X.env = (false, eval (.Call (.Name "reversed" p2) [e] [] pos2) X.env) :: starEach [] X.env := by rfl) :
    PE X (.Call (.Name "list" p) [.Call (.Name "reversed" p2) [e] [] pos2] [] pos) (tLstRevRg tr) := by
  refine ⟨fun pins s σ H Q I h => Call_ (ld_blt I hg hm boot_list (PyProof.Rows.callWith_type1 (args_cons (Call_ (ld_blt I hg2 hm2 PyProof.Rows.boot_reversed (PyProof.Rows.callWith_type1 (args_cons (thn (he pins s σ H _ I h) fun u s1 hx => args_nil ?_) hs) hs rfl))) hs2) hs2 rfl))⟩
  obtain ⟨r, a, b, t, w1, v, H1, eu, hr, I1, n, rfl, rfl, hz, q⟩ := hx
  subst eu
  have hsz : Builtin.Range.rangeSize 0 (n : Int) 1 = (n : Int) := by
    have := rangeSize_nat 0 (n : Int)
    rw [this]
    simp
  refine call_reversed_range hr (smallRev_one (by omega) (by omega) (by omega) (by omega)) (args_nil ?_)
  have hit : (s1.heap.push (rngRevObj 0 (n : Int) 1)).get? s1.heap.objs.size = some (rngRevObj 0 (n : Int) 1) := Heap.get?_push_size _ rfl
  have hit2 : IsRangeIter (s1.heap.push (rngRevObj 0 (n : Int) 1)) s1.heap.objs.size ((n : Int) - 1) (n : Int) (-1) := by
    refine hit.trans (congrArg some ?_)
    show ({ cls := .type "range_iterator", data := .fields #[rawInt (0 + (Builtin.Range.rangeSize 0 (n : Int) 1 - 1) * 1), rawInt (Builtin.Range.rangeSize 0 (n : Int) 1), rawInt (-1)] } : Obj) = _
    rw [hsz, show (0 : Int) + ((n : Int) - 1) * 1 = (n : Int) - 1 by omega]
  have I2 : Inv X pins σ H1 { s1 with heap := s1.heap.push (rngRevObj 0 (n : Int) 1) } := I1.kept (t' := s1.toks) fun b o z => Heap.get?_push_of_some _ z
  have hf := I1.fpOk (H' := H1) (b := s1.heap.objs.size) (Nat.le_refl _) (I1.hok.fresh (Nat.le_refl _))
  refine list_rit (s := { s1 with heap := s1.heap.push (rngRevObj 0 (n : Int) 1) }) (I1.ok.hd hc) hit2 (by rw [sizeLine_eq]; omega) fun h' tk acc c' hk e' hi => ?_
  have hle : (s1.heap.push (rngRevObj 0 (n : Int) 1)).objs.size ≤ (s1.heap.push (rngRevObj 0 (n : Int) 1)).objs.size := Nat.le_refl _
  refine ⟨.ref (s1.heap.push (rngRevObj 0 (n : Int) 1)).objs.size, _, I2.turnedNew (ch := [s1.heap.objs.size]) (T := (s1.heap.push (rngRevObj 0 (n : Int) 1)).objs.size) (ob := .lst (revV n)) (fun b o hb z => hk b o (fun y => hb (List.mem_singleton.mpr y)) z) (fun b hb => by rw [List.mem_singleton.mp hb]; exact hf) hle ?_, rfl, q _ (I2.hok.fresh hle)⟩
  refine (show ObjOk X.prog X.w _ _ _ (.lst (revV n)) from ⟨?_, acc.toList, c', vals_revV hi, ?_⟩)
  · rw [show (revV n).length = n by simp [revV], sizeLine_eq]; omega
  · rw [Array.toArray_toList]; exact e'
section
variable {X : Cx} {E : WX} {tg a : Expr} {fa : DEnv → Res PyData} {pos pos2 pos3 p p2 p3 : Pos}
def revOf : PyData → Option (List PyData)
  | .int j => if 0 ≤ j ∧ j ≤ 16777216 then some (revD j.toNat) else none
  | _ => none
theorem revOf_int (j : Int) : revOf (.int j) = if 0 ≤ j ∧ j ≤ 16777216 then some (revD j.toNat) else none := rfl
/-- list(reversed(range(a))) -/
def fLstRev (f : DEnv → Res PyData) : DEnv → Res OD := fun ρ => (f ρ).bind fun d ρ1 => match revOf d with
  | some ds => .ok (.lst ds) ρ1
  | none => .bad
theorem f_lstRev (hc : X.calm = true) (hg : Gl X "list") (hm : X.mg "list" = none) (hg2 : Gl X "reversed") (hm2 : X.mg "reversed" = none) (hg3 : Gl X "range") (hm3 : X.mg "range" = none) (ha : EJ X E a fa) (na : starEach [a] X.env = (false, eval a X.env) :: starEach [] X.env := by rfl) :
    FJ X E (.Call (.Name "list" p) [.Call (.Name "reversed" p2) [.Call (.Name "range" p3) [a] [] pos3] [] pos2] [] pos) (fLstRev fa) := by
  obtain ⟨t, q, pp⟩ := ha
  refine ⟨_, pe_lstRevRg hc hg hm hg2 hm2 (prg_1 hg3 hm3 q na), fun σ G H ρ Q R h => pp σ G H ρ _ R (FPost.bind h fun G1 H1 x d ρ1 R1 S1 hx h1 => ?_)⟩
  cases hx with
  | int j =>
    rw [revOf_int] at h1
    by_cases hj : 0 ≤ j ∧ j ≤ 16777216
    case neg => rw [if_neg hj] at h1; exact h1.elim
    rw [if_pos hj] at h1
    exact ⟨j, rfl, j.toNat, rfl, by omega, by omega, fun r hr => FPost.new R1 h1 hr ⟨_, upd_same, rev_rp _⟩⟩
  | _ => exact h1.elim
def iRevRg (f : DEnv → Res PyData) : DEnv → Res (List PyData) := fun ρ => (f ρ).bind fun d ρ1 => Res.of (revOf d) ρ1
theorem walks_rev {K : PySem.W.Frag} {G : Hp} (n : Nat) : Walks K (Itc (0 + ((((n : Int) - 0).toNat : Nat) : Int) - 1) (-1) ((n : Int) - 0).toNat) G (revD n) := fun i G1 H1 _ _ => by
  have e : ((n : Int) - 0).toNat = n := by omega
  rw [e]
  refine ⟨fun d hd => ?_, fun hle => by rw [revD_len] at hle; exact hle⟩
  unfold revD at hd
  rw [List.getElem?_map] at hd
  by_cases hi : i < n
  · rw [List.getElem?_range hi] at hd
    have hd : PyData.int ((n : Int) - 1 - (i : Nat)) = d := Option.some.inj hd
    subst hd
    refine ⟨hi, fun x H2 ⟨e1, e2⟩ => ?_⟩
    subst e1 e2
    refine ⟨G1, Grow.refl, ?_⟩
    rw [show (0 : Int) + ((n : Nat) : Int) - 1 + (i : Nat) * (-1) = (n : Int) - 1 - (i : Nat) by omega]
    exact .int _
  · rw [List.getElem?_eq_none (by simpa using hi)] at hd
    cases hd
theorem i_revRg (hg2 : Gl X "reversed") (hm2 : X.mg "reversed" = none) (hg3 : Gl X "range") (hm3 : X.mg "range" = none) (ha : EJ X E a fa) (na : starEach [a] X.env = (false, eval a X.env) :: starEach [] X.env := by rfl) :
    IJ X E tg (.Call (.Name "reversed" p2) [.Call (.Name "range" p3) [a] [] pos3] [] pos2) (iRevRg fa) := by
  obtain ⟨t, q, pp⟩ := ha
  refine ⟨_, pi_revR hg2 hm2 (prg_1 hg3 hm3 q na), fun σ G H ρ Q R h => pp σ G H ρ _ R (IPost.bind h fun G1 H1 x d ρ1 R1 S1 hx h1 => ?_)⟩
  cases hx with
  | int j =>
    rw [revOf_int] at h1
    by_cases hj : 0 ≤ j ∧ j ≤ 16777216
    case neg => rw [if_neg hj] at h1; exact h1.elim
    rw [if_pos hj] at h1
    obtain ⟨n, rfl⟩ := Int.eq_ofNat_of_zero_le hj.1
    exact ⟨n, rfl, by omega, by omega, by omega, by omega, IPost.done R1 h1 (walks_rev n)⟩
  | _ => exact h1.elim
/-! ### the reckoning -/
variable {Z : Exn → DEnv → Prop} (ρ : DEnv) (Q : PyData → DEnv → Prop) (O : OD → DEnv → Prop) (L : List PyData → DEnv → Prop)
def rlQ (K : List PyData → Prop) (d : PyData) : Prop := match d with
  | .list ds => K ds
  | _ => False
theorem rlQ_list (K : List PyData → Prop) (ds : List PyData) : rlQ K (.list ds) = K ds := rfl
theorem wp_rev (f : DEnv → Res PyData) : WpX Z (dRev f ρ) Q = WpX Z (f ρ) fun d ρ1 => rlQ (fun ds => Q (.list ds.reverse) ρ1) d := by
  unfold dRev
  rw [wp_bind]
  congr 1
  funext d ρ1
  cases d with
  | list ds => exact wp_ok _ _ _
  | _ => exact wp_bad _
theorem wp_sortDr (f : DEnv → Res PyData) : WpX Z (fSortDr f ρ) O = WpX Z (f ρ) fun d ρ1 => rlQ (fun ds => sortB ds = true ∧ O (.lst (sortDr ds)) ρ1) d := by
  unfold fSortDr
  rw [wp_bind]
  congr 1
  funext d ρ1
  cases d with
  | list ds => exact (wp_guard _ _).trans (congrArg _ (wp_ok _ _ _))
  | _ => exact wp_bad _
def roQ (K : List PyData → Prop) (o : Option (List PyData)) : Prop := match o with
  | some ds => K ds
  | none => False
theorem roQ_some (K : List PyData → Prop) (ds : List PyData) : roQ K (some ds) = K ds := rfl
theorem roQ_int (K : List PyData → Prop) (n : Nat) (h : n ≤ 16777216) : roQ K (revOf (.int (n : Nat))) = K (revD n) := by
  rw [revOf_int, if_pos ⟨by omega, by omega⟩]
  show K (revD ((n : Int).toNat)) = _
  rw [Int.toNat_natCast]
theorem wp_lstRev (f : DEnv → Res PyData) : WpX Z (fLstRev f ρ) O = WpX Z (f ρ) fun d ρ1 => roQ (fun ds => O (.lst ds) ρ1) (revOf d) := by
  unfold fLstRev
  rw [wp_bind]
  congr 1
  funext d ρ1
  cases revOf d with
  | none => exact wp_bad _
  | some ds => exact wp_ok _ _ _
theorem wp_irevRg (f : DEnv → Res PyData) : WpX Z (iRevRg f ρ) L = WpX Z (f ρ) fun d ρ1 => roQ (fun ds => L ds ρ1) (revOf d) := by
  unfold iRevRg
  rw [wp_bind]
  congr 1
  funext d ρ1
  cases revOf d with
  | none => exact wp_bad _
  | some ds => exact wp_ok _ _ _
end
end DL

set_option Elab.async false
set_option linter.all false
set_option maxRecDepth 100000
set_option maxHeartbeats 4000000
/-! DL part 32: a, b, .. = a list or a tuple. -/
namespace DL
open PySem PySem.Spec PyProof.Rows L2
section
variable {X : Cx} {es : List Expr} {is : List Nat} {pos : Pos}
theorem pg_or {tg : Expr} {g1 g2 : TG} (h1 : PG X tg g1) (h2 : PG X tg g2) : PG X tg (fun v σ H Q => g1 v σ H Q ∨ g2 v σ H Q) :=
  ⟨fun pins s σ H v u Q I r hw => hw.elim (h1.run pins s σ H v u Q I r) (h2.run pins s σ H v u Q I r)⟩
def gUnD (n : Nat) (gs : List PyData → DEnv → Option DEnv) : PyData → DEnv → Option DEnv := fun d ρ => match d with
  | .tuple ds => if ds.length = n then gs ds ρ else none
  | .list ds => if ds.length = n then gs ds ρ else none
  | _ => none
theorem g_un {gs : List PyData → DEnv → Option DEnv} {k n : Nat} (hl : es.length = n) (hp : ∀ t, PGs X es t → PG X (.Tuple es k pos) (gTup X.K n t)) (hq : ∀ t, PGs X es t → PG X (.Tuple es k pos) (gUnl X.K n t)) (h : GsJ X es is gs) : GJ X (.Tuple es k pos) is (gUnD n gs) := by
  obtain ⟨t, q, p⟩ := h
  refine ⟨_, pg_or (hp t q) (hq t q), fun σ G H ρ x d Q R hx h => ?_⟩
  unfold gUnD at h
  cases hx with
  | tup h1 h2 =>
    rename_i a xs ds
    have h : GPost X.K σ G H ρ is Q (if ds.length = n then gs ds ρ else none) := h
    by_cases e : ds.length = n
    · rw [if_pos e] at h
      exact .inl ⟨a, xs, rfl, Same.seqT R.gh h1, by rw [h2.len]; exact e, p σ G H ρ xs ds Q R h2 h⟩
    · rw [if_neg e] at h
      exact h.elim
  | lst h1 h2 =>
    rename_i a xs ds
    have h : GPost X.K σ G H ρ is Q (if ds.length = n then gs ds ρ else none) := h
    by_cases e : ds.length = n
    · rw [if_pos e] at h
      exact .inr ⟨a, xs, rfl, R.gh.seq (SqL.of h1), by rw [h2.len]; exact e, p σ G H ρ xs ds Q R h2 h⟩
    · rw [if_neg e] at h
      exact h.elim
  | _ => exact h.elim
end
end DL

set_option Elab.async false
set_option linter.all false
set_option maxRecDepth 100000
namespace DL
open PySem PySem.Spec PyProof PyProof.Rows L2
variable {X : Cx} {E : WX} {a b c e : Expr} {fa fb fc fe : DEnv → Res PyData} {pos : Pos}
/-! ### chains of three comparisons, as tests -/
def tChain3 (r r' r'' : R2) (ta tb tc td : TE) : TE := fun σ H Q => ta σ H fun x H1 => tb σ H1 fun y H2 => r x y H2 fun z H3 => ∃ k, z = .bl k ∧
  (if k = true then tc σ H3 fun u H4 => r' y u H4 fun z' H5 => ∃ k', z' = .bl k' ∧ (if k' = true then td σ H5 fun w' H6 => r'' u w' H6 Q else Q (.bl false) H5) else Q (.bl false) H3)
theorem pt_chain3 {op op' op'' : CmpOp} {r r' r'' : R2} {ta tb tc td : TE} (ho : OpR X (compareOp op) r) (ho' : OpR X (compareOp op') r') (ho'' : OpR X (compareOp op'') r'') (ha : PE X a ta) (hb : PE X b tb) (hc : PE X c tc) (hd : PE X e td)
    (hm : lastMarks [op, op', op''] [b, c, e] = false := by with_unfolding_all rfl) : PT X (.Compare a [op, op', op''] [b, c, e] pos) (tTest (tChain3 r r' r'' ta tb tc td)) := by
  refine ⟨fun pins s σ H Q I h => ?_⟩
  refine isTrue_chain (thn (ha.run pins s σ H _ I h) fun v s1 ⟨x, H1, I1, r1, q1⟩ => test_link (thn (hb.run pins s1 σ H1 _ I1 q1) fun u s2 ⟨y, H2, I2, r2, q2⟩ =>
    thn (ho pins s2 σ H2 x y v u _ I2 r1 r2 q2) fun d s3 ⟨z, H3, I3, r3, k, e, q3⟩ => ?_)) hm
  subst e
  cases r3
  refine wpAny_truthy_bool ?_
  cases k with
  | false =>
    obtain ⟨k', e', q'⟩ := q3
    cases e'
    exact ite_ff ⟨H3, I3, q'⟩
  | true =>
    refine ite_tt (test_link (thn (hc.run pins s3 σ H3 _ I3 q3) fun w' s4 ⟨z', H4, I4, r4, q4⟩ => thn (ho' pins s4 σ H4 y z' u w' _ I4 r2 r4 q4) fun d' s5 ⟨z2, H5, I5, r5, k2, e2, q5⟩ => ?_))
    subst e2
    cases r5
    refine wpAny_truthy_bool ?_
    cases k2 with
    | false =>
      obtain ⟨k', e', q'⟩ := q5
      cases e'
      exact ite_ff ⟨H5, I5, q'⟩
    | true =>
      refine ite_tt (test_last (thn (hd.run pins s5 σ H5 _ I5 q5) fun w2 s6 ⟨z3, H6, I6, r6, q6⟩ => thn (ho'' pins s6 σ H6 z' z3 w' w2 _ I6 r4 r6 q6) fun d2 s7 ⟨z4, H7, I7, r7, k3, e3, q7⟩ => ?_))
      subst e3
      cases r7
      exact wpAny_truthy_bool ⟨H7, I7, q7⟩
def dChain3 (o o' o'' : PyData → PyData → Option PyData) (f g h i : DEnv → Res PyData) : DEnv → Res PyData := fun ρ => (f ρ).bind fun x ρ1 => (g ρ1).bind fun y ρ2 => match o x y with
  | some (.bool b) => if b = true then (h ρ2).bind fun z ρ3 => match o' y z with
    | some (.bool b') => if b' = true then (i ρ3).bind fun w ρ4 => Res.of (o'' z w) ρ4 else .ok (.bool false) ρ3
    | _ => .bad
    else .ok (.bool false) ρ2
  | _ => .bad
theorem chain_read3 {r r' r'' : R2} {o o' o'' : PyData → PyData → Option PyData} {ta tb tc td : TE} {σ : St} {G H : Hp} {ρ : DEnv} {Q : VK} (hd : OpD X E r o) (hd' : OpD X E r' o') (hd'' : OpD X E r'' o'')
    (pa : ∀ σ G H ρ Q, Rel X.K G σ H ρ → EPost X E σ G H ρ Q (fa ρ) → ta σ H Q) (pb : ∀ σ G H ρ Q, Rel X.K G σ H ρ → EPost X E σ G H ρ Q (fb ρ) → tb σ H Q) (pc : ∀ σ G H ρ Q, Rel X.K G σ H ρ → EPost X E σ G H ρ Q (fc ρ) → tc σ H Q) (pd : ∀ σ G H ρ Q, Rel X.K G σ H ρ → EPost X E σ G H ρ Q (fe ρ) → td σ H Q)
    (R : Rel X.K G σ H ρ) (h : EPost X E σ G H ρ Q (dChain3 o o' o'' fa fb fc fe ρ)) : tChain3 r r' r'' ta tb tc td σ H Q := by
  refine pa σ G H ρ _ R (Post.bind h fun G1 H1 x d ρ1 R1 S1 hx h1 => pb σ G1 H1 ρ1 _ R1 (Post.bind h1 fun G2 H2 y e ρ2 R2 S2 hy h2 => ?_))
  cases z : o d e with
  | none => simp only [z] at h2; exact h2.elim
  | some w =>
    cases w with
    | bool k =>
      simp only [z] at h2
      refine hd σ G2 H2 ρ2 x y d e (.bool k) _ R2 (Rp.mono S2.same hx) hy z fun G3 H3 v R3 S3 hv => ?_
      cases hv
      refine ⟨k, rfl, ?_⟩
      cases k with
      | false =>
        rw [if_neg Bool.false_ne_true] at h2
        exact iteF (Post.done R3 (Post.from S3 h2) (.bl false))
      | true =>
        rw [if_pos rfl] at h2
        refine iteT (pc σ G3 H3 ρ2 _ R3 (Post.bind (Post.from S3 h2) fun G4 H4 w f ρ3 R4 S4 hw h3 => ?_))
        cases z2 : o' e f with
        | none => simp only [z2] at h3; exact h3.elim
        | some g =>
          cases g with
          | bool k2 =>
            simp only [z2] at h3
            refine hd' σ G4 H4 ρ3 y w e f (.bool k2) _ R4 (Rp.mono S4.same (Rp.mono S3.same hy)) hw z2 fun G5 H5 v5 R5 S5 hv5 => ?_
            cases hv5
            refine ⟨k2, rfl, ?_⟩
            cases k2 with
            | false =>
              rw [if_neg Bool.false_ne_true] at h3
              exact iteF (Post.done R5 (Post.from S5 h3) (.bl false))
            | true =>
              rw [if_pos rfl] at h3
              refine iteT (pd σ G5 H5 ρ3 _ R5 (Post.bind (Post.from S5 h3) fun G6 H6 w6 f6 ρ6 R6 S6 hw6 h6 => ?_))
              cases z3 : o'' f f6 with
              | none => rw [z3] at h6; exact h6.elim
              | some g6 => rw [z3] at h6; exact hd'' σ G6 H6 ρ6 w w6 f f6 g6 Q R6 (Rp.mono S6.same (Rp.mono S5.same hw)) hw6 z3 h6
          | _ => simp only [z2] at h3; exact h3.elim
    | _ => simp only [z] at h2; exact h2.elim
theorem t_chain3 {op op' op'' : CmpOp} {r r' r'' : R2} {o o' o'' : PyData → PyData → Option PyData} (hd : OpD X E r o) (hd' : OpD X E r' o') (hd'' : OpD X E r'' o'') (ha : EJ X E a fa) (hb : EJ X E b fb) (hc : EJ X E c fc) (he : EJ X E e fe)
    (hp : ∀ ta tb tc td, PE X a ta → PE X b tb → PE X c tc → PE X e td → PT X (.Compare a [op, op', op''] [b, c, e] pos) (tTest (tChain3 r r' r'' ta tb tc td))) : TJ X E (.Compare a [op, op', op''] [b, c, e] pos) (tOf (dChain3 o o' o'' fa fb fc fe)) := by
  obtain ⟨ta, qa, pa⟩ := ha
  obtain ⟨tb, qb, pb⟩ := hb
  obtain ⟨tc, qc, pc⟩ := hc
  obtain ⟨td, qd, pd⟩ := he
  refine ⟨_, hp _ _ _ _ qa qb qc qd, fun σ G H ρ Q R h => chain_read3 hd hd' hd'' pa pb pc pd R (Post.bind h fun G1 H1 x d ρ1 R1 S1 hx h1 => ?_)⟩
  cases d with
  | bool k => cases hx; exact ⟨k, rfl, Post.done R1 h1 rfl⟩
  | _ => exact h1.elim
theorem wp_chain3 {Z : Exn → DEnv → Prop} {ρ : DEnv} {Q : PyData → DEnv → Prop} (o o' o'' : PyData → PyData → Option PyData) (f g h i : DEnv → Res PyData) : WpX Z (dChain3 o o' o'' f g h i ρ) Q = WpX Z (f ρ) fun x ρ1 => WpX Z (g ρ1) fun y ρ2 => WpX Z (Res.of (o x y) ρ2) (boolQ fun b ρ3 => if b = true then WpX Z (h ρ3) fun z ρ4 =>
    WpX Z (Res.of (o' y z) ρ4) (boolQ fun b ρ5 => if b = true then WpX Z (i ρ5) fun w ρ6 => WpX Z (Res.of (o'' z w) ρ6) Q else Q (.bool false) ρ5) else Q (.bool false) ρ3) := by
  unfold dChain3
  rw [wp_bind]
  congr 1
  funext x ρ1
  rw [wp_bind]
  congr 1
  funext y ρ2
  cases z : o x y with
  | none => exact (wp_bad _).trans (wp_bad _).symm
  | some w =>
    rw [wp_of_some]
    cases w with
    | bool k =>
      show _ = (if k = true then _ else _)
      cases k with
      | false => exact wp_ok _ _ _
      | true =>
        rw [if_pos rfl]
        show WpX Z (if true = true then _ else _) Q = _
        rw [if_pos rfl, wp_bind]
        congr 1
        funext u ρ3
        cases z2 : o' y u with
        | none => exact (wp_bad _).trans (wp_bad _).symm
        | some w =>
          rw [wp_of_some]
          cases w with
          | bool k =>
            show _ = (if k = true then _ else _)
            cases k with
            | false => exact wp_ok _ _ _
            | true =>
              rw [if_pos rfl]
              show WpX Z (if true = true then _ else _) Q = _
              rw [if_pos rfl, wp_bind]
          | _ => exact wp_bad _
    | _ => exact wp_bad _
end DL

set_option Elab.async false
set_option linter.all false
set_option maxRecDepth 100000
set_option maxHeartbeats 4000000
/-! DL part 34: defs that hand out an object they hold by a name; calls that lend an object and hand one out. -/
namespace DL
open PySem PySem.Spec PyProof PyProof.Rows L2
def RPost2 (K : PySem.W.Frag) (mg : Str → Option Value) (E : WX) (D : Ends) (σ : St) (G H : Hp) (ρ : DEnv) : Res OD → Prop
  | .ok o ρ' => ∀ G' H' σ' p, Rel K G' σ' H' ρ' → Stp G H σ ρ G' H' σ' ρ' → G' p = none → OwnAt K G' H' p o → (H p = none ∨ OwnL σ ρ p) → D.rt (.ref p) H'
  | .err x ρ' => ∀ G' H' σ' c od, Rel K G' σ' H' ρ' → Stp G H σ ρ G' H' σ' ρ' → ErrAt K mg G' H' x c od → E c od σ' H'
  | .bad => False
structure FB2 (X : Cx) (E : WX) (sts : List Stmt) (f : DEnv → Res OD) : Prop where
  ex : ∃ t : TS, PSs X sts t ∧ ∀ (σ : St) (G H : Hp) (ρ : DEnv) (D : Ends), Rel X.K G σ H ρ → RPost2 X.K X.mg E D σ G H ρ (f ρ) → t D σ H
def retOwn (i : Nat) : DEnv → Res OD := fun ρ => match ρ[i]? with
  | some (.own o) => .ok o ρ
  | _ => .bad
theorem fb2_retN {X : Cx} {E : WX} {y : Str} {py pos : Pos} (i : Nat) (hy : PE X (.Name y py) (tVar i)) : FB2 X E [.Return (some (.Name y py)) pos] (retOwn i) := by
  refine ⟨_, pss_one (ps_ret hy), fun σ G H ρ D R h => ?_⟩
  unfold retOwn at h
  cases q : ρ[i]? with
  | none => rw [q] at h; exact h.elim
  | some c =>
    obtain ⟨v0, e0, q0⟩ := R.cell i c q
    cases c with
    | un => rw [q] at h; exact h.elim
    | val _ => rw [q] at h; exact h.elim
    | io _ => rw [q] at h; exact h.elim
    | own o =>
      rw [q] at h
      obtain ⟨b, e1, g1, o1⟩ := q0
      cases e1
      exact ⟨_, e0, h G H σ b R Stp.refl g1 o1 (.inr ⟨i, o, q, e0⟩)⟩
theorem RPost2.from {K : PySem.W.Frag} {mg : Str → Option Value} {E : WX} {D : Ends} {σ σ1 : St} {G H G1 H1 : Hp} {ρ ρ1 : DEnv} {r : Res OD} (s : Stp G H σ ρ G1 H1 σ1 ρ1) (h : RPost2 K mg E D σ G H ρ r) : RPost2 K mg E D σ1 G1 H1 ρ1 r := by
  cases r with
  | ok o ρ' => exact fun G' H' σ' p R S q1 q2 q3 => h G' H' σ' p R (s.trans S) q1 q2 (q3.elim (fun z => .inl (s.keep p z)) fun z => (s.ownl p z).symm)
  | err x ρ' => exact fun G' H' σ' c od R S q => h G' H' σ' c od R (s.trans S) q
  | bad => exact h
theorem fb2_cons {X : Cx} {E : WX} {st : Stmt} {rest : List Stmt} {f : DEnv → Res Out} {g : DEnv → Res OD} (h : SJ X E st f) (h2 : FB2 X E rest g) : FB2 X E (st :: rest) (seqF f g) := by
  obtain ⟨t, q, p⟩ := h
  obtain ⟨t2, q2, p2⟩ := h2
  refine ⟨_, pss_cons q q2, fun σ G H ρ D R h => p σ G H ρ _ R ?_⟩
  unfold seqF at h
  cases r : f ρ with
  | bad => rw [r] at h; exact h
  | err x ρ' => rw [r] at h; exact h
  | ok o ρ' =>
    rw [r] at h
    cases o with
    | nx => exact fun G' H' σ' R' S' => p2 σ' G' H' ρ' D R' (RPost2.from S' h)
    | bk => exact h.elim
    | ct => exact h.elim
    | rt d => exact h.elim
section
variable {P : Program} {w : World} {K : PySem.W.Frag} {mg : Str → Option Value} {base : Heap}
theorem keptF2_of {x qual : Str} {st : Stmt} {f : Addr} {fd : FuncData} {N ps : List Str} {k m : Nat} {body : DEnv → Res OD} (D : IsDef K mg x qual st ps f fd) (S : FnScope N ps (defScope st)) (hN : N.length = ps.length + m)
    (hb : ∀ (cdv : Value) (A : Around) (outer : List Env) (s : Shared) (H : Hp) (E : XK), Room k (A.deeper (envOfC qual (defScope st) s.heap.objs.size f cdv)) → FB2 (cxOf CX0 P w K mg base N qual (defScope st) f cdv A outer s H E).nox (upE E) (defBody st) body) :
    KeptF P w K mg base CX0 (k + 1) x ps (defF m body) := by
  refine ⟨f, fd, D.gl, D.fn.kp, D.bi, D.fn.ok S (fun vs H Q E h => ?_) fun cdv A outer s H vs Q E hr h => ?_⟩
  · obtain ⟨_, _, h, _⟩ := h
    exact h
  · obtain ⟨G, cs, hl, ha, R, h⟩ := h
    obtain ⟨t, q, p⟩ := (hb cdv A outer s H E hr).ex
    refine ⟨t, q, ?_⟩
    have hst : L2.start N vs = vs.map some ++ List.replicate m none := by
      unfold L2.start
      rw [hN, hl]
      congr 2
      omega
    rw [hst]
    have R0 := R.ext m
    have p' : ∀ (σ : St) (G H : Hp) (ρ : DEnv) (D : Ends), Rel K G σ H ρ → RPost2 K mg (upE E) D σ G H ρ (body ρ) → t D σ H := p
    refine p' _ G H (cs ++ List.replicate m .un) _ R0 ?_
    show RPost2 K mg (upE E) _ (vs.map some ++ List.replicate m none) G H (cs ++ List.replicate m .un) (body (cs ++ List.replicate m .un))
    unfold defF at h
    cases r : body (cs ++ List.replicate m .un) with
    | bad => rw [r] at h; exact h
    | err x ρ' =>
      rw [r] at h
      intro G' H' σ' c od R' S' q
      obtain ⟨R2, S2⟩ := back_ok ha R R' S'
      exact h G' H' c od R2 S2 q
    | ok o ρ' =>
      rw [r] at h
      intro G' H' σ' p R' S' q1 q2 q3
      obtain ⟨R2, S2⟩ := back_ok ha R R' S'
      have hcs : cs.length ≤ ρ'.length := by
        have h1 := S'.len
        have h2 := R'.len
        have h3 := R.len
        rw [List.length_append, List.length_replicate] at h1
        omega
      have q3 : H p = none := q3.elim id fun ⟨i, o, z1, _⟩ => by
        rcases List.mem_append.mp (List.mem_of_getElem? z1) with z | z
        · have := List.all_eq_true.mp ha _ z
          cases this
        · cases List.eq_of_mem_replicate z
      refine h G' H' p R2 S2 q1 q2 q3 (fun z => ?_) fun z => ?_
      · obtain ⟨i, o2, z1, z2⟩ := z
        rcases backIO_get cs ρ' i _ hcs z1 with ⟨⟨o3, y⟩, y2⟩ | ⟨_, y⟩
        · have hi : (cs ++ List.replicate m Cell.un)[i]? = some (.io o3) := by
            rw [List.getElem?_append_left (List.getElem?_eq_some_iff.mp y).1]; exact y
          obtain ⟨_, o4, y3⟩ := S'.io i o3 hi
          rw [y2] at y3
          cases y3
        · have := List.all_eq_true.mp ha _ (List.mem_of_getElem? y)
          cases this
      · have z := (S2.owni p).mp z
        obtain ⟨u, hu⟩ := R.ownHI z
        rw [q3] at hu
        cases hu
end
def callFIO (den : DEnv → Res OD) (i : Nat) (ds : List PyData) (ρ : DEnv) : Res OD := match ρ[i]? with
  | some (.io o) => match den (.io o :: ds.map .val) with
    | .ok d (.io o' :: _) => .ok d (ρ.set i (.io o'))
    | _ => .bad
  | some (.own o) => match den (.io o :: ds.map .val) with
    | .ok d (.io o' :: _) => .ok d (ρ.set i (.own o'))
    | _ => .bad
  | _ => .bad
def dCallFI (den : DEnv → Res OD) (i : Nat) (fs : DEnv → Res (List PyData)) : DEnv → Res OD := fun ρ => if (ρ[i]?.getD .un).isOwn = true then (fs ρ).bind fun ds ρ1 => callFIO den i ds ρ1 else .bad
section
variable {X : Cx} {E : WX} {es : List Expr} {fs : DEnv → Res (List PyData)} {den : DEnv → Res OD} {pos p : Pos} {x : Str} {k : Nat} {ps : List Str}
theorem lentF_of {i n : Nat} {t : TA} {σ : St} {G H : Hp} {ρ : DEnv} {Q : VK} (hl : ∀ (ρ : DEnv) (ds : List PyData) (ρ' : DEnv), fs ρ = .ok ds ρ' → ds.length = es.length) (p : ∀ σ G H ρ Q, Rel X.K G σ H ρ → APost X E σ G H ρ Q (fs ρ) → t σ H Q) (hn : es.length + 1 = n) (R : Rel X.K G σ H ρ)
    (h : FPost X.K X.mg E σ G H ρ Q (dCallFI den i fs ρ)) : ∃ v, σ[i]? = some (some v) ∧ t σ H (fun xs H2 => spDF X.K X.mg n den ((v :: xs) ++ []) H2 Q E0) := by
  unfold dCallFI at h
  by_cases hc : (ρ[i]?.getD .un).isOwn = true
  case neg => rw [if_neg hc] at h; exact h.elim
  rw [if_pos hc] at h
  have key : ∀ (v : V), σ[i]? = some (some v) → t σ H (fun xs H2 => spDF X.K X.mg n den ((v :: xs) ++ []) H2 Q E0) := fun v hv => by
    refine p σ G H ρ _ R ?_
    cases r : fs ρ with
    | bad => rw [r] at h; exact h
    | err x c => rw [r] at h; exact h
    | ok ds ρ1 =>
      rw [r] at h
      intro G1 H1 vs R1 S1 hvs
      have h1 : FPost X.K X.mg E σ G1 H1 ρ1 Q (callFIO den i ds ρ1) := FPost.from S1 h
      rw [List.append_nil]
      have fin : ∀ (mk : OD → Cell) (o : OD), (mk = .io ∨ mk = .own) → ρ1[i]? = some (mk o) → (callFIO den i ds ρ1 = match den (.io o :: ds.map .val) with
          | .ok d (.io o' :: _) => .ok d (ρ1.set i (mk o'))
          | _ => .bad) → spDF X.K X.mg n den (v :: vs) H1 Q E0 := fun mk o hmk hi hc => by
        obtain ⟨v0, e0, q0⟩ := R1.cell i _ hi
        rw [hv] at e0
        cases e0
        have q0 : CellOk X.K G1 H1 (some v) (.io o) := by rcases hmk with rfl | rfl <;> exact q0
        obtain ⟨b, e1, g1, o1⟩ := q0
        cases e1
        have Rv := vals_rel R1.gh hvs
        refine ⟨G1, .io o :: ds.map .val, ?_, ?_, ⟨R1.gh, ?_, fun j c e => ?_, fun j k b2 hjk a1 a2 => ?_⟩, ?_⟩
        · rw [List.length_cons, RpAll.len hvs, hl ρ ds ρ1 r]; exact hn
        · rw [List.all_cons, vals_arg]; rfl
        · rw [List.map_cons, List.length_cons, List.length_cons, Rv.len]
        · cases j with
          | zero => cases e; exact ⟨_, rfl, b, rfl, g1, o1⟩
          | succ j => exact Rv.cell j c e
        · obtain ⟨x1, c1, y1, z1⟩ := a1
          obtain ⟨x2, c2, y2, z2⟩ := a2
          cases j with
          | zero =>
            cases k with
            | zero => exact hjk rfl
            | succ k =>
              rw [List.getElem?_cons_succ, List.getElem?_map] at y2
              cases q : ds[k]? with
              | none => rw [q] at y2; cases y2
              | some d => rw [q] at y2; cases y2; cases z2
          | succ j =>
            rw [List.getElem?_cons_succ, List.getElem?_map] at y1
            cases q : ds[j]? with
            | none => rw [q] at y1; cases y1
            | some d => rw [q] at y1; cases y1; cases z1
        · rw [hc] at h1
          cases r2 : den (.io o :: ds.map .val) with
          | bad => rw [r2] at h1; exact h1
          | err x c => rw [r2] at h1; exact h1.elim
          | ok d cs =>
            rw [r2] at h1
            cases cs with
            | nil => exact h1.elim
            | cons c0 cs =>
              cases c0 with
              | un => exact h1.elim
              | val _ => exact h1.elim
              | own _ => exact h1.elim
              | io o' =>
                intro G2 H2 u R2 S2 q1 q2 q3 q4 q5
                have hσ : σ[i]? = some (some (.ref b)) := hv
                obtain ⟨R3, S3⟩ := callIO_step hmk R1 hi hσ R2 S2
                refine h1 G2 H2 u R3 S3 q1 q2 q3 (fun z => ?_) fun z => ?_
                · obtain ⟨j, o2, z1, z2⟩ := z
                  have : OwnL σ ρ1 u := by
                    by_cases hj : i = j
                    · subst hj
                      rcases hmk with rfl | rfl
                      · rw [List.getElem?_set_self (List.getElem?_eq_some_iff.mp hi).1] at z1; cases z1
                      · exact ⟨i, o, hi, z2⟩
                    · rw [List.getElem?_set_ne hj] at z1
                      exact ⟨j, o2, z1, z2⟩
                  obtain ⟨w, hw⟩ := R1.ownH this
                  rw [q3] at hw
                  cases hw
                · have z := (S3.owni u).mp z
                  obtain ⟨w, hw⟩ := R1.ownHI z
                  rw [q3] at hw
                  cases hw
      cases q : ρ1[i]? with
      | none => unfold callFIO at h1; rw [q] at h1; exact h1.elim
      | some cl =>
        cases cl with
        | un => unfold callFIO at h1; rw [q] at h1; exact h1.elim
        | val _ => unfold callFIO at h1; rw [q] at h1; exact h1.elim
        | io o => exact fin .io o (.inl rfl) q (by unfold callFIO; rw [q])
        | own o => exact fin .own o (.inr rfl) q (by unfold callFIO; rw [q])
  cases q : ρ[i]? with
  | none => rw [q] at hc; cases hc
  | some cl =>
    obtain ⟨v0, e0, q0⟩ := R.cell i cl q
    cases cl with
    | un => rw [q] at hc; cases hc
    | val _ => rw [q] at hc; cases hc
    | own o => obtain ⟨b, e1, _⟩ := q0; rw [e1] at e0; exact ⟨_, e0, key _ e0⟩
    | io o => obtain ⟨b, e1, _⟩ := q0; rw [e1] at e0; exact ⟨_, e0, key _ e0⟩
theorem f_callFI {y : Str} {py : Pos} (i : Nat) (F : KeptF X.prog X.w X.K X.mg X.base CX0 k x ps den) (hn : es.length + 1 = ps.length) (hr : Room k X.A) (hg : Gl X x) (hy : PE X (.Name y py) (tVar i)) (ha : AJ X E es fs) (hdb : (x == ("__debug__" : Str)) = false := by decide)
    (he : starEach (.Name y py :: es) X.env = (false, eval (.Name y py) X.env) :: starEach es X.env := by rfl) (hpl : (backTo pos (starEach es X.env)).any (·.1) = false := by rfl) :
    FJ X E (.Call (.Name x p) (.Name y py :: es) [] pos) (dCallFI den i fs) := by
  obtain ⟨f, fd, gm, kp, bi, F⟩ := F
  obtain ⟨hl, t, q, p⟩ := ha
  exact ⟨_, pe_call F hr hg gm kp bi .nil pass0 (pa_cons hy q he) hdb he hpl, fun σ G H ρ Q R h => lentF_of hl p hn R h⟩
end
section
variable {Z : Exn → DEnv → Prop} {ρ : DEnv} {O : OD → DEnv → Prop}
theorem wp_callFI (den : DEnv → Res OD) (i : Nat) (fs : DEnv → Res (List PyData)) : WpX Z (dCallFI den i fs ρ) O = ((ρ[i]?.getD .un).isOwn = true ∧ WpX Z (fs ρ) fun ds ρ1 => WpX Z (callFIO den i ds ρ1) O) := by
  unfold dCallFI
  by_cases h : (ρ[i]?.getD .un).isOwn = true
  · rw [if_pos h, wp_bind]
    exact propext ⟨fun q => ⟨h, q⟩, fun q => q.2⟩
  · rw [if_neg h]
    exact propext ⟨fun q => q.out.elim, fun q => absurd q.1 h⟩
theorem wp_callFIO_io (den : DEnv → Res OD) (i : Nat) (ds : List PyData) (o : OD) (h : ρ[i]? = some (.io o)) (k : WpX Zn (den (.io o :: ds.map .val)) fun d cs => ∃ o' r, cs = .io o' :: r ∧ O d (ρ.set i (.io o'))) : WpX Z (callFIO den i ds ρ) O := by
  obtain ⟨d, cs, e, o', r, rfl, q⟩ := k.get
  unfold callFIO
  rw [h]
  show WpX Z (match den (.io o :: ds.map .val) with
    | .ok d (.io o' :: _) => .ok d (ρ.set i (.io o'))
    | _ => .bad) O
  rw [e]
  exact .ok rfl q
def ownQ (O : OD → Prop) : Option Cell → Prop
  | some (.own o) => O o
  | _ => False
theorem wp_retOwn (i : Nat) : WpX Z (retOwn i ρ) O = ownQ (fun o => O o ρ) ρ[i]? := by
  unfold retOwn
  cases ρ[i]? with
  | none => exact wp_bad _
  | some c =>
    cases c with
    | own o => exact wp_ok _ _ _
    | _ => exact wp_bad _
theorem ownQ_own (O : OD → Prop) (o : OD) : ownQ O (some (.own o)) = O o := rfl
end
end DL

set_option Elab.async false
set_option linter.all false
set_option maxRecDepth 100000
set_option maxHeartbeats 4000000
/-! DL part 35: dicts whose keys are pairs of pairs of whole numbers, and whose values are truths. -/
namespace DL
open PySem PySem.Spec PyProof PyProof.Rows L2
def pkey (p : PK) : NestedKey := .tup [.tup [.num p.1.1, .num p.1.2], .tup [.num p.2.1, .num p.2.2]]
theorem pkey_hash (w : World) (p : PK) : (pkey p).hash w = phash p := by
  unfold pkey phash
  simp only [NestedKey.hash, NestedKey.hashes]
theorem pkey_inj {p q : PK} (h : pkey p = pkey q) : p = q := by
  obtain ⟨⟨a, b⟩, c, d⟩ := p
  obtain ⟨⟨a', b'⟩, c', d'⟩ := q
  unfold pkey at h
  simp only [NestedKey.tup.injEq, List.cons.injEq, NestedKey.num.injEq, and_true] at h
  obtain ⟨⟨rfl, rfl⟩, rfl, rfl⟩ := h
  rfl
theorem ndo_new {P : Program} {w : World} {H : Hp} {h : Heap} {a : Addr} {L : List (PK × Addr × Bool)} (R : NDR h a L) : ObjOk P w H h a (NDO a L) := by
  obtain ⟨r, o, es, ep, e1, e2, e3, e4⟩ := R
  exact ⟨⟨r, o, es, ep, e1, e2, e3, e4⟩, ⟨o, e1⟩, fun h1 h2 ⟨r, o, es, ep, e1, e2, e3, e4⟩ k => ⟨r, o, es, ep, k o e1, e2, e3, e4⟩⟩
section
variable {X : Cx} {pins : List (Addr × Obj)} {σ : St} {H : Hp} {s : Shared} {a b : Addr}
theorem tup2_is (I : Inv X pins σ H s) {x y : Int} (e : SqT X.K H b [.int x, .int y]) : NestedIs s.heap (.tup [.num x, .num y]) (.ref b) := by
  obtain ⟨its, r, ⟨o, h1, h2, n, h3⟩, _⟩ := I.tuple e
  cases r with
  | cons r1 r => cases r with
    | cons r2 r => cases r with
      | nil =>
        obtain ⟨t1, rfl⟩ := r1
        obtain ⟨t2, rfl⟩ := r2
        exact .tup h1 h2 h3 (.cons (.int _ _) (.cons (.int _ _) .nil))
theorem key_is (I : Inv X pins σ H s) {p : PK} (e : KeyT X.K H p b) : (nestedKind X.prog X.w).is s.heap (pkey p) b := by
  obtain ⟨b1, b2, e0, e1, e2⟩ := e
  refine ⟨?_, by unfold pkey; simp [NestedKey.depth, NestedKey.depthAll]⟩
  obtain ⟨its, r, ⟨o, h1, h2, n, h3⟩, _⟩ := I.tuple e0
  cases r with
  | cons r1 r => cases r with
    | cons r2 r => cases r with
      | nil =>
        cases r1
        cases r2
        exact .tup h1 h2 h3 (.cons (tup2_is I e1) (.cons (tup2_is I e2) .nil))
def ndX (L : List (PK × Addr × Bool)) : List (NestedKey × Addr × Value) := L.map fun x => (pkey x.1, x.2.1, Value.bool x.2.2)
theorem nd_dict (I : Inv X pins σ H s) {L : List (PK × Addr × Bool)} (e : H a = some (NDO a L)) (hk : ∀ x ∈ L, KeyT X.K H x.1 x.2.1) : L.length ≤ sizeLine ∧ (a == sysModules) = false ∧ s.heap.DictOfH (nestedKind X.prog X.w) a (ndX L) := by
  obtain ⟨⟨⟨z, y, nd⟩, o, es, ep, e1, e2, e3, e4⟩, _, _⟩ := (show ObjOk X.prog X.w H s.heap a (NDO a L) from I.hok a _ e)
  refine ⟨z, y, o, es, ep, e1, e2, e3, ?_, fun x hx => ?_, ?_⟩
  · rw [e4]
    unfold ndX
    rw [List.map_map]
    refine List.map_congr_left fun x _ => ?_
    show pent x = ⟨(pkey x.1).hash X.w, .ref x.2.1, Value.bool x.2.2⟩
    rw [pkey_hash]
    rfl
  · unfold ndX at hx
    obtain ⟨y, hy, rfl⟩ := List.mem_map.mp hx
    exact key_is I (hk y hy)
  · unfold ndX
    rw [List.map_map]
    have : (fun x : PK × Addr × Bool => pkey x.1) = pkey ∘ (·.1) := rfl
    show (L.map fun x => pkey x.1).Nodup
    rw [this, ← List.map_map]
    exact List.pairwise_map.mpr (nd.imp fun h e => h (pkey_inj e))
end
def ndAt (L : List (PK × Addr × Bool)) (p : PK) : Option (Addr × Bool) := (L.find? fun x => decide (x.1 = p)).map (·.2)
def ndPut (L : List (PK × Addr × Bool)) (p : PK) (b : Addr) (v : Bool) : List (PK × Addr × Bool) := if (ndAt L p).isSome then L.map fun x => if x.1 = p then (x.1, x.2.1, v) else x else L ++ [(p, b, v)]
theorem at_ndX (L : List (PK × Addr × Bool)) (p : PK) : atKey (ndX L) (pkey p) = (ndAt L p).map fun y => (y.1, Value.bool y.2) := by
  unfold atKey ndX ndAt
  rw [List.find?_map, Option.map_map, Option.map_map]
  have : ((fun x : NestedKey × Addr × Value => decide (x.1 = pkey p)) ∘ fun x : PK × Addr × Bool => (pkey x.1, x.2.1, Value.bool x.2.2)) = fun x => decide (x.1 = p) := by
    funext x
    show decide (pkey x.1 = pkey p) = decide (x.1 = p)
    by_cases h : x.1 = p
    · rw [h]; simp
    · rw [decide_eq_false h, decide_eq_false fun e => h (pkey_inj e)]
  rw [this]
  rfl
theorem put_ndX (L : List (PK × Addr × Bool)) (p : PK) (b : Addr) (v : Bool) : storedH (ndX L) (pkey p) b (Value.bool v) = ndX (ndPut L p b v) := by
  unfold storedH ndPut
  rw [at_ndX, Option.isSome_map]
  by_cases h : (ndAt L p).isSome = true
  · rw [if_pos h, if_pos h]
    unfold ndX
    rw [List.map_map, List.map_map]
    refine List.map_congr_left fun x _ => ?_
    show putAt (pkey p) (Value.bool v) (pkey x.1, x.2.1, Value.bool x.2.2) = _
    unfold putAt
    by_cases e : x.1 = p
    · rw [if_pos (by rw [e])]
      show _ = (fun x : PK × Addr × Bool => (pkey x.1, x.2.1, Value.bool x.2.2)) (if x.1 = p then (x.1, x.2.1, v) else x)
      rw [if_pos e]
    · rw [if_neg fun e2 => e (pkey_inj e2)]
      show _ = (fun x : PK × Addr × Bool => (pkey x.1, x.2.1, Value.bool x.2.2)) (if x.1 = p then (x.1, x.2.1, v) else x)
      rw [if_neg e]
  · rw [if_neg h, if_neg h]
    unfold ndX
    rw [List.map_append]
    rfl
section
variable {X : Cx} {pins : List (Addr × Obj)} {σ : St} {H : Hp} {s : Shared} {a b : Addr} {A : Around} {E : Value → Shared → Prop} {L : List (PK × Addr × Bool)} {p : PK}
/-- d[(x, y)], there -/
theorem nd_getItem {v : Bool} {c : Addr} {Q : Value → Shared → Prop} (hu : A.units + 65 < cLine) (I : Inv X pins σ H s) (e : H a = some (NDO a L)) (hk : ∀ x ∈ L, KeyT X.K H x.1 x.2.1) (kt : KeyT X.K H p b) (hv : ndAt L p = some (c, v)) (h : ∀ s', Inv X pins σ H s' → Q (.bool v) s') :
    wpAny (model X.prog X.w) A (getItem (.ref a) (.ref b)) Q E s := by
  obtain ⟨z, hd, dd⟩ := nd_dict I e hk
  refine wpAny_getItem_heap (knd := nestedKind X.prog X.w) (p := (c, Value.bool v)) (show A.in1.units + 8 < cLine from by have : A.in1.units = A.units + 1 := rfl; omega) (key_is I kt) dd (by rw [at_ndX, hv]; rfl) ?_
  exact h _ (I.tok _)
theorem ndPut_len (L : List (PK × Addr × Bool)) (p : PK) (b : Addr) (v : Bool) : (ndPut L p b v).length ≤ L.length + 1 := by
  unfold ndPut
  split
  · rw [List.length_map]; omega
  · rw [List.length_append]; exact Nat.le_refl _
/-- d[(x, y)] = a truth -/
theorem nd_setItem {v : Bool} {Q : Unit → Shared → Prop} (hu : A.units + 65 < cLine) (I : Inv X pins σ H s) (e : H a = some (NDO a L)) (hk : ∀ x ∈ L, KeyT X.K H x.1 x.2.1) (kt : KeyT X.K H p b) (hl : L.length < sizeLine) (h : ∀ s', Inv X pins σ (upd H a (NDO a (ndPut L p b v))) s' → Q () s') :
    wpAny (model X.prog X.w) A (setItem (.ref a) (.ref b) (.bool v)) Q E s := by
  obtain ⟨z, hd, dd⟩ := nd_dict I e hk
  refine wpAny_setItem_heap (knd := nestedKind X.prog X.w) (hsz := by unfold ndX; rw [List.length_map]; exact z) (show A.in1.units + 8 < cLine from by have : A.in1.units = A.units + 1 := rfl; omega) (key_is I kt) dd fun h' dd' hs => h _ ?_
  rw [put_ndX] at dd'
  obtain ⟨q, es, ep, hq, h2, h3, h4, h5, h6⟩ := dd'
  refine d_write I (by rw [e]; exact True.intro) hs ⟨q, hq⟩ (ndo_new ⟨⟨?_, hd, ?_⟩, q, es, ep, hq, h2, h3, ?_⟩)
  · have := ndPut_len L p b v
    omega
  · unfold ndX at h6
    rw [List.map_map] at h6
    have h6 : ((ndPut L p b v).map fun x => pkey x.1).Nodup := h6
    have : (fun x : PK × Addr × Bool => pkey x.1) = pkey ∘ (·.1) := rfl
    rw [this, ← List.map_map] at h6
    exact (List.pairwise_map.mp h6).imp fun h e => h (by rw [e])
  · rw [h4]
    unfold ndX
    rw [List.map_map]
    refine List.map_congr_left fun x _ => ?_
    show (⟨(pkey x.1).hash X.w, .ref x.2.1, Value.bool x.2.2⟩ : DictEntry) = pent x
    rw [pkey_hash]
    rfl
/-- the empty dict is one of these -/
theorem nd_of_empty (I : Inv X pins σ H s) (e : H a = some (.dT [])) : Inv X pins σ (upd H a (NDO a [])) s := by
  obtain ⟨z, hd, xs, rel, o, es, ep, e1, e2, e3, e4, _⟩ := dt_of I.hok e
  cases rel
  have : Inv X pins σ (upd H a (NDO a [])) { s with heap := s.heap, toks := s.toks } :=
    I.write (x := a) (e := a) (by rw [e]; exact True.intro) (.inl rfl) (fun b u _ z => z) ⟨o, e1⟩ (ndo_new ⟨⟨Nat.zero_le _, hd, List.nodup_nil⟩, o, es, ep, e1, e2, e3, e4⟩)
  exact this
end
/-! ### readings -/
def tDGetN (K : PySem.W.Frag) (td ty : TE) : TE := fun σ H Q => td σ H fun x H1 => ty σ H1 fun y H2 => ∃ (a b : Addr) (L : List (PK × Addr × Bool)) (p : PK) (c : Addr) (v : Bool), x = .ref a ∧ y = .ref b ∧ H2 a = some (NDO a L) ∧ (∀ z ∈ L, KeyT K H2 z.1 z.2.1) ∧ KeyT K H2 p b ∧ ndAt L p = some (c, v) ∧ Q (.bl v) H2
def tDPutN (K : PySem.W.Frag) (td ty tv : TE) : TS := fun D σ H => tv σ H fun v H1 => td σ H1 fun x H2 => ty σ H2 fun y H3 => ∃ (a b : Addr) (L : List (PK × Addr × Bool)) (p : PK) (k : Bool), v = .bl k ∧ x = .ref a ∧ y = .ref b ∧ H3 a = some (NDO a L) ∧ (∀ z ∈ L, KeyT K H3 z.1 z.2.1) ∧ KeyT K H3 p b ∧ L.length < sizeLine ∧
  D.nx σ (upd H3 a (NDO a (ndPut L p b k)))
def tNewN : TE := fun _ H Q => ∀ p, H p = none → Q (.ref p) (upd H p (NDO p []))
section
variable {X : Cx} {o i value : Expr} {pos pos' : Pos} {td ty tv : TE}
theorem pe_dgetN (hu : X.A.units + 65 < cLine) (ho : PE X o td) (hi : PE X i ty) (hs : NoSl i) : PE X (.Subscript o i pos) (tDGetN X.K td ty) := by
  refine ⟨fun pins s σ H Q I h => ?_⟩
  refine subD_of PySem.F.slot_dict_getitem.lookup hs (thn (ho.run pins s σ H _ I h) fun u s1 ⟨x, H1, I1, rx, q1⟩ => thn (hi.run pins s1 σ H1 _ I1 q1) fun iv s2 ⟨y, H2, I2, ry, a, b, L, p, c, v, ex, ey, g, gk, kt, hv, q2⟩ => ?_)
  subst ex ey
  obtain rfl : u = Value.ref a := rx
  obtain rfl : iv = Value.ref b := ry
  exact ⟨(nd_dict I2 g gk).2.2.typeIs, nd_getItem hu I2 g gk kt hv fun s3 I3 => ⟨.bl v, H2, I3, rfl, q2⟩⟩
theorem ps_dputN (hu : X.A.units + 65 < cLine) (ho : PE X o td) (hi : PE X i ty) (hv : PE X value tv) (hs : swapsWith value (some (.Subscript o i pos')) pos.line X.env = pure false) :
    PS X (.Assign [.Subscript o i pos'] value pos) (tDPutN X.K td ty tv) := by
  refine ⟨fun pins s σ H D I h => ?_⟩
  refine wpAny_Assign_Subscript (thn (hv.run pins s σ H _ I h) fun r s1 ⟨v, H1, I1, rv, q1⟩ => thn (ho.run pins s1 σ H1 _ I1 q1) fun u s2 ⟨x, H2, I2, rx, q2⟩ => thn (hi.run pins s2 σ H2 _ I2 q2) fun iv s3 ⟨y, H3, I3, ry, a, b, L, p, k, ev, ex, ey, g, gk, kt, hl, q3⟩ => ?_) hs
  subst ev ex ey
  obtain rfl : u = Value.ref a := rx
  obtain rfl : iv = Value.ref b := ry
  obtain rfl : r = Value.bool k := rv
  exact nd_setItem hu I3 g gk kt hl fun s4 I4 => ⟨σ, _, I4, q3⟩
theorem pe_dnewN : PE X (.Dict [] [] pos) tNewN := by
  refine ⟨fun pins s σ H Q I h => ?_⟩
  refine thn (pe_dnewT.run pins s σ H (fun x H' => ∃ p, x = .ref p ∧ H p = none ∧ H' = upd H p (.dT [])) I fun p hp => ⟨p, rfl, hp, rfl⟩) fun u s1 ⟨x, H1, I1, rx, p, ex, hp, eH⟩ => ?_
  subst ex eH
  have I2 := nd_of_empty I1 upd_same
  rw [upd_upd] at I2
  exact ⟨.ref p, _, I2, rx, h p hp⟩
end
/-! ### meanings and rules -/
def keyN : PyData → Option PK
  | .tuple [.tuple [.int a, .int b], .tuple [.int c, .int d]] => some ((a, b), (c, d))
  | _ => none
theorem int_of {K : PySem.W.Frag} {G : Hp} {v : V} {i : Int} (h : Rp K G v (.int i)) : v = .int i := by cases h; rfl
theorem pair_of {K : PySem.W.Frag} {G : Hp} {v : V} {i j : Int} (h : Rp K G v (.tuple [.int i, .int j])) : ∃ b, v = .ref b ∧ SqT K G b [.int i, .int j] := by
  cases h with
  | tup g r =>
    cases r with
    | cons r1 r => cases r with
      | cons r2 r => cases r with
        | nil =>
          rw [int_of r1, int_of r2] at g
          exact ⟨_, rfl, g⟩
theorem keyN_rp {K : PySem.W.Frag} {G : Hp} {y : V} {d : PyData} {p : PK} (h : Rp K G y d) (e : keyN d = some p) : ∃ b, y = .ref b ∧ KeyT K G p b := by
  unfold keyN at e
  split at e
  · obtain rfl := Option.some.inj e
    cases h with
    | tup g r =>
      cases r with
      | cons r1 r => cases r with
        | cons r2 r => cases r with
          | nil =>
            obtain ⟨b1, rfl, g1⟩ := pair_of r1
            obtain ⟨b2, rfl, g2⟩ := pair_of r2
            exact ⟨_, rfl, b1, b2, g, g1, g2⟩
  · cases e
def valN (kvs : List (PK × Bool)) (p : PK) : Option Bool := (kvs.find? fun kv => decide (kv.1 = p)).map (·.2)
def putN (kvs : List (PK × Bool)) (p : PK) (v : Bool) : List (PK × Bool) := if (valN kvs p).isSome then kvs.map fun kv => if kv.1 = p then (kv.1, v) else kv else kvs ++ [(p, v)]
def flatN (L : List (PK × Addr × Bool)) : List (PK × Bool) := L.map fun x => (x.1, x.2.2)
theorem valN_flat (L : List (PK × Addr × Bool)) (p : PK) : valN (flatN L) p = (ndAt L p).map (·.2) := by
  unfold valN flatN ndAt
  rw [List.find?_map, Option.map_map, Option.map_map]
  rfl
theorem putN_flat (L : List (PK × Addr × Bool)) (p : PK) (b : Addr) (v : Bool) : putN (flatN L) p v = flatN (ndPut L p b v) := by
  unfold putN ndPut
  rw [valN_flat, Option.isSome_map]
  by_cases h : (ndAt L p).isSome = true
  · rw [if_pos h, if_pos h]
    unfold flatN
    rw [List.map_map, List.map_map]
    refine List.map_congr_left fun x _ => ?_
    show (if x.1 = p then (x.1, v) else (x.1, x.2.2)) = (fun x : PK × Addr × Bool => (x.1, x.2.2)) (if x.1 = p then (x.1, x.2.1, v) else x)
    split <;> rfl
  · rw [if_neg h, if_neg h]
    unfold flatN
    rw [List.map_append]
    rfl
theorem ndPut_keys {K : PySem.W.Frag} {G : Hp} {L : List (PK × Addr × Bool)} {p : PK} {b : Addr} {v : Bool} (h : ∀ z ∈ L, KeyT K G z.1 z.2.1) (kt : KeyT K G p b) : ∀ z ∈ ndPut L p b v, KeyT K G z.1 z.2.1 := fun z hz => by
  unfold ndPut at hz
  split at hz
  · obtain ⟨x, hx, rfl⟩ := List.mem_map.mp hz
    have := h x hx
    split <;> exact this
  · rcases List.mem_append.mp hz with q | q
    · exact h z q
    · rw [List.mem_singleton.mp q]
      exact kt
def dDGetN (i : Nat) (f : DEnv → Res PyData) : DEnv → Res PyData := fun ρ => if (ρ[i]?.getD .un).isOwn = true then (f ρ).bind fun d ρ1 => match hobj i ρ1 with
  | some (.dn kvs) => Res.of (((keyN d).bind fun p => valN kvs p).map .bool) ρ1
  | _ => .bad else .bad
def sDPutN (i : Nat) (f g : DEnv → Res PyData) : DEnv → Res Out := fun ρ => (f ρ).bind fun d ρ1 => if (ρ1[i]?.getD .un).isOwn = true then (g ρ1).bind fun k ρ2 => match hobj i ρ2, keyN k, d with
  | some (.dn kvs), some p, .bool v => if kvs.length < sizeLine then .ok .nx (setHeld i (.dn (putN kvs p v)) ρ2) else .bad
  | _, _, _ => .bad else .bad
def fNewN : DEnv → Res OD := fun ρ => .ok (.dn []) ρ
section
variable {X : Cx} {E : WX} {a b : Expr} {fa fb : DEnv → Res PyData} {pos px sp : Pos} {x : Str}
theorem f_newN : FJ X E (.Dict [] [] pos) fNewN := ⟨_, pe_dnewN, fun σ G H ρ Q R h => fun p hp => FPost.new R h hp ⟨[], upd_same, rfl, fun z hz => nomatch hz⟩⟩
theorem e_dgetN (i : Nat) (hu : X.A.units + 65 < cLine) (hx : PE X (.Name x px) (tVar i)) (ha : EJ X E a fa) (hs : NoSl a) : EJ X E (.Subscript (.Name x px) a pos) (dDGetN i fa) := by
  obtain ⟨t, q, p⟩ := ha
  refine ⟨_, pe_dgetN hu hx q hs, fun σ G H ρ Q R h => ?_⟩
  unfold dDGetN at h
  by_cases hc : (ρ[i]?.getD .un).isOwn = true
  case neg => rw [if_neg hc] at h; exact h.elim
  rw [if_pos hc] at h
  obtain ⟨b, e0⟩ := R.heldV hc
  refine ⟨.ref b, e0, p σ G H ρ _ R (Post.bind h fun G1 H1 y d ρ1 R1 S1 hy h1 => ?_)⟩
  cases q0 : hobj i ρ1 with
  | none => rw [q0] at h1; exact h1.elim
  | some o =>
    rw [q0] at h1
    obtain ⟨b1, f0, g1, o1, _⟩ := R1.hobjAny q0
    rw [e0] at f0
    cases f0
    cases o with
    | dn kvs =>
      obtain ⟨L, u1, u2, u3⟩ := o1
      have u2 : flatN L = kvs := u2
      cases q1 : keyN d with
      | none => simp only [q1] at h1; exact h1.elim
      | some k =>
        cases q2 : valN kvs k with
        | none => simp only [q1, Option.bind_some, q2] at h1; exact h1.elim
        | some c =>
          simp only [q1, Option.bind_some, q2] at h1
          obtain ⟨bk, rfl, kt⟩ := keyN_rp hy q1
          rw [← u2, valN_flat] at q2
          obtain ⟨⟨c1, c2⟩, w1, w2⟩ := Option.map_eq_some_iff.mp q2
          have w2 : c2 = c := w2
          subst w2
          exact ⟨b, bk, L, k, c1, c2, rfl, rfl, u1, fun z hz => KeyT.mono R1.gh (u3 z hz), KeyT.mono R1.gh kt, w1, Post.done R1 h1 (.bl c2)⟩
    | _ => exact h1.elim
theorem s_dputN (i : Nat) (hu : X.A.units + 65 < cLine) (hx : PE X (.Name x px) (tVar i)) (ha : EJ X E a fa) (hb : EJ X E b fb) (hs : swapsWith a (some (.Subscript (.Name x px) b sp)) pos.line X.env = pure false := by rfl) : SJ X E (.Assign [.Subscript (.Name x px) b sp] a pos) (sDPutN i fa fb) := by
  obtain ⟨t, q, p⟩ := ha
  obtain ⟨tb, qb, pb⟩ := hb
  refine ⟨_, ps_dputN hu hx qb q hs, fun σ G H ρ D R h => p σ G H ρ _ R (SPost.bind h fun G1 H1 y d ρ1 R1 S1 hy h1 => ?_)⟩
  by_cases hc : (ρ1[i]?.getD .un).isOwn = true
  case neg => rw [if_neg hc] at h1; exact h1.elim
  rw [if_pos hc] at h1
  obtain ⟨b, e0⟩ := R1.heldV hc
  refine ⟨.ref b, e0, pb σ G1 H1 ρ1 _ R1 (SPost.bind h1 fun G2 H2 z k ρ2 R2 S2 hz h2 => ?_)⟩
  cases q0 : hobj i ρ2 with
  | none => rw [q0] at h2; exact h2.elim
  | some o =>
    rw [q0] at h2
    obtain ⟨b1, f0, g1, o1, f3⟩ := R2.hobjAny q0
    rw [e0] at f0
    cases f0
    cases o with
    | dn kvs =>
      obtain ⟨L, u1, u2, u3⟩ := o1
      have u2 : flatN L = kvs := u2
      cases q1 : keyN k with
      | none => simp only [q1] at h2; exact h2.elim
      | some kk =>
        cases d with
        | bool v =>
          simp only [q1] at h2
          by_cases hz2 : kvs.length < sizeLine
          case neg => rw [if_neg hz2] at h2; exact h2.elim
          rw [if_pos hz2] at h2
          obtain ⟨bk, rfl, kt⟩ := keyN_rp hz q1
          cases hy
          obtain ⟨R3, S3⟩ := f3 (.dn (putN kvs kk v)) (NDO b (ndPut L kk bk v)) ⟨_, upd_same, by rw [← u2, putN_flat L kk bk v]; rfl, ndPut_keys u3 kt⟩
          refine ⟨b, bk, L, kk, v, rfl, rfl, rfl, u1, fun z hz => KeyT.mono R2.gh (u3 z hz), KeyT.mono R2.gh kt, ?_, h2 _ _ _ R3 S3⟩
          rw [← u2] at hz2
          unfold flatN at hz2
          rwa [List.length_map] at hz2
        | _ => simp only [q1] at h2; exact h2.elim
    | _ => exact h2.elim
end
/-! ### the reckoning -/
def dnQ (K : List (PK × Bool) → Prop) : Option OD → Prop
  | some (.dn kvs) => K kvs
  | _ => False
theorem dnQ_dn (K : List (PK × Bool) → Prop) (kvs : List (PK × Bool)) : dnQ K (some (.dn kvs)) = K kvs := rfl
def putQ (F : PK → Bool → Prop) (k d : PyData) : Prop := match keyN k, d with
  | some p, .bool v => F p v
  | _, _ => False
theorem putQ_of {F : PK → Bool → Prop} {k : PyData} {p : PK} {v : Bool} (h : keyN k = some p) : putQ F k (.bool v) = F p v := by
  unfold putQ
  rw [h]
section
variable {Z : Exn → DEnv → Prop} {ρ : DEnv} {Q : PyData → DEnv → Prop} {S : Out → DEnv → Prop} {O : OD → DEnv → Prop}
theorem wp_newN : WpX Z (fNewN ρ) O = O (.dn []) ρ := wp_ok _ _ _
theorem wp_dgetN (i : Nat) (f : DEnv → Res PyData) : WpX Z (dDGetN i f ρ) Q = ((ρ[i]?.getD .un).isOwn = true ∧ WpX Z (f ρ) fun d ρ1 => dnQ (fun kvs => WpX Z (Res.of (((keyN d).bind fun p => valN kvs p).map .bool) ρ1) Q) (hobj i ρ1)) := by
  unfold dDGetN; rw [wp_guard, wp_bind]; congr 1; congr 1; funext k ρ1
  cases hobj i ρ1 with
  | none => exact wp_bad _
  | some o => cases o <;> first | rfl | exact wp_bad _
theorem ws_dputN (i : Nat) (f g : DEnv → Res PyData) : WpX Z (sDPutN i f g ρ) S = WpX Z (f ρ) fun d ρ1 => (ρ1[i]?.getD .un).isOwn = true ∧ WpX Z (g ρ1) fun k ρ2 => dnQ (fun kvs => putQ (fun p v => kvs.length < sizeLine ∧ S .nx (setHeld i (.dn (putN kvs p v)) ρ2)) k d) (hobj i ρ2) := by
  unfold sDPutN; rw [wp_bind]; congr 1; funext d ρ1
  rw [wp_guard, wp_bind]; congr 1; congr 1; funext k ρ2
  cases hobj i ρ2 with
  | none => exact wp_bad _
  | some o =>
    cases o with
    | dn kvs =>
      unfold putQ
      cases keyN k with
      | none => exact wp_bad _
      | some p =>
        cases d with
        | bool v => exact (wp_guard _ _).trans (congrArg _ (wp_ok _ _ _))
        | _ => exact wp_bad _
    | _ => exact wp_bad _
end
theorem valN_put (kvs : List (PK × Bool)) (p q : PK) (v : Bool) : valN (putN kvs p v) q = if q = p then some v else valN kvs q := by
  have key : ∀ kvs : List (PK × Bool), valN (kvs.map fun kv => if kv.1 = p then (kv.1, v) else kv) q = if q = p then (valN kvs p).map (fun _ => v) else valN kvs q := fun kvs => by
    induction kvs with
    | nil => by_cases h : q = p <;> simp [valN, h]
    | cons kv kvs ih =>
      unfold valN at ih ⊢
      rw [List.map_cons, List.find?_cons, List.find?_cons, List.find?_cons]
      by_cases h1 : kv.1 = p
      · by_cases h2 : q = p
        · subst h2; simp [h1]
        · have : ¬ p = q := fun e => h2 e.symm
          simp only [h1, if_true, this, decide_false, h2, if_false] at ih ⊢
          exact ih
      · by_cases h3 : kv.1 = q
        · have : ¬ q = p := fun e => h1 (h3.trans e)
          simp [h1, h3, this]
        · simp only [h1, if_false, h3, decide_false] at ih ⊢
          exact ih
  unfold putN
  by_cases hp : (valN kvs p).isSome = true
  · rw [if_pos hp, key]
    obtain ⟨x, hx⟩ := Option.isSome_iff_exists.mp hp
    rw [hx]
    rfl
  · rw [if_neg hp]
    have hn : valN kvs p = none := by simpa using hp
    unfold valN at hn ⊢
    rw [List.find?_append, Option.map_or]
    by_cases h : q = p
    · subst h
      rw [hn, if_pos rfl]
      simp
    · rw [if_neg h]
      have : ([(p, v)].find? fun kv => decide (kv.1 = q)) = none := by simp [show ¬ p = q from fun e => h e.symm]
      rw [this]
      simp
theorem putN_len (kvs : List (PK × Bool)) (p : PK) (v : Bool) : (putN kvs p v).length ≤ kvs.length + 1 := by
  unfold putN
  split
  · rw [List.length_map]; omega
  · rw [List.length_append]; exact Nat.le_refl _
end DL

set_option Elab.async false
set_option linter.all false
set_option maxRecDepth 100000
set_option maxHeartbeats 4000000
/-! DL part 36: dicts with tuple keys, the key any expression: d[e], d.get(e), e in d; d[e] = v with e a tuple that the expression makes. -/
namespace DL
open PySem PySem.Spec PyProof PyProof.Rows L2
section
variable {X : Cx} {pins : List (Addr × Obj)} {σ : St} {H : Hp} {s : Shared} {a b : Addr} {A : Around} {E : Value → Shared → Prop} {kvs : List (List Key × V)} {k : List Key} {v : V} {ov : Option V}
theorem keyT_is (I : Inv X pins σ H s) (e : SqT X.K H b (k.map kV)) : (tupleKind (mixKind X.prog X.w)).is s.heap k b := by
  obtain ⟨its, r, ⟨o, h1, h2, n, h3⟩, _⟩ := I.tuple e
  exact ⟨o, its.toArray, n, h1, h2, h3, by simpa using items_are r⟩
/-- d[y], y a tuple, there -/
theorem tt_getItem {Q : Value → Shared → Prop} (hu : A.units + 1 < cLine) (I : Inv X pins σ H s) (e : H a = some (.dT kvs)) (kt : SqT X.K H b (k.map kV)) (l : valV kvs k = some v) (h : ∀ w' s', Inv X pins σ H s' → RelV v w' → Q w' s') :
    wpAny (model X.prog X.w) A (getItem (.ref a) (.ref b)) Q E s := by
  obtain ⟨z, hd, xs, rel, dd⟩ := dt_of I.hok e
  obtain ⟨w', hw, rw'⟩ := RelO.some_of (v := v) (o := (atKey xs k).map (·.2)) (by rw [← l]; exact rel.val k)
  obtain ⟨p, hp, hp2⟩ := Option.map_eq_some_iff.mp hw
  exact wpAny_getItem_heap (tupleKind_room_in1 hu) (keyT_is I kt) dd hp (by rw [hp2]; exact h w' _ (I.tok _) rw')
/-- y in d -/
theorem tt_in {Q : Value → Shared → Prop} (hu : A.units + 1 < cLine) (I : Inv X pins σ H s) (e : H a = some (.dT kvs)) (kt : SqT X.K H b (k.map kV)) (h : ∀ s', Inv X pins σ H s' → Q (.bool (valV kvs k).isSome) s') :
    wpAny (model X.prog X.w) A (compareOp .In (.ref b) (.ref a)) Q E s := by
  obtain ⟨z, hd, xs, rel, dd⟩ := dt_of I.hok e
  have q := (rel.val k).isSome_eq
  rw [Option.isSome_map] at q
  exact wpAny_in_heap (tupleKind_room_in1 hu) (keyT_is I kt) hd dd (by rw [← q]; exact h _ (I.tok _))
theorem tt_notIn {Q : Value → Shared → Prop} (hu : A.units + 1 < cLine) (I : Inv X pins σ H s) (e : H a = some (.dT kvs)) (kt : SqT X.K H b (k.map kV)) (h : ∀ s', Inv X pins σ H s' → Q (.bool (!(valV kvs k).isSome)) s') :
    wpAny (model X.prog X.w) A (compareOp .NotIn (.ref b) (.ref a)) Q E s := by
  obtain ⟨z, hd, xs, rel, dd⟩ := dt_of I.hok e
  have q := (rel.val k).isSome_eq
  rw [Option.isSome_map] at q
  exact wpAny_notIn_heap (tupleKind_room_in1 hu) (keyT_is I kt) hd dd (by rw [← q]; exact h _ (I.tok _))
/-- d.get(y) -/
theorem tt_get1 {Q : Value → Shared → Prop} (hu : A.units + 1 < cLine) (I : Inv X pins σ H s) (e : H a = some (.dT kvs)) (kt : SqT X.K H b (k.map kV)) (h : ∀ w' s', Inv X pins σ H s' → RelV ((valV kvs k).getD .non) w' → Q w' s') :
    wpAny (model X.prog X.w) A (call (.builtin "dict.get") [.ref a, .ref b]) Q E s := by
  obtain ⟨z, hd, xs, rel, dd⟩ := dt_of I.hok e
  exact call_meetsIn PySem.F.slot_dict_get dd.typeIs PySem.F.entry_dict_get (PySem.F.args_dict_get_2 _ _) (meetsH_dict_get (tupleKind (mixKind X.prog X.w)) a b hd) ⟨tupleKind_room_in1 hu, k, xs, keyT_is I kt, dd, h _ _ (I.tok _) ((rel.val k).getD rfl)⟩
end
/-! ### readings -/
def tTGet (K : PySem.W.Frag) (td ty : TE) : TE := fun σ H Q => td σ H fun x H1 => ty σ H1 fun y H2 => ∃ (a b : Addr) (kvs : List (List Key × V)) (k : List Key) (v : V), x = .ref a ∧ y = .ref b ∧ H2 a = some (.dT kvs) ∧ SqT K H2 b (k.map kV) ∧ valV kvs k = some v ∧ Q v H2
def tTIn (K : PySem.W.Frag) (neg : Bool) (ty td : TE) : TE := fun σ H Q => ty σ H fun y H1 => td σ H1 fun x H2 => ∃ (a b : Addr) (kvs : List (List Key × V)) (k : List Key), x = .ref a ∧ y = .ref b ∧ H2 a = some (.dT kvs) ∧ SqT K H2 b (k.map kV) ∧ Q (.bl (if neg then !(valV kvs k).isSome else (valV kvs k).isSome)) H2
def tTGet1 (K : PySem.W.Frag) (td ty : TE) : TE := fun σ H Q => td σ H fun x H1 => ∃ a, x = .ref a ∧ IsD H1 a ∧ ty σ H1 fun y H2 => ∃ (b : Addr) (kvs : List (List Key × V)) (k : List Key), y = .ref b ∧ H2 a = some (.dT kvs) ∧ SqT K H2 b (k.map kV) ∧ Q ((valV kvs k).getD .non) H2
section
variable {X : Cx} {o i e value : Expr} {pos pos' apos cpos : Pos} {td ty tv : TE}
theorem pe_tget (hu : X.A.units + 1 < cLine) (ho : PE X o td) (hi : PE X i ty) (hs : NoSl i) : PE X (.Subscript o i pos) (tTGet X.K td ty) := by
  refine ⟨fun pins s σ H Q I h => ?_⟩
  refine subD_of PySem.F.slot_dict_getitem.lookup hs (thn (ho.run pins s σ H _ I h) fun u s1 ⟨x, H1, I1, rx, q1⟩ => thn (hi.run pins s1 σ H1 _ I1 q1) fun iv s2 ⟨y, H2, I2, ry, a, b, kvs, k, v, ex, ey, g, kt, l, q2⟩ => ?_)
  subst ex ey
  obtain rfl : u = Value.ref a := rx
  obtain rfl : iv = Value.ref b := ry
  obtain ⟨_, _, _, _, dd⟩ := dt_of I2.hok g
  exact ⟨dd.typeIs, tt_getItem hu I2 g kt l fun w' s3 I3 rw' => ⟨v, H2, I3, rw', q2⟩⟩
theorem pc_tin (hu : X.A.units + 1 < cLine) (hi : PE X i ty) (ho : PE X o td) : PC X .In i o (tTIn X.K false ty td) := by
  refine ⟨fun pins s σ H Q I h => thn (hi.run pins s σ H _ I h) fun iv s1 ⟨y, H1, I1, ry, q1⟩ => thn (ho.run pins s1 σ H1 _ I1 q1) fun u s2 ⟨x, H2, I2, rx, a, b, kvs, k, ex, ey, g, kt, q2⟩ => ?_⟩
  subst ex ey
  obtain rfl : u = Value.ref a := rx
  obtain rfl : iv = Value.ref b := ry
  exact tt_in hu I2 g kt fun s3 I3 => ⟨.bl _, H2, I3, rfl, q2⟩
theorem pc_tnotin (hu : X.A.units + 1 < cLine) (hi : PE X i ty) (ho : PE X o td) : PC X .NotIn i o (tTIn X.K true ty td) := by
  refine ⟨fun pins s σ H Q I h => thn (hi.run pins s σ H _ I h) fun iv s1 ⟨y, H1, I1, ry, q1⟩ => thn (ho.run pins s1 σ H1 _ I1 q1) fun u s2 ⟨x, H2, I2, rx, a, b, kvs, k, ex, ey, g, kt, q2⟩ => ?_⟩
  subst ex ey
  obtain rfl : u = Value.ref a := rx
  obtain rfl : iv = Value.ref b := ry
  exact tt_notIn hu I2 g kt fun s3 I3 => ⟨.bl _, H2, I3, rfl, q2⟩
theorem pe_tget1 (hu : X.A.units + 1 < cLine) (ho : PE X o td) (he : PE X e ty) (m : M1 X o "get" apos e cpos) : PE X (.Call (.Attribute o "get" apos) [e] [] cpos) (tTGet1 X.K td ty) := by
  refine ⟨fun pins s σ H Q I h => ?_⟩
  refine wpAny_Call_method m.base m.few m.line PySem.F.plainAttrs_dict PySem.F.slot_dict_get PySem.F.type_dict_get (thn (ho.run pins s σ H _ I h) fun u s1 ⟨x, H1, I1, rx, a, ex, d, q1⟩ => ?_)
  subst ex
  obtain rfl : u = Value.ref a := rx
  obtain ⟨t1, t2, _⟩ := isD_at I1 d
  refine ⟨t1, t2, ?_⟩
  rw [m.trees]
  refine Calls.callWith_builtin rfl (Calls.evalArgs_plain (Calls.spliced_cons (thn (he.run pins s1 σ H1 _ I1 q1) fun iv s2 ⟨y, H2, I2, ry, b, kvs, k, ey, g, kt, q2⟩ => Calls.spliced_nil ?_)))
  subst ey
  obtain rfl : iv = Value.ref b := ry
  exact tt_get1 hu I2 g kt fun w' s3 I3 rw' => ⟨_, H2, I3, rw', q2⟩
end
/-! ### meanings -/
def keyTD : PyData → Option (List Key)
  | .tuple ds => keysD ds
  | _ => none
theorem keyTD_rp {K : PySem.W.Frag} {G : Hp} {y : V} {d : PyData} {k : List Key} (h : Rp K G y d) (e : keyTD d = some k) : ∃ b, y = .ref b ∧ SqT K G b (k.map kV) := by
  cases d with
  | tuple ds =>
    cases h with
    | tup g r => exact ⟨_, rfl, by rw [← keysD_kV r e]; exact g⟩
  | _ => cases e
def dTGet (i : Nat) (f : DEnv → Res PyData) : DEnv → Res PyData := fun ρ => if (ρ[i]?.getD .un).isOwn = true then (f ρ).bind fun d ρ1 => match hobj i ρ1 with
  | some (.dt kvs) => Res.of ((keyTD d).bind fun k => valD kvs k) ρ1
  | _ => .bad else .bad
def dTIn (neg : Bool) (i : Nat) (f : DEnv → Res PyData) : DEnv → Res PyData := fun ρ => (f ρ).bind fun d ρ1 => match hobj i ρ1 with
  | some (.dt kvs) => Res.of ((keyTD d).map fun k => .bool (if neg then !(valD kvs k).isSome else (valD kvs k).isSome)) ρ1
  | _ => .bad
def dTGet1 (i : Nat) (f : DEnv → Res PyData) : DEnv → Res PyData := fun ρ => if isDt (hobj i ρ) = true then (f ρ).bind fun d ρ1 => match hobj i ρ1 with
  | some (.dt kvs) => Res.of ((keyTD d).map fun k => (valD kvs k).getD .none) ρ1
  | _ => .bad else .bad
where isDt : Option OD → Bool
  | some (.dt _) => true
  | _ => false
theorem valV_D {K : PySem.W.Frag} {G : Hp} {k : List Key} {vs : List (List Key × V)} {kvs : List (List Key × PyData)} (h : KvAll K G vs kvs) : (valV vs k).isSome = (valD kvs k).isSome := by
  rw [any_valV, kv_any h, ← any_valD]
theorem val_none {K : PySem.W.Frag} {G : Hp} {k : List Key} {vs : List (List Key × V)} {kvs : List (List Key × PyData)} (h : KvAll K G vs kvs) : Rp K G ((valV vs k).getD .non) ((valD kvs k).getD .none) := by
  cases q : valD kvs k with
  | some d =>
    obtain ⟨v, e, r⟩ := kv_get h q
    rw [e]
    exact r
  | none =>
    have e := valV_D (k := k) h
    rw [q] at e
    cases q2 : valV vs k with
    | none => exact .non
    | some v => rw [q2] at e; cases e
section
variable {X : Cx} {E : WX} {a : Expr} {fa : DEnv → Res PyData} {pos px : Pos} {x : Str}
theorem e_tget (i : Nat) (hu : X.A.units + 1 < cLine) (hx : PE X (.Name x px) (tVar i)) (ha : EJ X E a fa) (hs : NoSl a) : EJ X E (.Subscript (.Name x px) a pos) (dTGet i fa) := by
  obtain ⟨t, q, p⟩ := ha
  refine ⟨_, pe_tget hu hx q hs, fun σ G H ρ Q R h => ?_⟩
  unfold dTGet at h
  by_cases hc : (ρ[i]?.getD .un).isOwn = true
  case neg => rw [if_neg hc] at h; exact h.elim
  rw [if_pos hc] at h
  obtain ⟨b, e0⟩ := R.heldV hc
  refine ⟨.ref b, e0, p σ G H ρ _ R (Post.bind h fun G1 H1 y d ρ1 R1 S1 hy h1 => ?_)⟩
  cases q0 : hobj i ρ1 with
  | none => rw [q0] at h1; exact h1.elim
  | some o =>
    rw [q0] at h1
    obtain ⟨b1, f0, g1, o1, _⟩ := R1.hobjAny q0
    rw [e0] at f0
    cases f0
    cases o with
    | dt kvs =>
      obtain ⟨vs, u1, u2⟩ := o1
      cases q1 : keyTD d with
      | none => simp only [q1] at h1; exact h1.elim
      | some k =>
        cases q2 : valD kvs k with
        | none => simp only [q1, Option.bind_some, q2] at h1; exact h1.elim
        | some c =>
          simp only [q1, Option.bind_some, q2] at h1
          obtain ⟨v, w1, w2⟩ := kv_get u2 q2
          obtain ⟨c1, rfl, kt⟩ := keyTD_rp hy q1
          exact ⟨b, c1, vs, k, v, rfl, rfl, u1, Same.seqT R1.gh kt, w1, Post.done R1 h1 w2⟩
    | _ => exact h1.elim
theorem tin_read {neg : Bool} {i : Nat} {t : TE} {σ : St} {G H : Hp} {ρ : DEnv} {Q : VK} (p : ∀ σ G H ρ Q, Rel X.K G σ H ρ → EPost X E σ G H ρ Q (fa ρ) → t σ H Q) (R : Rel X.K G σ H ρ) (h : EPost X E σ G H ρ Q (dTIn neg i fa ρ)) :
    tTIn X.K neg t (tVar i) σ H Q := by
  refine p σ G H ρ _ R (Post.bind h fun G1 H1 y d ρ1 R1 S1 hy h1 => ?_)
  cases q0 : hobj i ρ1 with
  | none => rw [q0] at h1; exact h1.elim
  | some o =>
    rw [q0] at h1
    obtain ⟨b1, f0, g1, o1, _⟩ := R1.hobjAny q0
    refine ⟨.ref b1, f0, ?_⟩
    cases o with
    | dt kvs =>
      obtain ⟨vs, u1, u2⟩ := o1
      cases q1 : keyTD d with
      | none => simp only [q1] at h1; exact h1.elim
      | some k =>
        simp only [q1] at h1
        obtain ⟨c1, rfl, kt⟩ := keyTD_rp hy q1
        refine ⟨b1, c1, vs, k, rfl, rfl, u1, Same.seqT R1.gh kt, ?_⟩
        rw [valV_D u2]
        exact Post.done R1 h1 (.bl _)
    | _ => exact h1.elim
theorem e_tin (i : Nat) (hu : X.A.units + 1 < cLine) (ha : EJ X E a fa) (hx : PE X (.Name x px) (tVar i)) (h1 : behindInMarks .In (.Name x px) = false) : EJ X E (.Compare a [.In] [.Name x px] pos) (dTIn false i fa) := by
  obtain ⟨t, q, p⟩ := ha
  exact ⟨_, pe_cmp (pc_tin hu q hx) h1, fun σ G H ρ Q R h => tin_read p R h⟩
theorem e_tnotIn (i : Nat) (hu : X.A.units + 1 < cLine) (ha : EJ X E a fa) (hx : PE X (.Name x px) (tVar i)) (h1 : behindInMarks .NotIn (.Name x px) = false) : EJ X E (.Compare a [.NotIn] [.Name x px] pos) (dTIn true i fa) := by
  obtain ⟨t, q, p⟩ := ha
  exact ⟨_, pe_cmp (pc_tnotin hu q hx) h1, fun σ G H ρ Q R h => tin_read p R h⟩
theorem t_tin (i : Nat) (hu : X.A.units + 1 < cLine) (ha : EJ X E a fa) (hx : PE X (.Name x px) (tVar i)) (h1 : behindInMarks .In (.Name x px) = false) : TJ X E (.Compare a [.In] [.Name x px] pos) (tOf (dTIn false i fa)) := by
  obtain ⟨t, q, p⟩ := ha
  refine ⟨_, pt_cmp (pc_tin hu q hx) h1, fun σ G H ρ Q R h => tin_read (neg := false) (Q := fun x H1 => ∃ b, x = V.bl b ∧ Q b H1) p R (Post.bind h fun G1 H1 y d ρ1 R1 S1 hy h1 => ?_)⟩
  cases d with
  | bool k => cases hy; exact ⟨k, rfl, Post.done R1 h1 rfl⟩
  | _ => exact h1.elim
theorem t_tnotIn (i : Nat) (hu : X.A.units + 1 < cLine) (ha : EJ X E a fa) (hx : PE X (.Name x px) (tVar i)) (h1 : behindInMarks .NotIn (.Name x px) = false) : TJ X E (.Compare a [.NotIn] [.Name x px] pos) (tOf (dTIn true i fa)) := by
  obtain ⟨t, q, p⟩ := ha
  refine ⟨_, pt_cmp (pc_tnotin hu q hx) h1, fun σ G H ρ Q R h => tin_read (neg := true) (Q := fun x H1 => ∃ b, x = V.bl b ∧ Q b H1) p R (Post.bind h fun G1 H1 y d ρ1 R1 S1 hy h1 => ?_)⟩
  cases d with
  | bool k => cases hy; exact ⟨k, rfl, Post.done R1 h1 rfl⟩
  | _ => exact h1.elim
theorem e_tget1 {apos : Pos} (i : Nat) (hu : X.A.units + 1 < cLine) (hx : PE X (.Name x px) (tVar i)) (ha : EJ X E a fa) (m : M1 X (.Name x px) "get" apos a pos) : EJ X E (.Call (.Attribute (.Name x px) "get" apos) [a] [] pos) (dTGet1 i fa) := by
  obtain ⟨t, q, p⟩ := ha
  refine ⟨_, pe_tget1 hu hx q m, fun σ G H ρ Q R h => ?_⟩
  unfold dTGet1 at h
  by_cases hc : dTGet1.isDt (hobj i ρ) = true
  case neg => rw [if_neg hc] at h; exact h.elim
  rw [if_pos hc] at h
  cases q9 : hobj i ρ with
  | none => rw [q9] at hc; cases hc
  | some o9 =>
    obtain ⟨b, e0, _, o0, _⟩ := R.hobjAny q9
    have i9 : IsD H b := by
      cases o9 with
      | dt kvs => obtain ⟨vs, u1, _⟩ := o0; exact .inr ⟨vs, .inl u1⟩
      | _ => rw [q9] at hc; cases hc
    refine ⟨.ref b, e0, b, rfl, i9, p σ G H ρ _ R (Post.bind h fun G1 H1 y d ρ1 R1 S1 hy h1 => ?_)⟩
    cases q0 : hobj i ρ1 with
    | none => rw [q0] at h1; exact h1.elim
    | some o =>
      rw [q0] at h1
      obtain ⟨b1, f0, g1, o1, _⟩ := R1.hobjAny q0
      rw [e0] at f0
      cases f0
      cases o with
      | dt kvs =>
        obtain ⟨vs, u1, u2⟩ := o1
        cases q1 : keyTD d with
        | none => simp only [q1] at h1; exact h1.elim
        | some k =>
          simp only [q1] at h1
          obtain ⟨c1, rfl, kt⟩ := keyTD_rp hy q1
          exact ⟨c1, vs, k, rfl, u1, Same.seqT R1.gh kt, Post.done R1 h1 (val_none u2)⟩
      | _ => exact h1.elim
end
/-! ### tuples that an expression makes -/
def NsR (K : PySem.W.Frag) (G : Hp) (v : V) (d : PyData) : Prop := ∃ b vs ds, v = .ref b ∧ G b = some (.tup vs) ∧ d = .tuple ds ∧ RpAll K G vs ds
theorem NsR.rp {K : PySem.W.Frag} {G : Hp} {v : V} {d : PyData} (h : NsR K G v d) : Rp K G v d := by
  obtain ⟨b, vs, ds, rfl, g, rfl, r⟩ := h
  exact .tup (SqT.of g) r
structure NJ (X : Cx) (E : WX) (e : Expr) (f : DEnv → Res PyData) : Prop where
  ex : ∃ t : TE, PE X e t ∧ ∀ (σ : St) (G H : Hp) (ρ : DEnv) (Q : VK), Rel X.K G σ H ρ → Post X.K X.mg E (NsR X.K) σ G H ρ Q (f ρ) → t σ H Q
def dSlN (f : DEnv → Res PyData) (l u : DEnv → Res (Option Int)) : DEnv → Res PyData := fun ρ => (f ρ).bind fun d ρ1 => (l ρ1).bind fun lo ρ2 => (u ρ2).bind fun hi ρ3 => match d with
  | .tuple ds => if HT.sIx ds.length 0 lo = 0 ∧ HT.sIx ds.length ds.length hi = ds.length then .bad else .ok (.tuple (cutD ds lo hi)) ρ3
  | _ => .bad
theorem Post.newN {K : PySem.W.Frag} {mg : Str → Option Value} {E : WX} {σ : St} {G H : Hp} {ρ : DEnv} {Q : VK} {d : PyData} {p : Addr} {vs : List V} {ds : List PyData} (R : Rel K G σ H ρ) (h : Post K mg E (NsR K) σ G H ρ Q (.ok d ρ)) (hp : H p = none) (e : d = .tuple ds) (r : RpAll K G vs ds) : Q (.ref p) (upd H p (.tup vs)) := by
  have r' := RpAll.mono (same_upd (o := .tup vs) (R.noneG hp)) r
  exact h _ _ _ (R.alloc hp (.tup vs)) (Stp.alloc hp (R.noneG hp) (.tup vs)) ⟨p, vs, ds, rfl, upd_same, e, r'⟩
section
variable {X : Cx} {E : WX} {a : Expr} {fa : DEnv → Res PyData} {lo hi : Option Expr} {fl fu : DEnv → Res (Option Int)} {pos p2 : Pos} {es : List Expr} {fs : DEnv → Res (List PyData)}
theorem n_sl (ha : EJ X E a fa) (hl : OJ X E lo fl) (hu : OJ X E hi fu) : NJ X E (.Subscript a (.Slice lo hi none p2) pos) (dSlN fa fl fu) := by
  obtain ⟨ta, qa, pa⟩ := ha
  obtain ⟨tl, ql, pl⟩ := hl
  obtain ⟨tu, qu, pu⟩ := hu
  refine ⟨_, pe_slice sl_tupA qa ql qu, fun σ G H ρ Q R h => pa σ G H ρ _ R (Post.bind h fun G1 H1 x d ρ1 R1 S1 hx h1 => pl σ G1 H1 ρ1 _ R1 (Post.bind h1 fun G2 H2 l l' ρ2 R2 S2 e2 h2 => pu σ G2 H2 ρ2 _ R2 (Post.bind h2 fun G3 H3 u u' ρ3 R3 S3 e3 h3 => ?_)))⟩
  subst e2 e3
  have hx3 := Rp.mono S3.same (Rp.mono S2.same hx)
  cases hx3 with
  | @tup b vs ds h4 h5 =>
    have hn := RpAll.len h5
    have h3 : Post X.K X.mg E (NsR X.K) σ G3 H3 ρ3 Q (if HT.sIx ds.length 0 l = 0 ∧ HT.sIx ds.length ds.length u = ds.length then .bad else .ok (.tuple (cutD ds l u)) ρ3) := h3
    by_cases hw : HT.sIx ds.length 0 l = 0 ∧ HT.sIx ds.length ds.length u = ds.length
    · rw [if_pos hw] at h3; exact h3.elim
    · rw [if_neg hw] at h3
      exact ⟨b, vs, rfl, Same.seqT R3.gh h4, fun hw2 => absurd (by rw [hn] at hw2; exact hw2) hw, fun _ p hp => Post.newN R3 h3 hp rfl (cutV_rp h5 l u)⟩
  | _ => exact h3.elim
theorem n_tup {x1} {tp : Pos} (ha : AJ X E es fs) : NJ X E (.Tuple es x1 tp) (dTup fs) := by
  obtain ⟨_, t, q, p⟩ := ha
  refine ⟨_, pe_tup q, fun σ G H ρ Q R h => p σ G H ρ _ R (Post.bind h fun G1 H1 ys ds ρ1 R1 S1 hy h1 => ?_)⟩
  have hl := RpAll.len hy
  unfold oTup at h1
  by_cases hz : ds.length ≤ sizeLine
  case neg => rw [if_neg hz] at h1; exact h1.elim
  rw [if_pos hz] at h1
  exact ⟨by omega, fun r hr => Post.newN R1 h1 hr rfl hy⟩
end
/-! ### d[e] = v, e a tuple that is made -/
def sTPut (i : Nat) (f g : DEnv → Res PyData) : DEnv → Res Out := fun ρ => (f ρ).bind fun d ρ1 => if (ρ1[i]?.getD .un).isOwn = true then (g ρ1).bind fun k ρ2 => match hobj i ρ2, keyTD k with
  | some (.dt kvs), some k => if kvs.length < sizeLine then .ok .nx (setHeld i (.dt (putD kvs k d)) ρ2) else .bad
  | _, _ => .bad else .bad
section
variable {X : Cx} {E : WX} {a b : Expr} {fa fb : DEnv → Res PyData} {pos p px sp : Pos} {x : Str}
theorem s_tput (i : Nat) (hu : X.A.units + 1 < cLine) (hx : PE X (.Name x px) (tVar i)) (ha : EJ X E a fa) (hb : NJ X E b fb) (hs : swapsWith a (some (.Subscript (.Name x px) b sp)) pos.line X.env = pure false := by rfl) : SJ X E (.Assign [.Subscript (.Name x px) b sp] a pos) (sTPut i fa fb) := by
  obtain ⟨t, q, p⟩ := ha
  obtain ⟨tb, qb, pb⟩ := hb
  refine ⟨_, ps_dput hu hx qb q hs, fun σ G H ρ D R h => p σ G H ρ _ R (SPost.bind h fun G1 H1 y d ρ1 R1 S1 hy h1 => ?_)⟩
  by_cases hc : (ρ1[i]?.getD .un).isOwn = true
  case neg => rw [if_neg hc] at h1; exact h1.elim
  rw [if_pos hc] at h1
  obtain ⟨b, e0⟩ := R1.heldV hc
  refine ⟨.ref b, e0, pb σ G1 H1 ρ1 _ R1 (SPost.bind h1 fun G2 H2 z k ρ2 R2 S2 hz h2 => ?_)⟩
  obtain ⟨c, zs, ds, rfl, gc, rfl, rz⟩ := hz
  cases q0 : hobj i ρ2 with
  | none => rw [q0] at h2; exact h2.elim
  | some o =>
    rw [q0] at h2
    obtain ⟨b1, f0, g1, o1, f3⟩ := R2.hobjAny q0
    rw [e0] at f0
    cases f0
    cases o with
    | dt kvs =>
      obtain ⟨vs, u1, u2⟩ := o1
      cases q1 : keysD ds with
      | none => simp only [keyTD, q1] at h2; exact h2.elim
      | some kk =>
        simp only [keyTD, q1] at h2
        by_cases hz2 : kvs.length < sizeLine
        case neg => rw [if_neg hz2] at h2; exact h2.elim
        rw [if_pos hz2] at h2
        have hl := kv_len u2
        obtain ⟨R3, S3⟩ := f3 (.dt (putD kvs kk d)) (.dT (putK vs kk y)) ⟨_, upd_same, kv_put (Rp.mono S2.same hy) u2⟩
        exact ⟨b, _, rfl, .inr ⟨vs, kk, c, u1, rfl, by rw [← keysD_kV rz q1]; exact R2.gh _ _ gc, by omega, rfl⟩, h2 _ _ _ R3 S3⟩
    | _ => exact h2.elim
end
/-! ### forward -/
section
variable {Z : Exn → DEnv → Prop} {ρ : DEnv} {Q : PyData → DEnv → Prop} {S : Out → DEnv → Prop} {O : OD → DEnv → Prop}
theorem keyTD_tup (ds : List PyData) : keyTD (.tuple ds) = keysD ds := rfl
theorem wp_tget (i : Nat) (f : DEnv → Res PyData) : WpX Z (dTGet i f ρ) Q = ((ρ[i]?.getD .un).isOwn = true ∧ WpX Z (f ρ) fun d ρ1 => dtQ (fun kvs => WpX Z (Res.of ((keyTD d).bind fun k => valD kvs k) ρ1) Q) (hobj i ρ1)) := by
  unfold dTGet; rw [wp_guard, wp_bind]; congr 1; congr 1; funext d ρ1
  cases hobj i ρ1 with
  | none => exact wp_bad _
  | some o => cases o <;> first | rfl | exact wp_bad _
theorem wp_tin (neg : Bool) (i : Nat) (f : DEnv → Res PyData) : WpX Z (dTIn neg i f ρ) Q = WpX Z (f ρ) fun d ρ1 => dtQ (fun kvs => keyQ (fun k => Q (.bool (if neg then !(valD kvs k).isSome else (valD kvs k).isSome)) ρ1) (keyTD d)) (hobj i ρ1) := by
  unfold dTIn; rw [wp_bind]; congr 1; funext d ρ1
  cases hobj i ρ1 with
  | none => exact wp_bad _
  | some o =>
    cases o with
    | dt kvs =>
      show WpX Z (Res.of ((keyTD d).map _) ρ1) Q = keyQ _ (keyTD d)
      cases keyTD d with
      | none => exact wp_bad _
      | some k => exact wp_ok _ _ _
    | _ => exact wp_bad _
theorem wp_tget1 (i : Nat) (f : DEnv → Res PyData) : WpX Z (dTGet1 i f ρ) Q = (dTGet1.isDt (hobj i ρ) = true ∧ WpX Z (f ρ) fun d ρ1 => dtQ (fun kvs => keyQ (fun k => Q ((valD kvs k).getD .none) ρ1) (keyTD d)) (hobj i ρ1)) := by
  unfold dTGet1; rw [wp_guard, wp_bind]; congr 1; congr 1; funext d ρ1
  cases hobj i ρ1 with
  | none => exact wp_bad _
  | some o =>
    cases o with
    | dt kvs =>
      show WpX Z (Res.of ((keyTD d).map _) ρ1) Q = keyQ _ (keyTD d)
      cases keyTD d with
      | none => exact wp_bad _
      | some k => exact wp_ok _ _ _
    | _ => exact wp_bad _
theorem isDt_dt (kvs : List (List Key × PyData)) : dTGet1.isDt (some (.dt kvs)) = true := rfl
theorem ws_tput (i : Nat) (f g : DEnv → Res PyData) : WpX Z (sTPut i f g ρ) S = WpX Z (f ρ) fun d ρ1 => (ρ1[i]?.getD .un).isOwn = true ∧ WpX Z (g ρ1) fun k ρ2 => dtQ (fun kvs => keyQ (fun k => kvs.length < sizeLine ∧ S .nx (setHeld i (.dt (putD kvs k d)) ρ2)) (keyTD k)) (hobj i ρ2) := by
  unfold sTPut; rw [wp_bind]; congr 1; funext d ρ1; rw [wp_guard, wp_bind]; congr 1; congr 1; funext k ρ2
  generalize hobj i ρ2 = o
  generalize keyTD k = kk
  cases o with
  | none => cases kk <;> exact wp_bad _
  | some o =>
    cases o with
    | dt kvs =>
      cases kk with
      | none => exact wp_bad _
      | some k =>
        show WpX Z (if kvs.length < sizeLine then .ok .nx (setHeld i (.dt (putD kvs k d)) ρ2) else .bad) S = _
        rw [wp_guard, wp_ok]; rfl
    | _ => cases kk <;> exact wp_bad _
def tupQ (K : List PyData → Prop) (d : PyData) : Prop := match d with
  | .tuple ds => K ds
  | _ => False
theorem tupQ_tup (K : List PyData → Prop) (ds : List PyData) : tupQ K (.tuple ds) = K ds := rfl
theorem wp_slN (f : DEnv → Res PyData) (l u : DEnv → Res (Option Int)) : WpX Z (dSlN f l u ρ) Q = WpX Z (f ρ) fun d ρ1 => WpX Z (l ρ1) fun lo ρ2 => WpX Z (u ρ2) fun hi ρ3 => tupQ (fun ds => ¬ (HT.sIx ds.length 0 lo = 0 ∧ HT.sIx ds.length ds.length hi = ds.length) ∧ Q (.tuple (cutD ds lo hi)) ρ3) d := by
  unfold dSlN; rw [wp_bind]; congr 1; funext d ρ1; rw [wp_bind]; congr 1; funext lo ρ2; rw [wp_bind]; congr 1; funext hi ρ3
  cases d with
  | tuple ds =>
    show WpX Z (if _ then Res.bad else _) Q = _
    by_cases h : HT.sIx ds.length 0 lo = 0 ∧ HT.sIx ds.length ds.length hi = ds.length
    · rw [if_pos h, wp_bad]; exact propext ⟨fun z => z.elim, fun z => absurd h z.1⟩
    · rw [if_neg h, wp_ok]; exact propext ⟨fun z => ⟨h, z⟩, fun z => z.2⟩
  | _ => exact wp_bad _
end
end DL

set_option Elab.async false
set_option linter.all false
set_option maxRecDepth 100000
set_option maxHeartbeats 4000000
/-! DL part 37: dict comprehensions whose keys are tuples that the key expression makes. -/
namespace DL
open PySem PySem.Spec PyProof PyProof.Rows L2
section
variable {X : Cx}
/-- a store of the comprehension -/
theorem tt_dictSet {pins : List (Addr × Obj)} {σ : St} {H : Hp} {s : Shared} {E : Value → Shared → Prop} {D b : Addr} {kvs : List (List Key × V)} {k : List Key} {v : V} {r : Value} {Q : Unit → Shared → Prop} (hu : X.A.units < cLine) (I : Inv X pins σ H s) (e : H D = some (.dT kvs)) (hz : kvs.length < sizeLine)
    (eb : H b = some (.tup (k.map kV))) (rv : RelV v r) (h : ∀ s', Inv X pins σ (upd H D (.dT (putK kvs k v))) s' → Q () s') : wpAny (model X.prog X.w) X.A (dictSet D (.ref b) r) Q E s := by
  obtain ⟨z, hd, xs, rel, dd⟩ := dt_of I.hok e
  have hl : (putK kvs k v).length ≤ sizeLine := by have := length_putK kvs k v; omega
  refine wpAny_dictSet_heap (knd := tupleKind (mixKind X.prog X.w)) (hsz := by rw [← Paired.length rel]; exact z) hu (key_of I.hok eb) dd fun h' dd' hs => h _ ?_
  obtain ⟨q, es, ep, hq, h2, h3, h4, _, h5⟩ := dd'
  exact d_write I (by rw [e]; exact True.intro) hs ⟨q, hq⟩ ⟨hl, hd, _, (rel.put k eb rv).keeps fun c ys ec => by rw [upd_ne (ne_of ec e fun z => nomatch z)]; exact ec, q, es, ep, hq, h2, h3, h4, h5⟩
/-- {k: v for target in iter if ..}, the keys fresh tuples: D the new dict -/
def tDcT (wi : TI) (g : TG) (tt : TT) (tk tv : TE) (vs : List Nat) : TE := fun σ H Q => wi σ H fun J Ha => ∀ D, Ha D = none → ∃ W : Nat → Nat → Hp → Prop, (∃ m, W 0 m (upd Ha D (.dT []))) ∧ ∀ i m Hb, W i m Hb →
  (J.stop i Hb ∧ Q (.ref D) Hb) ∨ (J.go i Hb ∧ ∃ N : Hp → Prop, (∀ Hc, N Hc → ∃ m', m' < m ∧ W (i + 1) m' Hc) ∧ ∀ x Hc, J.yld i Hb x Hc → g x (wipe σ vs) Hc fun σ2 Hd => wipe σ2 vs = wipe σ vs ∧ tt σ2 Hd fun b He =>
    if b = true then tk σ2 He fun y Hf => tv σ2 Hf fun z Hg => ∃ (kvs : List (List Key × V)) (k : List Key) (c : Addr), y = .ref c ∧ Hg c = some (.tup (k.map kV)) ∧ Hg D = some (.dT kvs) ∧ kvs.length < sizeLine ∧ N (upd Hg D (.dT (putK kvs k z))) else N He)
theorem pe_dcT {kx vx tg iter : Expr} {ifs : List Expr} {scope : Scope} {own : List (Str × Nat)} {pos : Pos} {wi : TI} {g : TG} {tt : TT} {tk tv : TE} (hu : X.A.units < cLine) (hc : X.calm = true) (hN : X.N.Nodup) (hi : PI X tg iter wi) (ok : BlkOk X.N X.env.scope scope own)
    (pg : ∀ (s : Shared) (H : Hp) (C : Addr) (cl : List (Str × Addr)) (fp : List Addr), PG (X.blk s H scope (compEnvC scope cl C X.env) fp) tg g) (pt : ∀ (s : Shared) (H : Hp) (C : Addr) (cl : List (Str × Addr)) (fp : List Addr), PTs (X.blk s H scope (compEnvC scope cl C X.env) fp) ifs tt)
    (pk : ∀ (s : Shared) (H : Hp) (C : Addr) (cl : List (Str × Addr)) (fp : List Addr), PE (X.blk s H scope (compEnvC scope cl C X.env) fp) kx tk) (pv : ∀ (s : Shared) (H : Hp) (C : Addr) (cl : List (Str × Addr)) (fp : List Addr), PE (X.blk s H scope (compEnvC scope cl C X.env) fp) vx tv) (hs : ∀ x, foldedSetIterable iter X.env x = pure x := by intro _; rfl) :
    PE X (.DictComp kx vx [⟨tg, iter, ifs, 0⟩] scope pos) (tDcT wi g tt tk tv (own.map (·.2))) := by
  refine ⟨fun pins s σ H Q I h => ?_⟩
  rw [arm_eval_DictComp]
  have free : ∀ y ∈ scope.names, y.2 = .free → ∃ c, X.env.cells.lookup y.1 = some c := fun y hy e => (ok.free y hy e).elim (fun q => I.ok.has _ (.inl q)) fun q => I.ok.has _ (.inr q)
  refine wpAny_comprehension_free rfl hs (closure_ok free) ok.kind (fun y hy e => by rw [ok.uniq y hy, e]) (thn (hi.run pins s σ H _ I h) fun xv s1 hx => thn hx fun itv s2 ⟨it, fp, tn, J, Ha, e, Ia, T, sta, fa, q⟩ => ?_)
  subst e
  refine wpAny_newObj_type (newEnv_comp ?_)
  generalize hD : s2.heap.objs.size = D
  obtain ⟨W, ⟨m0, w0⟩, turn⟩ := q D (Ia.hok.fresh (Nat.le_of_eq hD))
  generalize hsb : ({ s2 with heap := s2.heap.push { cls := .type "dict", data := .dict #[] } } : Shared) = sb
  have Ib : Inv X pins σ (upd Ha D (.dT [])) sb := by
    subst hsb hD
    exact Ia.laid (t' := s2.toks) (fun b o e => Heap.get?_push_of_some _ e) (Nat.le_refl _) (dt_empty s2.heap Ia.big)
  have hb : sb.heap = s2.heap.push { cls := .type "dict", data := .dict #[] } := by rw [← hsb]
  have fb : ∀ b ∈ fp, FpOk X pins (upd Ha D (.dT [])) b ∧ b < sb.heap.objs.size := fun b hm => by
    obtain ⟨o, e, _⟩ := T.obj _ _ sta b hm
    have lt := Heap.lt_size e
    exact ⟨⟨by rw [upd_ne (by rw [← hD]; exact Nat.ne_of_lt lt)]; exact (fa b hm).1, (fa b hm).2⟩, by rw [hb, Heap.size_push]; exact Nat.lt_succ_of_lt lt⟩
  have stb : tn 0 sb.heap := T.keep _ _ _ sta fun b _ o e => by rw [hb]; exact Heap.get?_push_of_some _ e
  have Ic := block_start Ib ok hN fb
  have pg := pg sb (upd Ha D (.dT [])) sb.heap.objs.size (cellsFrom (sb.heap.objs.size + 1) scope.names (cloFrom X.env.cells scope.names [])) fp
  have pt := pt sb (upd Ha D (.dT [])) sb.heap.objs.size (cellsFrom (sb.heap.objs.size + 1) scope.names (cloFrom X.env.cells scope.names [])) fp
  have pk := pk sb (upd Ha D (.dT [])) sb.heap.objs.size (cellsFrom (sb.heap.objs.size + 1) scope.names (cloFrom X.env.cells scope.names [])) fp
  have pv := pv sb (upd Ha D (.dT [])) sb.heap.objs.size (cellsFrom (sb.heap.objs.size + 1) scope.names (cloFrom X.env.cells scope.names [])) fp
  show codeAny _ _ (.compStart (.DictComp kx vx [⟨tg, iter, ifs, 0⟩] scope pos) 0 (.ref it) (.ref D) (compEnvC scope (cellsFrom (sb.heap.objs.size + 1) scope.names (cloFrom X.env.cells scope.names [])) sb.heap.objs.size X.env)) (compPost (model X.prog X.w) X.A X.xe none _ (.ref D) sb.heap.objs.size) { sb with heap := pushCells (sb.heap.push { cls := .type "dict", data := .dict #[] }) scope.names }
  have nfp : ∀ b ∈ fp, (upd Ha D (.dT [])) b = none := fun b hm => (fb b hm).1.1
  generalize hce : compEnvC scope (cellsFrom (sb.heap.objs.size + 1) scope.names (cloFrom X.env.cells scope.names [])) sb.heap.objs.size X.env = ce at Ic pg pt pk pv ⊢
  have cL : ce.locals = sb.heap.objs.size := by subst hce; rfl
  generalize hHb : upd Ha D (.dT []) = Hb at Ib Ic pg pt pk pv w0 nfp fb
  generalize hsc : ({ sb with heap := pushCells (sb.heap.push { cls := .type "dict", data := .dict #[] }) scope.names } : Shared) = sc at Ic ⊢
  have stc : tn 0 sc.heap := T.keep _ _ _ stb fun b _ o e => by rw [← hsc]; exact pushCells_keeps _ _ _ _ (Heap.get?_push_of_some _ e)
  have fpok : ∀ {τ : St} {Hx : Hp} {t : Shared}, Inv (X.blk sb Hb scope ce fp) [] τ Hx t → (∀ b ∈ fp, Hx b = none) → ∀ b ∈ fp, FpOk (X.blk sb Hb scope ce fp) [] Hx b := fun {τ Hx t} Ix hn b hm =>
    ⟨hn b hm, (Ix.ok.exf b hm).1, Ix.ok.exfs b hm, .inl hm, fun x c e => (Ix.ok.exf b hm).2 x c e, fun p hp => absurd (show p ∈ ([] : List (Addr × Obj)) ++ [] from hp) (by simp)⟩
  refine codeAny_compStart_dict (?loop) (T.self X.A 0 _ _ _ stc ?loop)
  refine compLoop_anyD (fun n t => ∃ i Hx, Inv (X.blk sb Hb scope ce fp) [] (wipe σ (own.map (·.2))) Hx t ∧ tn i t.heap ∧ (∀ b ∈ fp, Hx b = none) ∧ W i n Hx) ?_ m0 ⟨0, Hb, Ic, stc, nfp, w0⟩
  rintro n t ⟨i, Hx, Ix, stx, nx, wx⟩
  rcases turn i n Hx wx with ⟨stop, fin⟩ | ⟨go, N, hNx, step⟩
  · refine thnF (T.done (X.blk sb Hb scope ce fp) rfl rfl rfl hc i [] t _ Hx (fun _ _ => False) Ix (fpok Ix nx) stx stop) fun r t2 ⟨hr, I2⟩ => ?_
    subst hr
    have I3 : Inv X pins σ Hx t2 := Ib.call' (ch := fp) I2.os I2.base I2.hok I2.bare fun b hm => ⟨(fb b hm).1.2.2.2.1, (fb b hm).1.2.1, (fb b hm).1.2.2.2.2.1, (fb b hm).1.2.2.2.2.2⟩
    have nC : Hx sb.heap.objs.size = none := by rw [← cL]; exact I2.free
    obtain ⟨m, hn, _⟩ := I2.loc
    have hn : t2.heap.Ns ce.locals m := hn
    rw [cL] at hn
    obtain ⟨c0, c1, c2, c3, c4, c5⟩ := Ib.fpOk (Nat.le_refl _) nC
    exact ⟨m, hn, fun h2 same => ⟨.ref D, Hx, I3.turned (t' := t2.toks) (fun b o hb e => (same.2 b hb).trans e) c0 c1 c3 c4 c5, rfl, fin⟩⟩
  · refine thnF (T.item (X.blk sb Hb scope ce fp) rfl rfl rfl hc i [] t _ Hx (fun _ _ => False) Ix (fpok Ix nx) stx go) fun r t2 ⟨u, hr, h2⟩ => ?_
    subst hr
    refine thnF h2 fun _ t3 ⟨x, H3, I3, r3, y3, st3, n3⟩ => ?_
    refine thnF (pg.run _ t3 _ H3 x u _ (I3.pinned (fpok I3 n3) (T.obj _ _ st3)) r3 (step x H3 y3)) fun _ t4 ⟨τ, H4, I4, hw, q4⟩ => ?_
    refine thnF (pt.run _ t4 τ H4 _ I4 q4) fun b t5 ⟨H5, I5, q5⟩ => ?_
    have back : ∀ {t' : Shared} {H' : Hp}, Inv (X.blk sb Hb scope ce fp) ([] ++ pinsAt fp t3.heap) τ H' t' → N H' → ∃ m, m < n ∧ ∃ i Hx, Inv (X.blk sb Hb scope ce fp) [] (wipe σ (own.map (·.2))) Hx t' ∧ tn i t'.heap ∧ (∀ b ∈ fp, Hx b = none) ∧ W i m Hx := fun {t' H'} I' hN' => by
      obtain ⟨m', hm, w'⟩ := hNx H' hN'
      have pin : ∀ b ∈ fp, ∀ o, t3.heap.get? b = some o → t'.heap.get? b = some o ∧ H' b = none := fun b hb o e => ⟨(I'.pin (b, o) (List.mem_append_right _ (List.mem_append_right _ (mem_pinsAt hb e)))).1, (I'.pin (b, o) (List.mem_append_right _ (List.mem_append_right _ (mem_pinsAt hb e)))).2.1⟩
      refine ⟨m', hm, i + 1, H', (I'.unpinned (pins := [])).weak (by rw [← hw, wipe_length]) (fun j v e => by rw [← hw] at e; exact (wipe_some e).1), T.keep _ _ _ st3 fun b hb o e => (pin b hb o e).1, fun b hb => ?_, w'⟩
      obtain ⟨o, e, _⟩ := T.obj _ _ st3 b hb
      exact (pin b hb o e).2
    cases b with
    | false =>
      simp only [Bool.false_eq_true, if_false] at q5 ⊢
      exact back I5 q5
    | true =>
      simp only [if_true] at q5 ⊢
      refine thnF (pk.run _ t5 τ H5 _ I5 q5) fun z1 t6 ⟨y, H6, I6, r6, q6⟩ => thnF (pv.run _ t6 τ H6 _ I6 q6) fun z2 t7 ⟨z, H7, I7, r7, kvs, k, c, ey, ec, eD, hz, hN7⟩ => ?_
      subst ey
      cases (show z1 = Value.ref c from r6)
      exact tt_dictSet (X := X.blk sb Hb scope ce fp) hu I7 eD hz ec r7 fun t8 I8 => back I8 hN7
end
def tN (K : PySem.W.Frag) (mg : Str → Option Value) (f : DEnv → Res PyData) : TE := fun σ H Q => ∃ G ρ, Rel K G σ H ρ ∧ Post K mg W0 (NsR K) σ G H ρ Q (f ρ)
theorem pn_t {X : Cx} {e : Expr} {fe : DEnv → Res PyData} (h : NJ X W0 e fe) : PE X e (tN X.K X.mg fe) := by
  obtain ⟨t, q, p⟩ := h
  exact ⟨fun pins s σ H Q I ⟨G, ρ, R, h⟩ => q.run pins s σ H Q I (p σ G H ρ Q R h)⟩
def dcLT (vs : List Nat) (gd : PyData → DEnv → Option DEnv) (ft : DEnv → Res Bool) (fk fv : DEnv → Res PyData) : List PyData → List (List Key × PyData) → DEnv → Res (List (List Key × PyData))
  | [], acc, ρ => .ok acc ρ
  | d :: ds, acc, ρ => match gd d ρ with
    | none => .bad
    | some ρ1 => match ft ρ1 with
      | .ok true ρ2 => match fk ρ2 with
        | .ok kd ρ3 => match fv ρ3 with
          | .ok y ρ4 => match keyTD kd with
            | some k => if acc.length < sizeLine then dcLT vs gd ft fk fv ds (putD acc k y) (wipeC ρ4 vs) else .bad
            | none => .bad
          | _ => .bad
        | _ => .bad
      | .ok false ρ2 => dcLT vs gd ft fk fv ds acc (wipeC ρ2 vs)
      | _ => .bad
def fDcT (vs : List Nat) (fi : DEnv → Res (List PyData)) (gd : PyData → DEnv → Option DEnv) (ft : DEnv → Res Bool) (fk fv : DEnv → Res PyData) : DEnv → Res OD := fun ρ => (fi ρ).bind fun ds ρ1 => match dcLT vs gd ft fk fv ds [] (wipeC ρ1 vs) with
  | .ok acc ρ2 => .ok (.dt acc) (unwipe vs ρ1 ρ2)
  | _ => .bad
section
variable {X : Cx} {E : WX} {e tg iter kx vx : Expr} {ifs : List Expr} {scope : Scope} {fk fv : DEnv → Res PyData} {ft : DEnv → Res Bool} {fi : DEnv → Res (List PyData)} {gd : PyData → DEnv → Option DEnv} {pos : Pos} {vs is : List Nat}
theorem dcT_read {K : PySem.W.Frag} {mg : Str → Option Value} {σ : St} {G H : Hp} {ρ : DEnv} {Q : VK} {wi : TI} (his : ∀ j ∈ is, j ∈ vs)
    (pi : ∀ (σ : St) (G H : Hp) (ρ : DEnv) (R : It → Hp → Prop), Rel K G σ H ρ → IPost K mg E σ G H ρ R (fi ρ) → wi σ H R) (R : Rel K G σ H ρ) (h : FPost K mg E σ G H ρ Q (fDcT vs fi gd ft fk fv ρ)) :
    tDcT wi (tG K is gd) (tT K mg ft) (tN K mg fk) (tE K mg fv) vs σ H Q := by
  refine pi σ G H ρ _ R ?_
  unfold fDcT at h
  cases r : fi ρ with
  | bad => rw [r] at h; exact h
  | err x c => rw [r] at h; exact h
  | ok ds ρ1 =>
    rw [r, Res.bind_ok] at h
    generalize hT : dcLT vs gd ft fk fv ds [] (wipeC ρ1 vs) = T at h
    intro G1 H1 J R1 S1 hw D hD
    have hgD : G1 D = none := R1.noneG hD
    have nL1 : ¬ OwnL σ ρ1 D := fun z => by obtain ⟨u, hu⟩ := R1.ownH z; rw [hD] at hu; cases hu
    have nI1 : ¬ OwnI σ ρ1 D := fun z => by obtain ⟨u, hu⟩ := R1.ownHI z; rw [hD] at hu; cases hu
    have Rw := R1.wiped vs
    have nL : ¬ OwnL (wipe σ vs) (wipeC ρ1 vs) D := fun z => nL1 z.unwiped
    have nI : ¬ OwnI (wipe σ vs) (wipeC ρ1 vs) D := fun z => nI1 z.unwiped
    refine ⟨fun i m Hc => ∃ (Gc : Hp) (ρc : DEnv) (acc : List (List Key × PyData)) (accV : List (List Key × V)), Rel K Gc (wipe σ vs) Hc ρc ∧ Stp G1 H1 (wipe σ vs) (wipeC ρ1 vs) Gc (DL.era D Hc) (wipe σ vs) ρc ∧ Gc D = none ∧ Hc D = some (.dT accV) ∧ ¬ OwnL (wipe σ vs) ρc D ∧ ¬ OwnI (wipe σ vs) ρc D ∧ KvAll K Gc accV acc ∧
      m = ds.length - i ∧ i ≤ ds.length ∧ dcLT vs gd ft fk fv (ds.drop i) acc ρc = T, ⟨ds.length, G1, wipeC ρ1 vs, [], [], Rw.beside hgD nL nI _, ?_, hgD, upd_same, nL, nI, .nil, by omega, Nat.zero_le _, by rw [List.drop_zero]; exact hT⟩, ?_⟩
    · rw [era_upd]
      have e0 : DL.era D H1 = H1 := by
        funext b
        by_cases hb : b = D
        · subst hb; rw [era_same, hD]
        · rw [era_ne hb]
      rw [e0]
      exact Stp.refl
    · rintro i m Hc ⟨Gc, ρc, acc, accV, Rc, Sc, gD, hDc, oL, oI, ha, rfl, hle, heq⟩
      obtain ⟨w1, w2⟩ := hw i Gc Hc Sc.same Rc.gh
      by_cases hi : i < ds.length
      · have hd : ds.drop i = ds[i] :: ds.drop (i + 1) := List.drop_eq_getElem_cons hi
        rw [hd] at heq
        obtain ⟨go, yl⟩ := w1 ds[i] (List.getElem?_eq_getElem hi)
        refine .inr ⟨go, fun H' => ∃ (Gc : Hp) (ρc : DEnv) (acc : List (List Key × PyData)) (accV : List (List Key × V)), Rel K Gc (wipe σ vs) H' ρc ∧ Stp G1 H1 (wipe σ vs) (wipeC ρ1 vs) Gc (DL.era D H') (wipe σ vs) ρc ∧ Gc D = none ∧ H' D = some (.dT accV) ∧ ¬ OwnL (wipe σ vs) ρc D ∧ ¬ OwnI (wipe σ vs) ρc D ∧ KvAll K Gc accV acc ∧
          dcLT vs gd ft fk fv (ds.drop (i + 1)) acc ρc = T, fun H' hN => ?_, fun x H' hy => ?_⟩
        · obtain ⟨a1, a2, a3, a4, b1, b2, b3, b4, b5, b6, b7, b8⟩ := hN
          exact ⟨ds.length - (i + 1), by omega, a1, a2, a3, a4, b1, b2, b3, b4, b5, b6, b7, rfl, hi, b8⟩
        · obtain ⟨G2, gr, hx⟩ := yl x H' hy
          obtain ⟨R2, S2⟩ := gr (wipe σ vs) ρc Rc
          refine ⟨G2, ρc, ds[i], R2, hx, ?_⟩
          unfold dcLT at heq
          have dead : T = .bad → False := fun z => by rw [z] at h; exact h
          -- behind a turn
          have after : ∀ {G5 H5 : Hp} {σ5 : St} {ρ5 : DEnv}, Rel K G5 σ5 H5 ρ5 → Stp Gc Hc (wipe σ vs) ρc G5 H5 σ5 ρ5 → wipe σ5 vs = wipe σ vs →
              Rel K G5 (wipe σ vs) H5 (wipeC ρ5 vs) ∧ Stp G1 H1 (wipe σ vs) (wipeC ρ1 vs) G5 (DL.era D H5) (wipe σ vs) (wipeC ρ5 vs) ∧ G5 D = none ∧ H5 D = some (.dT accV) ∧ ¬ OwnL (wipe σ vs) (wipeC ρ5 vs) D ∧ ¬ OwnI (wipe σ vs) (wipeC ρ5 vs) D := fun {G5 H5 σ5 ρ5} R5 S5 hσ => by
            obtain ⟨t1, t2, t3, t4⟩ := S5.track gD hDc oL oI
            have Rn := R5.wiped vs
            rw [hσ] at Rn
            refine ⟨Rn, ?_, t1, t2, fun z => t3 (OwnL.unwiped (vs := vs) (by rw [hσ]; exact z)), fun z => t4 (OwnI.unwiped (vs := vs) (by rw [hσ]; exact z))⟩
            refine Stp.wiped (Sc.trans (S5.era D)) hσ fun j hj o z => ?_
            rcases wipeC_get z with ⟨_, y⟩ | ⟨y, _⟩
            · cases y
            · exact y hj
          cases q : gd ds[i] ρc with
          | none => rw [q] at heq; exact (dead heq.symm).elim
          | some ρ3 =>
            rw [q] at heq
            intro G3 H3 σ3 R3 S3 O3
            have hσ3 : wipe σ3 vs = wipe σ vs := by
              rw [wipe_eq (σ := wipe σ vs) S3.len fun j hj => O3 j fun z => hj (his j z)]
              exact wipe_eq (wipe_length σ vs) fun j hj => wipe_out hj
            refine ⟨hσ3, G3, ρ3, R3, ?_⟩
            cases q4 : ft ρ3 with
            | bad => simp only [q4] at heq; exact (dead heq.symm).elim
            | err x c => simp only [q4] at heq; exact (dead heq.symm).elim
            | ok b ρ4 =>
              intro G4 H4 b' R4 S4 hb
              subst hb
              cases b' with
              | false =>
                simp only [q4] at heq
                refine iteF ?_
                obtain ⟨u1, u2, u3, u4, u5, u6⟩ := after R4 ((S2.trans S3).trans S4) hσ3
                exact ⟨G4, _, acc, accV, u1, u2, u3, u4, u5, u6, KvAll.mono (((S2.trans S3).trans S4).same) ha, heq⟩
              | true =>
                refine iteT ⟨G4, ρ4, R4, ?_⟩
                cases q5 : fk ρ4 with
                | bad => simp only [q4, q5] at heq; exact (dead heq.symm).elim
                | err x c => simp only [q4, q5] at heq; exact (dead heq.symm).elim
                | ok kd ρ5 =>
                  simp only [q4, q5] at heq
                  intro G5 H5 v R5 S5 hv
                  refine ⟨G5, ρ5, R5, ?_⟩
                  cases q6 : fv ρ5 with
                  | bad => simp only [q6] at heq; exact (dead heq.symm).elim
                  | err x c => simp only [q6] at heq; exact (dead heq.symm).elim
                  | ok y ρ6 =>
                    simp only [q6] at heq
                    intro G6 H6 z R6 S6 hz6
                    cases q7 : keyTD kd with
                    | none => simp only [q7] at heq; exact (dead heq.symm).elim
                    | some key =>
                      simp only [q7] at heq
                      by_cases hz : acc.length < sizeLine
                      case neg => rw [if_neg hz] at heq; exact (dead heq.symm).elim
                      rw [if_pos hz] at heq
                      obtain ⟨u1, u2, u3, u4, u5, u6⟩ := after R6 ((((S2.trans S3).trans S4).trans S5).trans S6) hσ3
                      have hl := kv_len ha
                      obtain ⟨cb, zs, es, rfl, gc, rfl, rz⟩ := hv
                      exact ⟨accV, key, cb, rfl, by rw [← keysD_kV rz q7]; exact R6.gh _ _ (S6.same _ _ gc), u4, by omega, G6, _, putD acc key y, putK accV key z, u1.beside u3 u5 u6 _, by rw [era_upd]; exact u2, u3, upd_same, u5, u6, kv_put hz6 (KvAll.mono (((((S2.trans S3).trans S4).trans S5).trans S6).same) ha), heq⟩
      · have e : ds.drop i = [] := List.drop_eq_nil_of_le (by omega)
        rw [e] at heq
        have heq : (Res.ok acc ρc : Res (List (List Key × PyData))) = T := heq
        rw [← heq] at h
        obtain ⟨Rn, Sn⟩ := unwiped_ok R1 (Rc.era D gD oL oI) Sc
        have nn : ∀ b, (OwnL σ (unwipe vs ρ1 ρc) b ∨ OwnI σ (unwipe vs ρ1 ρc) b) → b ≠ D := fun b hb z => by
          subst z
          rcases hb with hb | hb
          · obtain ⟨u, hu⟩ := Rn.ownH hb; rw [era_same] at hu; cases hu
          · obtain ⟨u, hu⟩ := Rn.ownHI hb; rw [era_same] at hu; cases hu
        exact .inl ⟨w2 (by omega), h Gc Hc D Rn.unera (S1.trans Sn.unera) gD ⟨accV, hDc, ha⟩ (S1.keep D hD) (fun z => nn D (.inl z) rfl) fun z => nn D (.inr z) rfl⟩
/-- {k: v for tg in iter if ..} -/
theorem f_dcT (hp : ∀ wi, PI X tg iter wi → PE X (.DictComp kx vx [⟨tg, iter, ifs, 0⟩] scope pos) (tDcT wi (tG X.K is gd) (tT X.K X.mg ft) (tN X.K X.mg fk) (tE X.K X.mg fv) vs)) (his : ∀ j ∈ is, j ∈ vs) (hi : IJ X E tg iter fi) :
    FJ X E (.DictComp kx vx [⟨tg, iter, ifs, 0⟩] scope pos) (fDcT vs fi gd ft fk fv) := by
  obtain ⟨wi, qi, pi⟩ := hi
  exact ⟨_, hp wi qi, fun σ G H ρ Q R h => dcT_read his pi R h⟩
end
section
variable {Z : Exn → DEnv → Prop} {ρ : DEnv} {O : OD → DEnv → Prop}
theorem wp_dcT (vs : List Nat) (fi : DEnv → Res (List PyData)) (gd : PyData → DEnv → Option DEnv) (ft : DEnv → Res Bool) (fk fv : DEnv → Res PyData) : WpX Z (fDcT vs fi gd ft fk fv ρ) O = WpX Z (fi ρ) fun ds ρ1 => WpX Zn (dcLT vs gd ft fk fv ds [] (wipeC ρ1 vs)) fun acc ρ2 => O (.dt acc) (unwipe vs ρ1 ρ2) := by
  unfold fDcT
  rw [wp_bind]
  congr 1
  funext ds ρ1
  cases dcLT vs gd ft fk fv ds [] (wipeC ρ1 vs) with
  | ok a ρ2 => rw [wp_ok, wp_ok]
  | err x c => rw [wpq]; rfl
  | bad => rw [wpq]; rfl
end
theorem putD_lenG {κ : Type} [DecidableEq κ] (kvs : List (κ × PyData)) (k : κ) (d : PyData) : (putD kvs k d).length ≤ kvs.length + 1 := by
  unfold putD
  split
  · rw [List.length_map]; omega
  · rw [List.length_append]; exact Nat.le_refl _
theorem mergeDT_snoc {κ : Type} [DecidableEq κ] (ps : List (κ × PyData)) (kv : κ × PyData) (acc : List (κ × PyData)) : mergeD acc (ps ++ [kv]) = putD (mergeD acc ps) kv.1 kv.2 := by
  unfold mergeD
  rw [List.foldl_append]
  rfl
theorem mergeDT_length {κ : Type} [DecidableEq κ] : ∀ (ps acc : List (κ × PyData)), (mergeD acc ps).length ≤ acc.length + ps.length
  | [], acc => Nat.le_refl _
  | p :: ps, acc => by
    have h1 := mergeDT_length ps (putD acc p.1 p.2)
    have h2 := putD_lenG acc p.1 p.2
    show (mergeD (putD acc p.1 p.2) ps).length ≤ acc.length + (ps.length + 1)
    omega
/-- a dict comprehension that leaves the cells as they are: its keys and values, one behind the other -/
theorem wp_dcTMap {vs : List Nat} {gd : PyData → DEnv → Option DEnv} {fk fv : DEnv → Res PyData} {L : List (List Key × PyData) → DEnv → Prop} {ds : List PyData} {ρ : DEnv} (ps : List (List Key × PyData)) (hl : ps.length = ds.length) (hz : ds.length ≤ sizeLine)
    (st : ∀ (i : Nat) (d : PyData) (kv : List Key × PyData), ds[i]? = some d → ps[i]? = some kv → ∃ ρ1, gd d ρ = some ρ1 ∧ WpX Zn (fk ρ1) fun y ρ2 => keyTD y = some kv.1 ∧ WpX Zn (fv ρ2) fun z ρ3 => z = kv.2 ∧ wipeC ρ3 vs = ρ)
    (fin : L (mergeD [] ps) ρ) : WpX Zn (dcLT vs gd tTrue fk fv ds [] ρ) L := by
  have go : ∀ (m n : Nat), n + m = ds.length → WpX Zn (dcLT vs gd tTrue fk fv (ds.drop n) (mergeD [] (ps.take n)) ρ) L := by
    intro m
    induction m with
    | zero =>
      intro n hn
      rw [List.drop_eq_nil_of_le (by omega), List.take_of_length_le (by omega)]
      exact .ok rfl fin
    | succ m ih =>
      intro n hn
      have h1 : n < ds.length := by omega
      have h2 : n < ps.length := by omega
      obtain ⟨ρ1, e1, w⟩ := st n ds[n] ps[n] (List.getElem?_eq_getElem h1) (List.getElem?_eq_getElem h2)
      obtain ⟨y, ρ2, e2, k1, w⟩ := w.get
      obtain ⟨z, ρ3, e3, rfl, k2⟩ := w.get
      have hm := mergeDT_length (ps.take n) []
      rw [List.length_take] at hm
      have e4 : dcLT vs gd tTrue fk fv (ds.drop n) (mergeD [] (ps.take n)) ρ = dcLT vs gd tTrue fk fv (ds.drop (n + 1)) (mergeD [] (ps.take (n + 1))) ρ := by
        rw [List.drop_eq_getElem_cons h1, dcLT, e1]
        show (match fk ρ1 with
          | .ok kd ρ3 => match fv ρ3 with
            | .ok y ρ4 => match keyTD kd with
              | some k => if (mergeD [] (ps.take n)).length < sizeLine then dcLT vs gd tTrue fk fv (ds.drop (n + 1)) (putD (mergeD [] (ps.take n)) k y) (wipeC ρ4 vs) else .bad
              | none => .bad
            | _ => .bad
          | _ => .bad) = _
        rw [e2]
        simp only [e3, k1]
        rw [if_pos (by show (mergeD [] (ps.take n)).length < sizeLine; have : ([] : List (List Key × PyData)).length = 0 := rfl; omega), k2, ← mergeDT_snoc, List.take_add_one, List.getElem?_eq_getElem h2]
        rfl
      rw [e4]
      exact ih (n + 1) (by omega)
  have := go ds.length 0 (Nat.zero_add _)
  exact this
end DL

set_option Elab.async false
set_option linter.all false
set_option maxRecDepth 100000
set_option maxHeartbeats 4000000
/-! DL part 38: sets of tuples of whole numbers and texts: set(), x in s, s.add(x). -/
namespace DL
open PySem PySem.Spec PyProof PyProof.Rows L2
/-- the program and the world that a meaning speaks of, where it makes a set -/
class Wd where
  P : Program
  w : World
def hasK (ks : List (List Key)) (k : List Key) : Bool := ks.any fun j => decide (j = k)
theorem hasK_iff {ks : List (List Key)} {k : List Key} : hasK ks k = true ↔ k ∈ ks := by
  unfold hasK
  rw [List.any_eq_true]
  exact ⟨fun ⟨j, h1, h2⟩ => of_decide_eq_true h2 ▸ h1, fun h => ⟨k, h, decide_eq_true rfl⟩⟩
theorem hasK_not {ks : List (List Key)} {k : List Key} (h : k ∉ ks) : hasK ks k = false := by
  cases e : hasK ks k with
  | false => rfl
  | true => exact absurd (hasK_iff.mp e) h
theorem hasK_perm {ks ls : List (List Key)} (p : ks.Perm ls) (k : List Key) : hasK ks k = hasK ls k := by
  cases e : hasK ls k with
  | true => exact hasK_iff.mpr (p.mem_iff.mpr (hasK_iff.mp e))
  | false => exact hasK_not fun h => by rw [hasK_iff.mpr (p.mem_iff.mp h)] at e; cases e
/-- the tuple at b is the key k -/
abbrev IsKT (P : Program) (w : World) (h : Heap) (k : List Key) (b : Addr) : Prop := IsTupleKey (mixKind P w) h k b
section
variable {P : Program} {w : World} {A : Around} {E : Value → Shared → Prop} {s : Shared} {a : Addr} {L : List (Addr × List Key)} {o : Obj} {es : Array (Int × Value)} {ep : Nat} {t : SetTable}
theorem mix_items {k : List Key} {vs : List Value} (h : ItemsAre (mixKind P w) k vs) : ∀ v ∈ vs, (∃ i t, v = Value.int i t) ∨ ∃ x t, v = Value.str x t := by
  induction h with
  | nil => intro v hv; cases hv
  | @cons k0 u ks us h1 _ ih =>
    intro v hv
    rcases List.mem_cons.mp hv with e | hv
    · subst e
      rcases keyIs_shape h1 with ⟨i, t, _, e⟩ | ⟨x, t, _, e⟩
      · exact .inl ⟨i, t, e⟩
      · exact .inr ⟨x, t, e⟩
    · exact ih v hv
theorem noClass {v : Value} (h : (∃ i t, v = Value.int i t) ∨ ∃ x t, v = Value.str x t) (n : Nat) : ofAClassStatement n v = pure false := by
  rcases h with ⟨i, t, rfl⟩ | ⟨i, t, rfl⟩ <;> cases n <;> rfl
theorem noClassT {k : List Key} {b : Addr} {Q : Bool → Shared → Prop} (hk : IsKT P w s.heap k b) (h : Q false s) : wpAny (model P w) A (ofAClassStatement 8 (.ref b)) Q E s := by
  have ty := hk.typeIs
  obtain ⟨ob, items, n, ho, _, hd, hi⟩ := hk
  unfold ofAClassStatement
  refine wpAny_bind (wpAny_typeOf ty ?_)
  dsimp only
  simp only [show (("tuple" : String) == "tuple") = true by decide, if_true, Bool.not_true, Bool.false_eq_true, if_false]
  try refine wpAny_bind (wpAny_pure ?_)
  try simp only [Bool.not_true, Bool.false_eq_true, if_false]
  show wpAny _ _ (seqItems? (.ref b) >>= _) _ _ s
  refine wpAny_bind (wpAny_seqItems ho hd ?_)
  dsimp only
  refine wpAny_bind (?_ : wpAny _ _ (forIn items _ _) _ _ s)
  rw [← Array.forIn_toList]
  refine wpAny_forIn_list _ (fun rest r t => r.1 = none ∧ t = s ∧ ∀ v ∈ rest, (∃ i t, v = Value.int i t) ∨ ∃ x t, v = Value.str x t) _ (fun v rest r t ⟨hr, e, all⟩ => ?_) (fun r t ⟨hr, e, _⟩ => ?_) _ _ ⟨rfl, rfl, mix_items hi⟩
  · subst e
    rw [noClass (all v List.mem_cons_self)]
    refine wpAny_bind (wpAny_pure ?_)
    simp only [Bool.false_eq_true, if_false]
    exact wpAny_pure ⟨rfl, rfl, fun u hu => all u (List.mem_cons_of_mem _ hu)⟩
  · subst e
    obtain ⟨r1, r2⟩ := r
    simp only at hr
    subst hr
    exact wpAny_pure h
theorem byValT {k : List Key} {b : Addr} {Q : Bool → Shared → Prop} (hk : IsKT P w s.heap k b) (h : ∀ r, Q r s) : wpAny (model P w) A (hashByValue 8 (.ref b)) Q E s := by
  have ty := hk.typeIs
  obtain ⟨ob, items, n, ho, _, hd, hi⟩ := hk
  unfold hashByValue
  refine wpAny_bind (wpAny_specialOf ty F.slot_tuple_hash.lookup ?_)
  show wpAny _ _ (seqItems? (.ref b) >>= _) _ _ s
  refine wpAny_bind (wpAny_seqItems ho hd ?_)
  refine wpAny_bind (?_ : wpAny _ _ (forIn items _ _) _ _ s)
  rw [← Array.forIn_toList]
  refine wpAny_forIn_list _ (fun rest r t => t = s ∧ r.1 = none ∧ ∀ v ∈ rest, (∃ i t, v = Value.int i t) ∨ ∃ x t, v = Value.str x t) _ (fun v rest r t ⟨e, hr, all⟩ => ?_) (fun r t ⟨e, hr, _⟩ => ?_) _ _ ⟨rfl, rfl, mix_items hi⟩
  · subst e
    have rest' := fun u hu => all u (List.mem_cons_of_mem v hu)
    rcases all v List.mem_cons_self with ⟨i, t, rfl⟩ | ⟨i, t, rfl⟩
    · rw [show hashByValue 7 (Value.int i t) = pure true from rfl]
      refine wpAny_bind (wpAny_pure ?_)
      simp only [Bool.not_true, Bool.false_eq_true, if_false]
      exact wpAny_pure ⟨rfl, rfl, rest'⟩
    · rw [show hashByValue 7 (Value.str i t) = pure false from rfl]
      refine wpAny_bind (wpAny_pure ?_)
      simp only [Bool.not_false, if_true]
      exact wpAny_pure (wpAny_pure (h _))
  · subst e
    obtain ⟨r1, r2⟩ := r
    simp only at hr
    subst hr
    exact wpAny_pure (h _)
theorem unseenT {k : List Key} {b : Addr} {Q : Bool → Shared → Prop} (hk : IsKT P w s.heap k b) {ys : List Value} (hy : ∀ y ∈ ys, ∃ k' c, y = Value.ref c ∧ IsKT P w s.heap k' c) (h : Q false s) : wpAny (model P w) A (searchCouldBeSeen (.ref b) ys) Q E s := by
  unfold searchCouldBeSeen
  refine wpAny_bind (wpAny_forIn_list _ (fun rest r t => r.1 = none ∧ t = s ∧ ∀ y ∈ rest, ∃ k' c, y = Value.ref c ∧ IsKT P w s.heap k' c) _ (fun v rest r t ⟨hr, e, all⟩ => ?_) (fun r t ⟨hr, e, _⟩ => ?_) _ _ ⟨rfl, rfl, hy⟩)
  · subst e
    obtain ⟨k', c, rfl, hc⟩ := all v List.mem_cons_self
    have rest' := fun u hu => all u (List.mem_cons_of_mem (Value.ref c) hu)
    dsimp only
    by_cases hv : (b == c || (carriedByValue (.ref b) && carriedByValue (.ref c))) = true
    · exact wp_if_pos hv (wpAny_pure ⟨rfl, rfl, rest'⟩)
    · refine wp_if_neg hv (wpAny_bind (wpAny_eqIsQuiet_tuple hk ?_))
      simp only [Bool.not_true, Bool.false_eq_true, if_false]
      refine wpAny_bind (wpAny_eqIsQuiet_tuple hc ?_)
      simp only [Bool.not_true, Bool.false_eq_true, if_false]
      refine wpAny_bind (noClassT hk ?_)
      simp only [Bool.false_eq_true, if_false]
      refine wpAny_bind (noClassT hc ?_)
      simp only [Bool.false_eq_true, if_false]
      exact wpAny_pure ⟨rfl, rfl, rest'⟩
  · subst e
    obtain ⟨r1, r2⟩ := r
    simp only at hr
    subst hr
    exact wpAny_pure h
/-! ### the search -/
abbrev beg (m : Nat) (h : Int) : SetTable.Probe := runAt m (SetTable.bits h % (m + 1)) (SetTable.bits h)
theorem nth_clear (m : Nat) : ∀ (n : Nat) (p : SetTable.Probe), p.dummy = none → (nth m p n).dummy = none
  | 0, _, h => h
  | n + 1, p, h => nth_clear m n (adv m p) (by unfold adv; split <;> exact h)
theorem SK0.size (R : SK0 P w s.heap a L o es ep t) : es.size = L.length := by
  have h := congrArg List.length R.rows
  rw [Array.length_toList] at h
  rw [h]
  exact List.length_map ..
theorem SK0.psize (R : SK0 P w s.heap a L o es ep t) : t.place.size = L.length := by
  have h := R.tab.sz
  rw [List.length_map] at h
  exact h
theorem fits_of (h1 : t.place.size = es.size) (h2 : t.dummies = #[]) (h3 : es.size ≤ t.mask) : t.fits es.size = true := by
  unfold SetTable.fits SetTable.fill
  rw [h2, Bool.and_eq_true, beq_iff_eq, decide_eq_true_eq]
  show t.place.size = es.size ∧ t.place.size + 0 ≤ t.mask
  omega
theorem SK0.fits (R : SK0 P w s.heap a L o es ep t) : t.fits es.size = true := by
  have h1 := R.size
  have h2 := R.psize
  have h3 := R.room
  exact fits_of (h2.trans h1.symm) R.tab.dm (by omega)
theorem SK0.entry (R : SK0 P w s.heap a L o es ep t) {i : Nat} {p : Addr × List Key} (h : L[i]? = some p) : es[i]? = some (khash P w p.2, Value.ref p.1) := by
  have e : es.toList[i]? = (krows P w L)[i]? := by rw [R.rows]
  rw [Array.getElem?_toList] at e
  rw [e]
  unfold krows
  rw [List.getElem?_map, h]
  rfl
theorem SK0.gw (R : SK0 P w s.heap a L o es ep t) : ¬ t.gaveWay = true := by
  unfold SetTable.gaveWay
  rw [mask_odd R.tab.mok]
  decide
theorem look_from (ad : Bool) (R : SK0 P w s.heap a L o es ep t) (T : ∀ p ∈ L, IsKT P w s.heap p.2 p.1) {x : Addr} {k : List Key} (hx : IsKT P w s.heap k x) (hu : A.units < cLine) {K : Nat} (hKf : K < 10 * SetTable.turns t.mask) (hK : way t.mask (khash P w k) K ∉ t.place.toList) (hKb : ∀ c, c < K → way t.mask (khash P w k) c ∈ t.place.toList) {Q : SetFound → Shared → Prop}
    (yes : ∀ r : Option Nat, (ad = false → r.isSome = true) → k ∈ L.map (·.2) → Q (.there r) s) (no : k ∉ L.map (·.2) → Q (.free (way t.mask (khash P w k) K) false) s) : ∀ (f c : Nat) (stand : Option SetTable.Probe), stand.getD (t.probeStart (khash P w k)) = nth t.mask (beg t.mask (khash P w k)) c → c ≤ K → K - c < f →
      (∀ (i : Nat) p, L[i]? = some p → p.2 = k → ∃ d, c ≤ d ∧ d < K ∧ t.place.toList[i]? = some (way t.mask (khash P w k) d)) → wpAny (model P w) A (setSearchFrom a (.ref x) (khash P w k) ad f stand) Q E s
  | 0, c, stand, _, _, hf, _ => absurd hf (Nat.not_lt_zero _)
  | f + 1, c, stand, hst, hc, hf, ahead => by
    rw [setSearchFrom_succ]
    refine wpAny_bind (wpAny_setState_of R.at_ R.dat R.fits ?_)
    dsimp only
    refine wp_if_neg R.gw ?_
    try refine wpAny_bind (wpAny_pure ?_)
    generalize hH : khash P w k = h0 at *
    have on : ∀ q, nth t.mask (nth t.mask (beg t.mask h0) c) q = nth t.mask (beg t.mask h0) (c + q) := fun q => (nth_add t.mask c _ q).symm
    have onj : ∀ q, (nth t.mask (nth t.mask (beg t.mask h0) c) q).j = way t.mask h0 (c + q) := fun q => congrArg SetTable.Probe.j (on q)
    have kc : c + (K - c) = K := by omega
    have rowAt : ∀ (i : Nat) p, L[i]? = some p → (fun i => (es[i]?.map (·.1)).getD 0) i = khash P w p.2 := fun i p hp => by show (es[i]?.map (·.1)).getD 0 = _; rw [R.entry hp] <;> rfl
    rcases go_spec t R.tab.ris R.tab.dm (fun i => (es[i]?.map (·.1)).getD 0) h0 (10 * SetTable.turns t.mask) (K - c) _ (nth_clear t.mask c (beg t.mask h0) rfl) (by omega) (fun q hq => by rw [onj]; exact hKb (c + q) (by omega)) (by rw [onj, kc]; exact hK) with ⟨q, i, hq, hi, hh, hno, hpr⟩ | ⟨hno, hpr⟩
    · have pr : t.probe (fun i => (es[i]?.map (·.1)).getD 0) h0 (stand.getD (t.probeStart h0)) = some (.candidate (way t.mask h0 (c + q)) i (nth t.mask (beg t.mask h0) (c + (q + 1)))) := by rw [hst, ← onj, ← on]; exact hpr
      rw [pr]
      dsimp only
      rw [onj] at hi
      have hil : i < L.length := by
        have h1 := (List.getElem?_eq_some_iff.mp hi).1
        have h2 := R.psize
        rw [Array.length_toList] at h1
        omega
      obtain ⟨p, hp⟩ : ∃ p, L[i]? = some p := ⟨_, List.getElem?_eq_getElem hil⟩
      have pin := List.mem_of_getElem? hp
      have sl : t.slot (way t.mask h0 (c + q)) = .live i := slot_live R.tab.ris hi
      have rest : wpAny (model P w) A (searchRest a (.ref x) h0 ad f es t (way t.mask h0 (c + q)) i (nth t.mask (beg t.mask h0) (c + (q + 1)))) Q E s := by
        unfold searchRest
        rw [R.entry hp]
        dsimp only
        refine wpAny_bind (wpAny_holding (wpAny_eqBool_tuple hu (T p pin) hx ?_))
        refine wpAny_bind (wpAny_setState_of R.at_ R.dat R.fits ?_)
        dsimp only
        by_cases hA : ad = true ∧ p.2 = k
        · refine wp_if_pos (by simp [hA.1, hA.2]) ?_
          exact wpAny_pure (yes none (fun z => by rw [hA.1] at z; cases z) (List.mem_map.mpr ⟨p, pin, hA.2⟩))
        refine wp_if_neg (by simpa using hA) ?_
        try refine wpAny_bind (wpAny_pure ?_)
        rw [sameMem]
        dsimp only
        simp only [if_true, sl, R.entry hp]
        refine wpAny_bind (wpAny_isSame_ref_self (wpAny_bind (wpAny_pure ?_)))
        simp only [if_true]
        by_cases hkk : p.2 = k
        · refine wp_if_pos (by simp [hkk]) ?_
          exact wpAny_pure (yes (some i) (fun _ => rfl) (List.mem_map.mpr ⟨p, pin, hkk⟩))
        · refine wp_if_neg (by simp [hkk]) ?_
          subst hH
          refine look_from ad R T hx hu hKf hK hKb yes no f (c + (q + 1)) _ rfl (by omega) (by omega) fun i0 p0 h1 hk1 => ?_
          obtain ⟨d, a1, a2, a3⟩ := ahead i0 p0 h1 hk1
          refine ⟨d, ?_, a2, a3⟩
          rcases Nat.lt_trichotomy d (c + q) with z | z | z
          · exact absurd ((rowAt i0 p0 h1).trans (congrArg (khash P w) hk1)) (hno (d - c) i0 (by omega) (by rw [onj, show c + (d - c) = d by omega]; exact a3))
          · rw [z] at a3
            have s0 := slot_live R.tab.ris a3
            rw [sl] at s0
            injection s0 with s0
            rw [← s0, hp] at h1
            exact absurd ((congrArg Prod.snd (Option.some.inj h1)).trans hk1) hkk
          · omega
      by_cases hl : t.led = true
      · refine wp_if_neg (by simp [hl]) ?_
        try refine wpAny_bind (wpAny_pure ?_)
        exact rest
      · refine wp_if_pos (by simp [hl]) ?_
        refine wpAny_bind (unseenT hx (fun y hy => ?_) ?_)
        · obtain ⟨e, he, ee⟩ := List.mem_map.mp hy
          have he2 : e ∈ es.toList := by
            have : e ∈ es ∧ e.1 = h0 := by simpa using he
            simpa using this.1
          rw [R.rows] at he2
          obtain ⟨p2, hp2, e2⟩ := List.mem_map.mp he2
          exact ⟨p2.2, p2.1, by rw [← ee, ← e2], T p2 hp2⟩
        · refine wp_if_neg (by decide) ?_
          try refine wpAny_bind (wpAny_pure ?_)
          exact rest
    · have pr : t.probe (fun i => (es[i]?.map (·.1)).getD 0) h0 (stand.getD (t.probeStart h0)) = some (.empty (way t.mask h0 K) none) := by
        have e2 : way t.mask h0 K = (nth t.mask (nth t.mask (beg t.mask h0) c) (K - c)).j := by rw [onj, kc]
        rw [hst, e2]
        exact hpr
      rw [pr]
      dsimp only
      refine wpAny_pure (no fun hm => ?_)
      obtain ⟨p0, h1, hk1⟩ := List.mem_map.mp hm
      obtain ⟨i0, hi0, e0⟩ := List.getElem_of_mem h1
      have h2 : L[i0]? = some p0 := by rw [List.getElem?_eq_getElem hi0, e0]
      obtain ⟨d, a1, a2, a3⟩ := ahead i0 p0 h2 hk1
      exact hno (d - c) i0 (by omega) (by rw [onj, show c + (d - c) = d by omega]; exact a3) ((rowAt i0 p0 h2).trans ((congrArg (khash P w) hk1).trans hH))
theorem look_at (ad : Bool) (R : SK0 P w s.heap a L o es ep t) (T : ∀ p ∈ L, IsKT P w s.heap p.2 p.1) {x : Addr} {k : List Key} (hx : IsKT P w s.heap k x) (hu : A.units < cLine) {Q : SetFound → Shared → Prop} (yes : ∀ r : Option Nat, (ad = false → r.isSome = true) → k ∈ L.map (·.2) → Q (.there r) s)
    (no : ∀ K, k ∉ L.map (·.2) → way t.mask (khash P w k) K ∉ t.place.toList → (∀ c, c < K → way t.mask (khash P w k) c ∈ t.place.toList) → Q (.free (way t.mask (khash P w k) K) false) s) : wpAny (model P w) A (setSearch a (.ref x) (khash P w k) ad) Q E s := by
  have room := R.room
  obtain ⟨K, hKf, hK, hKb⟩ := R.tab.first (by rw [List.length_map]; omega) (khash P w k)
  have big : K < 100000 := by
    have : 10 * SetTable.turns t.mask ≤ 1420 := by unfold SetTable.turns; rcases R.tab.mok with e | e | e <;> omega
    omega
  unfold setSearch
  refine look_from ad R T hx hu hKf hK hKb yes (fun hm => no K hm hK hKb) 100000 0 none rfl (Nat.zero_le _) (by omega) fun i p hp hk => ?_
  have hl := (List.getElem?_eq_some_iff.mp hp).1
  have sz := R.psize
  have hj := List.getElem?_eq_getElem (l := t.place.toList) (i := i) (by rw [Array.length_toList]; omega)
  obtain ⟨c, hc, e⟩ := R.tab.before (h := khash P w k) hK (i := i) (by rw [List.getElem?_map, hp, ← hk] <;> rfl) hj
  exact ⟨c, Nat.zero_le _, hc, by rw [hj, e]⟩
/-- what x in s asks -/
theorem find_at (R : SK0 P w s.heap a L o es ep t) (T : ∀ p ∈ L, IsKT P w s.heap p.2 p.1) {x : Addr} {k : List Key} (hx : IsKT P w s.heap k x) (hu : A.units < cLine) {Q : Option Nat → Shared → Prop} (q : ∀ r : Option Nat, r.isSome = hasK (L.map (·.2)) k → Q r s) : wpAny (model P w) A (setFind a (.ref x) (khash P w k)) Q E s := by
  unfold setFind
  rw [show (100000 : Nat) = 99999 + 1 from rfl, setFindIn]
  refine wpAny_bind (wpAny_setState_of R.at_ R.dat R.fits ?_)
  dsimp only
  refine wp_if_neg (by simp [byScan, Value.scannable]) ?_
  try refine wpAny_bind (wpAny_pure ?_)
  refine wpAny_bind (look_at false R T hx hu (fun r hr hm => ?_) fun K hm _ _ => ?_)
  · exact wpAny_pure (q r (by rw [hasK_iff.mpr hm]; exact hr rfl))
  · exact wpAny_pure (q none (by rw [hasK_not hm]; rfl))
/-! ### adding -/
theorem krows_len : (krows P w L).length = L.length := List.length_map ..
theorem perm_ins {α : Type} (M : List α) (p : Nat) (x : α) : (M.take p ++ x :: M.drop p).Perm (x :: M) := by
  have h : (M.take p ++ x :: M.drop p).Perm (x :: (M.take p ++ M.drop p)) := List.perm_middle
  rwa [List.take_append_drop] at h
theorem IsKT.past {h h' : Heap} {k : List Key} {b : Addr} (hb : IsKT P w h k b) (ho : h.get? a = some o) (hd : o.data = .set es ep t) (hs : Heap.SameBut a h h') : IsKT P w h' k b := by
  obtain ⟨o', items, n, ho', hc, hd', hi⟩ := hb
  refine ⟨o', items, n, (hs.2 b fun e => ?_).trans ho', hc, hd', hi⟩
  subst e
  rw [ho] at ho'
  cases ho'
  rw [hd] at hd'
  cases hd'
theorem laid_rows (es : Array (Int × Value)) (order : Array Nat) (hr : es.toList = krows P w L) (hp : order.toList.Perm (List.range L.length)) : ∃ M, (order.filterMap (es[·]?)).toList = krows P w M ∧ M.Perm L ∧ (M.map fun p => khash P w p.2) = order.toList.map fun i => (es.map (·.1)).getD i 0 := by
  have sz : es.size = L.length := by
    have h := congrArg List.length hr
    rw [Array.length_toList, krows_len] at h
    exact h
  have ent : ∀ (i : Nat) (p : Addr × List Key), L[i]? = some p → es[i]? = some (khash P w p.2, Value.ref p.1) := fun i p h => by
    have e : es.toList[i]? = (krows P w L)[i]? := by rw [hr]
    rw [Array.getElem?_toList] at e
    rw [e]
    unfold krows
    rw [List.getElem?_map, h]
    rfl
  have go : ∀ l : List Nat, (∀ i ∈ l, i < L.length) → l.filterMap (fun i => es[i]?) = krows P w (l.filterMap fun i => L[i]?) ∧ ((l.filterMap fun i => L[i]?).map fun p => khash P w p.2) = l.map fun i => (es.map (·.1)).getD i 0 := by
    intro l
    induction l with
    | nil => exact fun _ => ⟨rfl, rfl⟩
    | cons i l ih =>
      intro hl
      obtain ⟨e1, e2⟩ := ih fun j hj => hl j (List.mem_cons_of_mem _ hj)
      have hi := hl i List.mem_cons_self
      have hL := List.getElem?_eq_getElem hi
      have hE := ent i _ hL
      have hG : (es.map (·.1)).getD i 0 = khash P w (L[i]).2 := by
        have : (es.map (·.1))[i]? = some (khash P w (L[i]).2) := by rw [Array.getElem?_map, hE]; rfl
        rw [Array.getD_eq_getD_getElem?, this]
        rfl
      rw [List.filterMap_cons_some hE, List.filterMap_cons_some hL, e1, List.map_cons, List.map_cons, e2, hG]
      exact ⟨rfl, rfl⟩
  obtain ⟨e1, e2⟩ := go order.toList fun i hi => List.mem_range.mp (hp.mem_iff.mp hi)
  refine ⟨_, ?_, ?_, e2⟩
  · rw [Array.toList_filterMap]; exact e1
  · have all : ∀ n, n ≤ L.length → (List.range n).filterMap (fun i => L[i]?) = L.take n := by
      intro n
      induction n with
      | zero => exact fun _ => rfl
      | succ n ih =>
        intro hn
        rw [List.range_succ, List.filterMap_append, ih (by omega), List.take_add_one, List.getElem?_eq_getElem (show n < L.length from hn), List.filterMap_cons_some (List.getElem?_eq_getElem (show n < L.length from hn))]
        rfl
    have := hp.filterMap fun i => L[i]?
    rw [all _ (Nat.le_refl _), List.take_length] at this
    exact this
theorem relay_k {h1 : Heap} (ho : s.heap.get? a = some o) (hex : o.ExactSet) (hd : o.data = .set es ep t) (hr : es.toList = krows P w L) (tb : TabOk t (L.map fun p => khash P w p.2)) (hfl : L.length ≤ t.mask) (nd : (L.map (·.2)).Nodup) (ld : w.params.followText "set-order" = true ∨ t.led = true) (few : L.length < 64) {wanted M : Nat}
    (hw : SetTable.sizeAbove wanted - 1 = M) (hM : MaskOk M) (hw2 : SetTable.sizeAbove wanted ≤ 128) (hn : L.length * 5 < M * 3) {Q : Unit → Shared → Prop} (hQ : ∀ h' L' o' es' ep' t', Heap.SameBut a s.heap h' → SK0 P w h' a L' o' es' ep' t' → L'.Perm L → Q () { s with heap := h' }) : wpAny (model P w) A (setRelay a wanted) Q E s := by
  have sz : es.size = L.length := by
    have h := congrArg List.length hr
    rw [Array.length_toList, krows_len] at h
    exact h
  have ps := tb.sz
  rw [List.length_map] at ps
  obtain ⟨t', order, e, hp, T', em, el, _, ed⟩ := relaid_ok t (hs := es.map (·.1)) (wanted := wanted) hw hM (by rw [Array.size_map, sz]; omega)
  rw [Array.size_map, sz] at hp
  obtain ⟨L2, r1, r2, r3⟩ := laid_rows (P := P) (w := w) es order hr hp
  rw [← r3] at T'
  have s2 : (order.filterMap (es[·]?)).size = es.size := by
    have h := congrArg List.length r1
    rw [Array.length_toList, krows_len, r2.length_eq] at h
    rw [h, sz]
  rw [setRelay_eq]
  refine wpAny_bind (wpAny_setState_of ho hd (fits_of (ps.trans sz.symm) tb.dm (by omega)) ?_)
  dsimp only
  refine wp_if_neg (by rw [sizeLine_eq]; omega) ?_
  try refine wpAny_bind (wpAny_pure ?_)
  rw [e]
  dsimp only
  refine wpAny_bind (wp_if_neg (by rw [s2]; simp) ?_)
  try refine wpAny_bind (wpAny_pure ?_)
  refine wpAny_pure ?_
  dsimp only
  refine wpAny_storeSet_of ho hd ?_ (by rw [s2, sz, sizeLine_eq]; omega)
  have ln := r2.length_eq
  exact hQ _ L2 _ _ (ep + 1) t' (Heap.SameBut.update ..) ⟨store_at ho hd, ⟨hex.1, hex.2.1, hex.2.2⟩, rfl, r1, T', (r2.map (·.2)).nodup_iff.mpr nd, by rw [el]; exact ld, by rw [ln, em]; exact hn, by rw [ln]; exact few⟩ r2
theorem insert_k (R : SK0 P w s.heap a L o es ep t) (T : ∀ p ∈ L, IsKT P w s.heap p.2 p.1) {x : Addr} {k : List Key} (hx : IsKT P w s.heap k x) (hu : A.units < cLine) (hfew : L.length + 1 < 64) {Q : Bool → Shared → Prop}
    (hQ : ∀ b h' L' o' es' ep' t', Heap.SameBut a s.heap h' → SK0 P w h' a L' o' es' ep' t' → (k ∈ L.map (·.2) → L' = L) → (k ∉ L.map (·.2) → L'.Perm ((x, k) :: L)) → Q b { s with heap := h' }) : wpAny (model P w) A (setAddHashed a (.ref x) (khash P w k)) Q E s := by
  have sz := R.size
  have room := R.room
  unfold setAddHashed
  refine wpAny_holding ?_
  rw [show (100000 : Nat) = 99999 + 1 from rfl, setAddHashedIn_succ]
  refine wpAny_bind (wpAny_setState_of R.at_ R.dat R.fits ?_)
  dsimp only
  refine wp_if_neg (by simp [byScan, Value.scannable]) ?_
  try refine wpAny_bind (wpAny_pure ?_)
  refine wpAny_bind (look_at true R T hx hu (fun r _ hm => ?_) fun K hm hK hb => ?_)
  · dsimp only
    exact wpAny_pure (hQ false s.heap L o es ep t (Heap.SameBut.refl a s.heap) R (fun _ => rfl) fun z => absurd hm z)
  · dsimp only
    refine wpAny_bind (wpAny_setState_of R.at_ R.dat R.fits ?_)
    dsimp only
    obtain ⟨q1, q2, q3, q4, q5, _, _, _, q9⟩ := R.tab.put hK hb
    generalize hpt : t.put (way t.mask (khash P w k) K) = pt at q1 q3 q4 q5 q9 ⊢
    obtain ⟨t1, p⟩ := pt
    dsimp only at q1 q3 q4 q5 q9 ⊢
    subst q1
    -- behind the question whether the hash is by value
    have go : ∀ t2 : SetTable, t2.place = t1.place → t2.dummies = t1.dummies → t2.mask = t1.mask → t2.led = t1.led → wpAny (model P w) A (do
        storeSet a (SetTable.insertAt es (SetTable.below t.place (way t.mask (khash P w k) K)) (khash P w k, .ref x)) t2
        if !false && t2.tooFull then setRelay a (SetTable.grown (es.size + 1))
        return true) Q E s := fun t2 c1 c2 c3 c4 => by
      have q3 : TabOk t2 ((L.map fun p => khash P w p.2).take (SetTable.below t.place (way t.mask (khash P w k) K)) ++ khash P w k :: (L.map fun p => khash P w p.2).drop (SetTable.below t.place (way t.mask (khash P w k) K))) := by
        obtain ⟨d1, d2, d3, d4, d5, d6⟩ := q3
        exact ⟨by rw [c1]; exact d1, by rw [c2]; exact d2, by rw [c1]; exact d3, by rw [c3]; exact d4, by rw [c1, c3]; exact d5, by rw [c1, c3]; exact d6⟩
      have q4 := c3.trans q4
      have q5 := c4.trans q5
      have q9 : t2.fill = (L.map fun p => khash P w p.2).length + 1 := by rw [← q9]; unfold SetTable.fill; rw [c1, c2]
      generalize hpp : SetTable.below t.place (way t.mask (khash P w k) K) = p at q2 q3 ⊢
      have hin : (SetTable.insertAt es p (khash P w k, Value.ref x)).toList = krows P w (L.take p ++ (x, k) :: L.drop p) := by
        rw [SetTable.toList_insertAt, R.rows]
        unfold krows
        rw [List.map_append, List.map_cons, List.map_take, List.map_drop]
      have pm := perm_ins L p (x, k)
      have ln : (L.take p ++ (x, k) :: L.drop p).length = L.length + 1 := pm.length_eq
      have q3 : TabOk t2 ((L.take p ++ (x, k) :: L.drop p).map fun p => khash P w p.2) := by
        rw [List.map_append, List.map_cons, List.map_take, List.map_drop]
        exact q3
      have nd1 : ((L.take p ++ (x, k) :: L.drop p).map (·.2)).Nodup := (pm.map (·.2)).nodup_iff.mpr (List.nodup_cons.mpr ⟨hm, R.nd⟩)
      have es1s : (SetTable.insertAt es p (khash P w k, Value.ref x)).size = L.length + 1 := by
        have h := congrArg List.length hin
        rw [Array.length_toList, krows_len, ln] at h
        exact h
      generalize SetTable.insertAt es p (khash P w k, Value.ref x) = es1 at hin es1s ⊢
      generalize L.take p ++ (x, k) :: L.drop p = L1 at pm ln q3 nd1 hin
      refine wpAny_bind (wpAny_storeSet_of R.at_ R.dat ?_ (by rw [es1s, sizeLine_eq]; omega))
      have sb : Heap.SameBut a s.heap (s.heap.update a (Obj.putSet es1 t2)) := Heap.SameBut.update ..
      have ho1 := store_at (es' := es1) (t' := t2) R.at_ R.dat
      generalize s.heap.update a (Obj.putSet es1 t2) = h1 at sb ho1 ⊢
      have ld1 : w.params.followText "set-order" = true ∨ t2.led = true := by rw [q5]; exact R.led
      by_cases hf : t2.tooFull = true
      · have full : (L.length + 1) * 5 ≥ t2.mask * 3 := by
          have h := hf
          unfold SetTable.tooFull at h
          rw [decide_eq_true_eq, q9, List.length_map] at h
          exact h
        have two : (t.mask = 7 ∧ L.length = 4) ∨ (t.mask = 31 ∧ L.length = 18) := by
          rw [q4] at full
          rcases R.tab.mok with e | e | e
          · exact .inl ⟨e, by omega⟩
          · exact .inr ⟨e, by omega⟩
          · omega
        have rl : ∀ M, SetTable.sizeAbove (SetTable.grown (L.length + 1)) - 1 = M → MaskOk M → SetTable.sizeAbove (SetTable.grown (L.length + 1)) ≤ 128 → (L.length + 1) * 5 < M * 3 → wpAny (model P w) A (setRelay a (SetTable.grown (L.length + 1))) (fun _ s' => wpAny (model P w) A (pure true) Q E s') E { s with heap := h1 } := fun M m1 m2 m3 m4 =>
          relay_k (h1 := h1) (s := { s with heap := h1 }) ho1 ⟨R.exact_.1, R.exact_.2.1, R.exact_.2.2⟩ rfl hin q3 (by rw [ln, q4]; rcases two with ⟨e, e2⟩ | ⟨e, e2⟩ <;> omega) nd1 ld1 (by rw [ln]; exact hfew) m1 m2 m3 (by rw [ln]; exact m4) fun h2 L2 o2 es2 ep2 t2 sb2 R2 pm2 =>
            wpAny_pure (hQ true h2 L2 o2 es2 ep2 t2 (sb.trans sb2) R2 (fun z => absurd z hm) fun _ => pm2.trans pm)
        rw [sz]
        first
          | (refine wpAny_bind ?_; refine wp_if_pos (by simp [hf]) ?_)
          | (refine wp_if_pos (by simp [hf]) ?_; refine wpAny_bind ?_)
        rcases two with ⟨_, e2⟩ | ⟨_, e2⟩
        · exact rl 31 (by rw [e2, size_20]) (.inr (.inl rfl)) (by rw [e2, size_20]; decide) (by omega)
        · exact rl 127 (by rw [e2, size_76]) (.inr (.inr rfl)) (by rw [e2, size_76]; decide) (by omega)
      · first
          | refine wp_if_neg (by simp [hf]) ?_
          | (refine wpAny_bind ?_; refine wp_if_neg (by simp [hf]) ?_; refine wpAny_pure ?_)
        refine wpAny_pure (hQ true h1 L1 _ es1 (ep + 1) t2 sb ⟨ho1, ⟨R.exact_.1, R.exact_.2.1, R.exact_.2.2⟩, rfl, hin, q3, nd1, ld1, ?_, by rw [ln]; exact hfew⟩ (fun z => absurd z hm) fun _ => pm)
        have h := hf
        unfold SetTable.tooFull at h
        rw [decide_eq_true_eq, q9, List.length_map] at h
        rw [ln]
        omega
    by_cases hp1 : t1.plain = true
    · first
        | (refine wpAny_bind ?_; refine wp_if_pos hp1 ?_; refine byValT hx fun r => ?_)
        | refine wp_if_pos hp1 (wpAny_bind (byValT hx fun r => ?_))
      cases r with
      | true => simp only [if_true]; exact go t1 rfl rfl rfl rfl
      | false => simp only [Bool.false_eq_true, if_false]; exact go _ rfl rfl rfl rfl
    · first
        | (refine wpAny_bind ?_; refine wp_if_neg hp1 ?_; refine wpAny_pure ?_)
        | refine wp_if_neg hp1 (wpAny_bind (wpAny_pure ?_))
      simp only [if_true]
      exact go t1 rfl rfl rfl rfl
end
/-! ### readings -/
theorem sko_new {P : Program} {w : World} {H : Hp} {h : Heap} {a : Addr} {L : List (Addr × List Key)} {o : Obj} {es : Array (Int × Value)} {ep : Nat} {t : SetTable} (R : SK0 P w h a L o es ep t) : ObjOk P w H h a (SKO P w a L) :=
  ⟨⟨o, es, ep, t, R⟩, ⟨o, R.at_⟩, fun h1 h2 ⟨o, es, ep, t, r⟩ k => ⟨o, es, ep, t, ⟨k o r.at_, r.exact_, r.dat, r.rows, r.tab, r.nd, r.led, r.room, r.few⟩⟩⟩
section
variable {X : Cx} {pins : List (Addr × Obj)} {σ : St} {H : Hp} {s : Shared} {a b : Addr} {A : Around} {E : Value → Shared → Prop} {L : List (Addr × List Key)} {k : List Key}
theorem sko_at (I : Inv X pins σ H s) (e : H a = some (SKO X.prog X.w a L)) : ∃ o es ep t, SK0 X.prog X.w s.heap a L o es ep t := (show ObjOk X.prog X.w H s.heap a (SKO X.prog X.w a L) from I.hok a _ e).1
theorem sko_mem (I : Inv X pins σ H s) (T : ∀ x ∈ L, SqT X.K H x.1 (x.2.map kV)) : ∀ p ∈ L, IsKT X.prog X.w s.heap p.2 p.1 := fun p hp => keyT_is I (T p hp)
theorem SK0.ty {P : Program} {w : World} {o : Obj} {es : Array (Int × Value)} {ep : Nat} {t : SetTable} (R : SK0 P w s.heap a L o es ep t) : s.TypeIs (.ref a) "set" := ⟨o, R.at_, R.exact_.1⟩
theorem sk_has {Q : Bool → Shared → Prop} (hu : A.units + 65 < cLine) (I : Inv X pins σ H s) (e : H a = some (SKO X.prog X.w a L)) (T : ∀ x ∈ L, SqT X.K H x.1 (x.2.map kV)) (kt : SqT X.K H b (k.map kV)) (h : ∀ s', Inv X pins σ H s' → Q (hasK (L.map (·.2)) k) s') :
    wpAny (model X.prog X.w) A (contains (.ref a) (.ref b)) Q E s := by
  obtain ⟨o, es, ep, t, R⟩ := sko_at I e
  unfold contains
  try with_reducible refine wpAny_holding ?_
  refine wpAny_bind (wpAny_specialOf R.ty F.slot_set_contains.lookup ?_)
  show wpAny _ _ (if (some (Value.builtin "set.__contains__") == some Value.none) = true then _ else _) _ E s
  rw [if_neg (by rw [beq_builtin_none]; exact Bool.false_ne_true)]
  refine wpAny_bind (wpAny_callSpecialUnlessNone?_slot (name := Str.ofString "__contains__") R.ty F.slot_set_contains (wpAny_call_entry F.slot_set_contains R.ty entry_set_contains ?_ (F.args_set_contains_2 _ _)))
  unfold Builtin.«frozenset.__contains__» Builtin.Frozenset.oneOther
  simp only [List.isEmpty_nil, bind_assoc]
  unfold Builtin.Frozenset.addrOf Builtin.Frozenset.withSetAsKey setContains
  refine wpAny_bind (wpAny_pure ?_)
  try dsimp only
  refine wpAny_bind (wpAny_pure ?_)
  try dsimp only
  refine wpAny_bind (wpAny_tryCatch (wpAny_holding ?_))
  refine wpAny_bind ((tupleKind (mixKind X.prog X.w)).pyHash (k := k) ?_ (keyT_is I kt) ?_)
  · show A.in1.units < cLine
    have : A.in1.units = A.units + 1 := rfl
    omega
  refine wpAny_bind (find_at (k := k) (s := { s with toks := s.toks + (tupleKind (mixKind X.prog X.w)).draws k }) ⟨R.at_, R.exact_, R.dat, R.rows, R.tab, R.nd, R.led, R.room, R.few⟩ (sko_mem (I.tok _) T) (keyT_is (I.tok _) kt) ?_ fun r hr => ?_)
  · have : A.in1.units = A.units + 1 := rfl
    show A.in1.units < cLine
    omega
  refine wpAny_pure ?_
  show wpAny _ _ (ret (Value.bool r.isSome)) _ _ _
  rw [hr]
  exact wpAny_pure ⟨_, rfl, wpAny_truthy_bool (h _ (I.tok _))⟩
/-- s.add(x) -/
theorem sk_add {Q : Value → Shared → Prop} (hu : A.units + 65 < cLine) (I : Inv X pins σ H s) (e : H a = some (SKO X.prog X.w a L)) (T : ∀ x ∈ L, SqT X.K H x.1 (x.2.map kV)) (kt : SqT X.K H b (k.map kV)) (few : L.length + 1 < 64)
    (h : ∀ s' L', (k ∈ L.map (·.2) → L' = L) → (k ∉ L.map (·.2) → L'.Perm ((b, k) :: L)) → Inv X pins σ (upd H a (SKO X.prog X.w a L')) s' → Q .none s') : wpAny (model X.prog X.w) A (call (.builtin "set.add") [.ref a, .ref b]) Q E s := by
  obtain ⟨o, es, ep, t, R⟩ := sko_at I e
  refine wpAny_call_entry F.slot_set_add R.ty F.entry_set_add ?_ (F.args_set_add_2 _ _)
  unfold Builtin.«set.add» Builtin.Frozenset.oneOther
  simp only [List.isEmpty_nil, bind_assoc]
  unfold Builtin.Frozenset.addrOf setAdd
  refine wpAny_bind (wpAny_pure ?_)
  try dsimp only
  refine wpAny_bind (wpAny_pure ?_)
  try dsimp only
  refine wpAny_bind (wpAny_holding ?_)
  refine wpAny_bind ((tupleKind (mixKind X.prog X.w)).pyHash (k := k) ?_ (keyT_is I kt) ?_)
  · show A.in1.units < cLine
    have : A.in1.units = A.units + 1 := rfl
    omega
  refine insert_k (k := k) (s := { s with toks := s.toks + (tupleKind (mixKind X.prog X.w)).draws k }) ⟨R.at_, R.exact_, R.dat, R.rows, R.tab, R.nd, R.led, R.room, R.few⟩ (sko_mem (I.tok _) T) (keyT_is (I.tok _) kt) ?_ few fun r h' L' o' es' ep' t' sb R' y1 y2 => ?_
  · have : A.in1.units = A.units + 1 := rfl
    show A.in1.units < cLine
    omega
  show wpAny _ _ (ret Value.none) _ _ _
  exact wpAny_pure ⟨_, rfl, h _ L' y1 y2 (I.write (e := a) (t' := s.toks + (tupleKind (mixKind X.prog X.w)).draws k) (by rw [e]; exact True.intro) (.inl rfl) (fun c u hc hu => (sb.2 c hc).trans hu) ⟨o', R'.at_⟩ (sko_new R'))⟩
end
def rSetNew (P : Program) (w : World) : List V → Hp → VK → Prop := fun xs H Q => xs = [] ∧ ∀ p, H p = none → Q (.ref p) (upd H p (SKO P w p []))
theorem cr_setNew {X : Cx} : CallR X (.type "set") (rSetNew X.prog X.w) := by
  intro pins s σ H xs us Q I r h
  obtain ⟨rfl, q⟩ := h
  cases r
  refine setR_new fun _ => ?_
  have R : SK0 X.prog X.w (s.heap.push { cls := .type "set", dict := none, data := .set #[] 0 (.fresh 0 0 (!X.w.params.followText "set-order")) }) s.heap.objs.size [] { cls := .type "set", dict := none, data := .set #[] 0 (.fresh 0 0 (!X.w.params.followText "set-order")) } #[] 0 (.fresh 0 0 (!X.w.params.followText "set-order")) := by
    refine ⟨Heap.get?_push_size _ rfl, ⟨rfl, rfl, rfl⟩, rfl, rfl, ⟨List.Pairwise.nil, rfl, rfl, .inl rfl, fun x hx => (by cases hx), fun i h j hi => (by simp at hi)⟩, List.nodup_nil, ?_, by show 0 * 5 < 7 * 3; decide, by show 0 < 64; decide⟩
    show _ ∨ (!X.w.params.followText "set-order") = true
    cases X.w.params.followText "set-order"
    · exact .inr rfl
    · exact .inl rfl
  exact ⟨.ref _, upd H s.heap.objs.size (SKO X.prog X.w s.heap.objs.size []), I.laid (t' := s.toks) (fun b u e => Heap.get?_push_of_some _ e) (Nat.le_refl _) (sko_new R), rfl, q _ (I.hok.fresh (Nat.le_refl _))⟩
def tSkIn (K : PySem.W.Frag) (P : Program) (w : World) (neg : Bool) (ty td : TE) : TE := fun σ H Q => ty σ H fun y H1 => td σ H1 fun x H2 => ∃ (a b : Addr) (L : List (Addr × List Key)) (k : List Key), x = .ref a ∧ y = .ref b ∧ H2 a = some (SKO P w a L) ∧ (∀ z ∈ L, SqT K H2 z.1 (z.2.map kV)) ∧ SqT K H2 b (k.map kV) ∧ Q (.bl (if neg then !hasK (L.map (·.2)) k else hasK (L.map (·.2)) k)) H2
def tSkAdd (K : PySem.W.Frag) (P : Program) (w : World) (td ty : TE) : TE := fun σ H Q => td σ H fun x H1 => ∃ a L0, x = .ref a ∧ H1 a = some (SKO P w a L0) ∧ ty σ H1 fun y H2 => ∃ (b : Addr) (L : List (Addr × List Key)) (k : List Key), y = .ref b ∧ H2 a = some (SKO P w a L) ∧ (∀ z ∈ L, SqT K H2 z.1 (z.2.map kV)) ∧ SqT K H2 b (k.map kV) ∧ L.length + 1 < 64 ∧
  ∀ L', (k ∈ L.map (·.2) → L' = L) → (k ∉ L.map (·.2) → L'.Perm ((b, k) :: L)) → Q .non (upd H2 a (SKO P w a L'))
section
variable {X : Cx} {o i e : Expr} {pos apos cpos : Pos} {td ty : TE}
theorem pc_skin (hu : X.A.units + 65 < cLine) (hi : PE X i ty) (ho : PE X o td) : PC X .In i o (tSkIn X.K X.prog X.w false ty td) := by
  refine ⟨fun pins s σ H Q I h => thn (hi.run pins s σ H _ I h) fun iv s1 ⟨y, H1, I1, ry, q1⟩ => thn (ho.run pins s1 σ H1 _ I1 q1) fun u s2 ⟨x, H2, I2, rx, a, b, L, k, ex, ey, g, T, kt, q2⟩ => ?_⟩
  subst ex ey
  obtain rfl : u = Value.ref a := rx
  obtain rfl : iv = Value.ref b := ry
  show wpAny _ _ (do return Value.bool (← contains (.ref a) (.ref b))) _ _ _
  exact wpAny_bind (sk_has hu I2 g T kt fun s3 I3 => wpAny_pure ⟨.bl _, H2, I3, rfl, q2⟩)
theorem pc_sknotin (hu : X.A.units + 65 < cLine) (hi : PE X i ty) (ho : PE X o td) : PC X .NotIn i o (tSkIn X.K X.prog X.w true ty td) := by
  refine ⟨fun pins s σ H Q I h => thn (hi.run pins s σ H _ I h) fun iv s1 ⟨y, H1, I1, ry, q1⟩ => thn (ho.run pins s1 σ H1 _ I1 q1) fun u s2 ⟨x, H2, I2, rx, a, b, L, k, ex, ey, g, T, kt, q2⟩ => ?_⟩
  subst ex ey
  obtain rfl : u = Value.ref a := rx
  obtain rfl : iv = Value.ref b := ry
  show wpAny _ _ (do return Value.bool (!(← contains (.ref a) (.ref b)))) _ _ _
  exact wpAny_bind (sk_has hu I2 g T kt fun s3 I3 => wpAny_pure ⟨.bl _, H2, I3, rfl, q2⟩)
theorem pe_skadd (hu : X.A.units + 65 < cLine) (ho : PE X o td) (he : PE X e ty) (m : M1 X o "add" apos e cpos) : PE X (.Call (.Attribute o "add" apos) [e] [] cpos) (tSkAdd X.K X.prog X.w td ty) := by
  refine ⟨fun pins s σ H Q I h => ?_⟩
  refine wpAny_Call_method m.base m.few m.line F.plainAttrs_set F.slot_set_add F.type_set_add (thn (ho.run pins s σ H _ I h) fun u s1 ⟨x, H1, I1, rx, a, L0, ex, g0, q1⟩ => ?_)
  subst ex
  obtain rfl : u = Value.ref a := rx
  obtain ⟨o0, _, _, _, R0⟩ := sko_at I1 g0
  refine ⟨R0.ty, fun b e => ⟨o0, by cases e; exact R0.at_, R0.exact_.2.1⟩, ?_⟩
  rw [m.trees]
  refine Calls.callWith_builtin rfl (Calls.evalArgs_plain (Calls.spliced_cons (thn (he.run pins s1 σ H1 _ I1 q1) fun iv s2 ⟨y, H2, I2, ry, b, L, k, ey, g, T, kt, few, q2⟩ => Calls.spliced_nil ?_)))
  subst ey
  obtain rfl : iv = Value.ref b := ry
  exact sk_add hu I2 g T kt few fun s3 L' y1 y2 I3 => ⟨.non, _, I3, rfl, q2 L' y1 y2⟩
end
/-! ### meanings and rules -/
section
variable [Wd]
noncomputable def wdIs (P : Program) (w : World) : Bool := @decide (P = Wd.P ∧ w = Wd.w) (Classical.propDecidable _)
theorem wdIs_self : wdIs Wd.P Wd.w = true := @decide_eq_true _ (Classical.propDecidable _) ⟨rfl, rfl⟩
theorem wdIs_of {P : Program} {w : World} (h : wdIs P w = true) : P = Wd.P ∧ w = Wd.w := @of_decide_eq_true _ (Classical.propDecidable _) h
def addK (ks : List (List Key)) (k : List Key) : List (List Key) := if hasK ks k = true then ks else ks ++ [k]
def fNewS : DEnv → Res OD := fun ρ => .ok (.ts Wd.P Wd.w []) ρ
noncomputable def dSIn (neg : Bool) (i : Nat) (f : DEnv → Res PyData) : DEnv → Res PyData := fun ρ => (f ρ).bind fun d ρ1 => match hobj i ρ1 with
  | some (.ts P w ks) => if wdIs P w = true then Res.of ((keyTD d).map fun k => .bool (if neg then !hasK ks k else hasK ks k)) ρ1 else .bad
  | _ => .bad
noncomputable def isTs : Option OD → Bool
  | some (.ts P w _) => wdIs P w
  | _ => false
noncomputable def dSAdd (i : Nat) (f : DEnv → Res PyData) : DEnv → Res PyData := fun ρ => if isTs (hobj i ρ) = true then (f ρ).bind fun d ρ1 => match hobj i ρ1 with
  | some (.ts P w ks) => if wdIs P w = true ∧ ks.length + 1 < 64 then match keyTD d with
    | some k => .ok .none (setHeld i (.ts P w (addK ks k)) ρ1)
    | none => .bad else .bad
  | _ => .bad else .bad
section
variable {X : Cx} {E : WX} {a : Expr} {fa : DEnv → Res PyData} {pos p px : Pos} {x : Str}
theorem f_newS (hW : Wd.P = X.prog ∧ Wd.w = X.w) (hg : Gl X "set") (hm : X.mg "set" = none) : FJ X E (.Call (.Name "set" p) [] [] pos) fNewS :=
  ⟨_, pe_callTy0 cr_setNew hg hm (by decide +kernel), fun σ G H ρ Q R h => ⟨rfl, fun q hq => FPost.new (o := .ts Wd.P Wd.w []) R h hq ⟨[], by rw [hW.1, hW.2]; exact upd_same, .nil, fun z hz => nomatch hz⟩⟩⟩
theorem skin_read (hW : Wd.P = X.prog ∧ Wd.w = X.w) {neg : Bool} {i : Nat} {t : TE} {σ : St} {G H : Hp} {ρ : DEnv} {Q : VK} (p : ∀ σ G H ρ Q, Rel X.K G σ H ρ → EPost X E σ G H ρ Q (fa ρ) → t σ H Q) (R : Rel X.K G σ H ρ) (h : EPost X E σ G H ρ Q (dSIn neg i fa ρ)) :
    tSkIn X.K X.prog X.w neg t (tVar i) σ H Q := by
  refine p σ G H ρ _ R (Post.bind h fun G1 H1 y d ρ1 R1 S1 hy h1 => ?_)
  cases q0 : hobj i ρ1 with
  | none => rw [q0] at h1; exact h1.elim
  | some o =>
    rw [q0] at h1
    obtain ⟨b1, f0, g1, o1, _⟩ := R1.hobjAny q0
    refine ⟨.ref b1, f0, ?_⟩
    cases o with
    | ts P w ks =>
      obtain ⟨L, u1, u2, u3⟩ := o1
      simp only at h1
      by_cases hw : wdIs P w = true
      case neg => rw [if_neg hw] at h1; exact h1.elim
      rw [if_pos hw] at h1
      obtain ⟨rfl, rfl⟩ := wdIs_of hw
      cases q1 : keyTD d with
      | none => simp only [q1] at h1; exact h1.elim
      | some k =>
        simp only [q1] at h1
        obtain ⟨c1, rfl, kt⟩ := keyTD_rp hy q1
        refine ⟨b1, c1, L, k, rfl, rfl, by rw [← hW.1, ← hW.2]; exact u1, fun z hz => Same.seqT R1.gh (u3 z hz), Same.seqT R1.gh kt, ?_⟩
        rw [hasK_perm u2]
        exact Post.done R1 h1 (.bl _)
    | _ => exact h1.elim
theorem e_skin (i : Nat) (hW : Wd.P = X.prog ∧ Wd.w = X.w) (hu : X.A.units + 65 < cLine) (ha : EJ X E a fa) (hx : PE X (.Name x px) (tVar i)) (h1 : behindInMarks .In (.Name x px) = false) : EJ X E (.Compare a [.In] [.Name x px] pos) (dSIn false i fa) := by
  obtain ⟨t, q, p⟩ := ha
  exact ⟨_, pe_cmp (pc_skin hu q hx) h1, fun σ G H ρ Q R h => skin_read hW p R h⟩
theorem e_sknotIn (i : Nat) (hW : Wd.P = X.prog ∧ Wd.w = X.w) (hu : X.A.units + 65 < cLine) (ha : EJ X E a fa) (hx : PE X (.Name x px) (tVar i)) (h1 : behindInMarks .NotIn (.Name x px) = false) : EJ X E (.Compare a [.NotIn] [.Name x px] pos) (dSIn true i fa) := by
  obtain ⟨t, q, p⟩ := ha
  exact ⟨_, pe_cmp (pc_sknotin hu q hx) h1, fun σ G H ρ Q R h => skin_read hW p R h⟩
theorem t_skin (i : Nat) (hW : Wd.P = X.prog ∧ Wd.w = X.w) (hu : X.A.units + 65 < cLine) (ha : EJ X E a fa) (hx : PE X (.Name x px) (tVar i)) (h1 : behindInMarks .In (.Name x px) = false) : TJ X E (.Compare a [.In] [.Name x px] pos) (tOf (dSIn false i fa)) := by
  obtain ⟨t, q, p⟩ := ha
  refine ⟨_, pt_cmp (pc_skin hu q hx) h1, fun σ G H ρ Q R h => skin_read hW (neg := false) (Q := fun x H1 => ∃ b, x = V.bl b ∧ Q b H1) p R (Post.bind h fun G1 H1 y d ρ1 R1 S1 hy h1 => ?_)⟩
  cases d with
  | bool k => cases hy; exact ⟨k, rfl, Post.done R1 h1 rfl⟩
  | _ => exact h1.elim
theorem t_sknotIn (i : Nat) (hW : Wd.P = X.prog ∧ Wd.w = X.w) (hu : X.A.units + 65 < cLine) (ha : EJ X E a fa) (hx : PE X (.Name x px) (tVar i)) (h1 : behindInMarks .NotIn (.Name x px) = false) : TJ X E (.Compare a [.NotIn] [.Name x px] pos) (tOf (dSIn true i fa)) := by
  obtain ⟨t, q, p⟩ := ha
  refine ⟨_, pt_cmp (pc_sknotin hu q hx) h1, fun σ G H ρ Q R h => skin_read hW (neg := true) (Q := fun x H1 => ∃ b, x = V.bl b ∧ Q b H1) p R (Post.bind h fun G1 H1 y d ρ1 R1 S1 hy h1 => ?_)⟩
  cases d with
  | bool k => cases hy; exact ⟨k, rfl, Post.done R1 h1 rfl⟩
  | _ => exact h1.elim
theorem e_skadd {apos : Pos} (i : Nat) (hW : Wd.P = X.prog ∧ Wd.w = X.w) (hu : X.A.units + 65 < cLine) (hx : PE X (.Name x px) (tVar i)) (ha : EJ X E a fa) (m : M1 X (.Name x px) "add" apos a pos) : EJ X E (.Call (.Attribute (.Name x px) "add" apos) [a] [] pos) (dSAdd i fa) := by
  obtain ⟨t, q, p⟩ := ha
  refine ⟨_, pe_skadd hu hx q m, fun σ G H ρ Q R h => ?_⟩
  unfold dSAdd at h
  by_cases hc : isTs (hobj i ρ) = true
  case neg => rw [if_neg hc] at h; exact h.elim
  rw [if_pos hc] at h
  cases q9 : hobj i ρ with
  | none => rw [q9] at hc; cases hc
  | some o9 =>
    obtain ⟨b, e0, _, o0, _⟩ := R.hobjAny q9
    cases o9 with
    | ts P w ks0 =>
      rw [q9] at hc
      obtain ⟨rfl, rfl⟩ := wdIs_of hc
      obtain ⟨L0, u0, _⟩ := o0
      refine ⟨.ref b, e0, b, L0, rfl, by rw [← hW.1, ← hW.2]; exact u0, p σ G H ρ _ R (Post.bind h fun G1 H1 y d ρ1 R1 S1 hy h1 => ?_)⟩
      cases q0 : hobj i ρ1 with
      | none => rw [q0] at h1; exact h1.elim
      | some o =>
        rw [q0] at h1
        obtain ⟨b1, f0, g1, o1, f3⟩ := R1.hobjAny q0
        rw [e0] at f0
        cases f0
        cases o with
        | ts P w ks =>
          obtain ⟨L, u1, u2, u3⟩ := o1
          simp only at h1
          by_cases hw : wdIs P w = true ∧ ks.length + 1 < 64
          case neg => rw [if_neg hw] at h1; exact h1.elim
          rw [if_pos hw] at h1
          obtain ⟨rfl, rfl⟩ := wdIs_of hw.1
          cases q1 : keyTD d with
          | none => simp only [q1] at h1; exact h1.elim
          | some k =>
            simp only [q1] at h1
            obtain ⟨c1, rfl, kt⟩ := keyTD_rp hy q1
            have hl : L.length = ks.length := by have := u2.length_eq; rw [List.length_map] at this; exact this
            refine ⟨c1, L, k, rfl, by rw [← hW.1, ← hW.2]; exact u1, fun z hz => Same.seqT R1.gh (u3 z hz), Same.seqT R1.gh kt, by rw [hl]; exact hw.2, fun L' y1 y2 => ?_⟩
            have new : OwnAt X.K G1 (upd H1 b (SKO Wd.P Wd.w b L')) b (.ts Wd.P Wd.w (addK ks k)) := by
              refine ⟨L', upd_same, ?_, ?_⟩
              · unfold addK
                rw [← hasK_perm u2]
                by_cases hm : k ∈ L.map (·.2)
                · rw [if_pos (hasK_iff.mpr hm), y1 hm]; exact u2
                · rw [hasK_not hm, if_neg Bool.false_ne_true]
                  have y3 : (L'.map (·.2)).Perm (k :: L.map (·.2)) := (y2 hm).map (·.2)
                  exact y3.trans ((u2.cons k).trans (List.perm_append_singleton k ks).symm)
              · intro z hz
                by_cases hm : k ∈ L.map (·.2)
                · rw [y1 hm] at hz; exact u3 z hz
                · rcases List.mem_cons.mp ((y2 hm).mem_iff.mp hz) with e | hz
                  · rw [e]; exact kt
                  · exact u3 z hz
            obtain ⟨R3, S3⟩ := f3 _ _ new
            rw [← hW.1, ← hW.2]
            exact h1 _ _ _ R3 S3 .non
        | _ => exact h1.elim
    | _ => rw [q9] at hc; cases hc
end
/-! ### forward -/
section
variable {Z : Exn → DEnv → Prop} {ρ : DEnv} {Q : PyData → DEnv → Prop} {O : OD → DEnv → Prop}
def tsQ (K : List (List Key) → Prop) (o : Option OD) : Prop := match o with
  | some (.ts P w ks) => wdIs P w = true ∧ K ks
  | _ => False
theorem tsQ_ts (K : List (List Key) → Prop) (ks : List (List Key)) : tsQ K (some (.ts Wd.P Wd.w ks)) = K ks := propext ⟨fun h => h.2, fun h => ⟨wdIs_self, h⟩⟩
theorem isTs_ts (ks : List (List Key)) : isTs (some (.ts Wd.P Wd.w ks)) = true := wdIs_self
theorem wp_newS : WpX Z (fNewS ρ) O = O (.ts Wd.P Wd.w []) ρ := wp_ok _ _ _
theorem wp_skin (neg : Bool) (i : Nat) (f : DEnv → Res PyData) : WpX Z (dSIn neg i f ρ) Q = WpX Z (f ρ) fun d ρ1 => tsQ (fun ks => keyQ (fun k => Q (.bool (if neg then !hasK ks k else hasK ks k)) ρ1) (keyTD d)) (hobj i ρ1) := by
  unfold dSIn; rw [wp_bind]; congr 1; funext d ρ1
  cases hobj i ρ1 with
  | none => exact wp_bad _
  | some o =>
    cases o with
    | ts P w ks =>
      show WpX Z (if wdIs P w = true then Res.of ((keyTD d).map _) ρ1 else .bad) Q = (_ ∧ keyQ _ (keyTD d))
      rw [wp_guard]
      congr 1
      cases keyTD d with
      | none => exact wp_bad _
      | some k => exact wp_ok _ _ _
    | _ => exact wp_bad _
theorem wp_skadd (i : Nat) (f : DEnv → Res PyData) : WpX Z (dSAdd i f ρ) Q = (isTs (hobj i ρ) = true ∧ WpX Z (f ρ) fun d ρ1 => tsQ (fun ks => ks.length + 1 < 64 ∧ keyQ (fun k => Q .none (setHeld i (.ts Wd.P Wd.w (addK ks k)) ρ1)) (keyTD d)) (hobj i ρ1)) := by
  unfold dSAdd; rw [wp_guard, wp_bind]; congr 1; congr 1; funext d ρ1
  cases hobj i ρ1 with
  | none => exact wp_bad _
  | some o =>
    cases o with
    | ts P w ks =>
      show WpX Z (if wdIs P w = true ∧ ks.length + 1 < 64 then _ else .bad) Q = (_ ∧ _)
      rw [wp_guard]
      by_cases hw : wdIs P w = true
      · obtain ⟨rfl, rfl⟩ := wdIs_of hw
        rw [← and_assoc]
        congr 1
        cases keyTD d with
        | none => exact wp_bad _
        | some k => exact wp_ok _ _ _
      · exact propext ⟨fun h => absurd h.1.1 hw, fun h => absurd h.1 hw⟩
    | _ => exact wp_bad _
end
end
end DL

set_option Elab.async false
set_option linter.all false
set_option maxRecDepth 100000
set_option maxHeartbeats 4000000
/-! DL part 39: list + list of fresh ones; comprehensions with more than one name; texts compared; what a dict holds behind stores. -/
namespace DL
open PySem PySem.Spec PyProof.Rows L2
def catQ (K : List PyData → Prop) (d e : PyData) : Prop := match d, e with
  | .list xs, .list ys => xs.length + ys.length ≤ sizeLine ∧ K (xs ++ ys)
  | _, _ => False
theorem catQ_list (K : List PyData → Prop) (xs ys : List PyData) : catQ K (.list xs) (.list ys) = (xs.length + ys.length ≤ sizeLine ∧ K (xs ++ ys)) := rfl
theorem wp_cat {Z : Exn → DEnv → Prop} (ρ : DEnv) (O : OD → DEnv → Prop) (f g : DEnv → Res PyData) : WpX Z (fCat f g ρ) O = WpX Z (f ρ) fun d ρ1 => WpX Z (g ρ1) fun e ρ2 => catQ (fun l => O (.lst l) ρ2) d e := by
  unfold fCat
  rw [wp_bind]
  congr 1
  funext d ρ1
  rw [wp_bind]
  congr 1
  funext e ρ2
  cases d with
  | list xs =>
    cases e with
    | list ys => exact (wp_guard _ _).trans (congrArg _ (wp_ok _ _ _))
    | _ => exact wp_bad _
  | _ => cases e <;> exact wp_bad _
theorem unwipe_nil (ρ ρ' : DEnv) : unwipe [] ρ ρ' = ρ' := by
  apply List.ext_getElem?
  intro i
  unfold unwipe
  rw [List.getElem?_mapIdx]
  cases ρ'[i]? <;> rfl
theorem unwipe_cons (v : Nat) (vs : List Nat) (ρ ρ' : DEnv) : unwipe (v :: vs) ρ ρ' = (unwipe vs ρ ρ').set v (ρ[v]?.getD .un) := by
  apply List.ext_getElem?
  intro i
  rw [List.getElem?_set]
  unfold unwipe
  rw [List.getElem?_mapIdx, List.getElem?_mapIdx, List.length_mapIdx]
  by_cases h : v = i
  · subst h
    rw [if_pos rfl]
    by_cases hl : v < ρ'.length
    · rw [if_pos hl, List.getElem?_eq_getElem hl, Option.map_some, if_pos (List.mem_cons_self)]
    · rw [if_neg hl, List.getElem?_eq_none (l := ρ') (by omega)]
      rfl
  · rw [if_neg h]
    cases ρ'[i]? with
    | none => rfl
    | some c =>
      rw [Option.map_some, Option.map_some]
      have : (i ∈ v :: vs) = (i ∈ vs) := propext ⟨fun z => (List.mem_cons.mp z).elim (fun e => absurd e.symm h) id, List.mem_cons_of_mem _⟩
      simp only [this]
theorem oEq_str {x y : Str} (hx : PySem.PyData.strOk x = true) (hy : PySem.PyData.strOk y = true) : oEq (.str x) (.str y) = some (.bool (x == y)) := by
  unfold oEq
  rw [if_pos ⟨Shp.ok (.str (k := 0) hx), Shp.ok (.str (k := 0) hy)⟩]
  rfl
theorem oNe_str {x y : Str} (hx : PySem.PyData.strOk x = true) (hy : PySem.PyData.strOk y = true) : oNe (.str x) (.str y) = some (.bool (x != y)) := by
  unfold oNe
  rw [if_pos ⟨Shp.ok (.str (k := 0) hx), Shp.ok (.str (k := 0) hy)⟩]
  rfl
section
variable {κ : Type} [DecidableEq κ]
theorem valD_snoc (kvs : List (κ × PyData)) (k j : κ) (d : PyData) (h : valD kvs k = none) : valD (kvs ++ [(k, d)]) j = if k = j then some d else valD kvs j := by
  unfold valD at h ⊢
  rw [List.find?_append]
  by_cases e : k = j
  · subst e
    rw [if_pos rfl]
    rw [Option.map_eq_none_iff] at h
    rw [h]
    simp
  · rw [if_neg e]
    cases q : kvs.find? fun kv => decide (kv.1 = j) with
    | some p => rfl
    | none => simp [e]
theorem valD_put (kvs : List (κ × PyData)) (k j : κ) (d : PyData) : valD (putD kvs k d) j = if k = j then some d else valD kvs j := by
  unfold putD
  by_cases h : (kvs.any fun kv => decide (kv.1 = k)) = true
  · rw [if_pos h]
    unfold valD
    rw [List.find?_map]
    have e0 : ((fun kv : κ × PyData => decide (kv.1 = j)) ∘ fun kv => if kv.1 = k then (kv.1, d) else kv) = fun kv => decide (kv.1 = j) := by
      funext kv
      show decide ((if kv.1 = k then (kv.1, d) else kv).1 = j) = _
      split <;> rfl
    rw [e0]
    by_cases e : k = j
    · subst e
      rw [if_pos rfl]
      obtain ⟨p, hp, hk⟩ := List.any_eq_true.mp h
      cases q : kvs.find? fun kv => decide (kv.1 = k) with
      | none => exact absurd hk (by have := List.find?_eq_none.mp q p hp; simpa using this)
      | some p2 =>
        have : p2.1 = k := by have z := List.find?_some q; simpa using z
        simp [this]
    · rw [if_neg e]
      cases q : kvs.find? fun kv => decide (kv.1 = j) with
      | none => rfl
      | some p2 =>
        have h2 : p2.1 = j := by have z := List.find?_some q; simpa using z
        have : ¬ p2.1 = k := fun z => e (z.symm.trans h2)
        simp [this]
  · rw [if_neg h]
    refine valD_snoc kvs k j d ?_
    unfold valD
    rw [Option.map_eq_none_iff, List.find?_eq_none]
    intro p hp z
    exact h (List.any_eq_true.mpr ⟨p, hp, z⟩)
/-- the last one of those whose key is j -/
def lastK {α : Type} (key : α → κ) (ss : List α) (j : κ) : Option α := ss.foldl (fun r s => if key s = j then some s else r) none
theorem lastK_mem {α : Type} {key : α → κ} {ss : List α} {j : κ} {s : α} (h : lastK key ss j = some s) : s ∈ ss ∧ key s = j := by
  have go : ∀ (ss : List α) (r : Option α), ss.foldl (fun r s => if key s = j then some s else r) r = some s → (s ∈ ss ∧ key s = j) ∨ r = some s := by
    intro ss
    induction ss with
    | nil => exact fun r h => .inr h
    | cons a ss ih =>
      intro r h
      rcases ih _ h with ⟨h1, h2⟩ | h1
      · exact .inl ⟨List.mem_cons_of_mem _ h1, h2⟩
      · have h1 : (if key a = j then some a else r) = some s := h1
        by_cases e : key a = j
        · rw [if_pos e] at h1
          obtain rfl := Option.some.inj h1
          exact .inl ⟨List.mem_cons_self, e⟩
        · rw [if_neg e] at h1
          exact .inr h1
  rcases go ss none h with h | h
  · exact h
  · cases h
theorem valD_merge {α : Type} (key : α → κ) (f : α → PyData) (ss : List α) (j : κ) : valD (mergeD [] (ss.map fun s => (key s, f s))) j = (lastK key ss j).map f := by
  have go : ∀ (ss : List α) (acc : List (κ × PyData)) (r : Option α), valD acc j = r.map f → valD (mergeD acc (ss.map fun s => (key s, f s))) j = (ss.foldl (fun r s => if key s = j then some s else r) r).map f := by
    intro ss
    induction ss with
    | nil => exact fun acc r h => h
    | cons a ss ih =>
      intro acc r h
      show valD (mergeD (putD acc (key a) (f a)) _) j = _
      refine ih _ _ ?_
      rw [valD_put]
      show _ = (if key a = j then some a else r).map f
      by_cases e : key a = j
      · rw [if_pos e, if_pos e]; rfl
      · rw [if_neg e, if_neg e]; exact h
  exact go ss [] none rfl
end
end DL

set_option Elab.async false
set_option linter.all false
set_option maxRecDepth 100000
set_option maxHeartbeats 8000000
namespace M
open PySem PySem.Spec PyProof.Rows L2 DL
def topS (i : Nat) : Stmt := PySem.Challenge.pw_twoways_k34_deeds_in_stretches.main.body.getD i (.Pass ⟨0, 0, 0, 0⟩)
noncomputable section
variable [Wd]
def bltNames : List Str := ["len", "range", "tuple", "list", "int", "max", "set"]
abbrev Blt (mg : Str → Option Value) : Prop := ∀ x ∈ bltNames, mg x = none
theorem in_len : ("len" : Str) ∈ bltNames := by decide +kernel
theorem in_range : ("range" : Str) ∈ bltNames := by decide +kernel
theorem in_tuple : ("tuple" : Str) ∈ bltNames := by decide +kernel
theorem in_list : ("list" : Str) ∈ bltNames := by decide +kernel
theorem in_int : ("int" : Str) ∈ bltNames := by decide +kernel
theorem in_max : ("max" : Str) ∈ bltNames := by decide +kernel
theorem in_set : ("set" : Str) ∈ bltNames := by decide +kernel
def c_STOP : PyData := .str "stop"
def c_LEFT : PyData := .str "left"
def c_RIGHT : PyData := .str "right"
def c_OUT : PyData := .str "out"
/-- the module's constants -/
structure Glb (K : PySem.W.Frag) (mg : Str → Option Value) : Prop where
  mk ::
  STOP : ∃ u v, mg "STOP" = some u ∧ RelV v u ∧ ∀ G, Rp K G v c_STOP
  LEFT : ∃ u v, mg "LEFT" = some u ∧ RelV v u ∧ ∀ G, Rp K G v c_LEFT
  RIGHT : ∃ u v, mg "RIGHT" = some u ∧ RelV v u ∧ ∀ G, Rp K G v c_RIGHT
  OUT : ∃ u v, mg "OUT" = some u ∧ RelV v u ∧ ∀ G, Rp K G v c_OUT
/-! _law_draw -/
abbrev st_law_draw : Stmt := topS 13
theorem sc_law_draw : FnScope ["state", "limit", "position", "cell", "mixed", "digit"] ["state", "limit"] (defScope st_law_draw) := ⟨rfl, rfl, rfl, by decide +kernel, rfl, by decide +kernel, by decide +kernel⟩
def body_law_draw : DEnv → Res Out := sSeq (sIf (tOf (dOp oLt (dIxN 0 (dC (.int 0))) (dVar 1))) (sSeq (sAsg (dIxN 0 (dC (.int 1))) (setV 2)) (sSeq (sSetH 0 (dOp oAdd (dVar 2) (dC (.int 1))) (dC (.int 1))) (sSeq (sAsg (dC (.int 0)) (setV 3)) (sSeq (sIf (tOf (dOp oLt (dVar 2) (dLen (lOf (dIxN 0 (dC (.int 2))))))) (sAsg (dOp oIx (dIxN 0 (dC (.int 2))) (dVar 2)) (setV 3)) (sNx)) (sIf (tOf (dOp oGe (dVar 3) (dOp oPow (dC (.int 10)) (dC (.int 18))))) (sSetH 0 (dVar 3) (dC (.int 0))) (sSeq (sSetH 0 (dOp oMod (dCall oInt (dCons (dOp oMul (dOp oAdd (dOp oAdd (dOp oAdd (dIxN 0 (dC (.int 3))) (dOp oMod (dCall oInt (dCons (dVar 3) (dNil))) (dC (.int 2147483629)))) (dVar 2)) (dC (.int 1))) (dC (.int 48271))) (dNil))) (dC (.int 2147483647))) (dC (.int 3))) (sSeq (sAsg (dOp oMod (dCall oInt (dCons (dOp oAdd (dOp oMul (dIxN 0 (dC (.int 3))) (dC (.int 69621))) (dC (.int 11))) (dNil))) (dC (.int 2147483629))) (setV 4)) (sSetH 0 (dOp oAdd (dOp oMul (dVar 4) (dC (.int 2147483647))) (dOp oMod (dCall oInt (dCons (dOp oAdd (dOp oMul (dVar 4) (dC (.int 30011))) (dIxN 0 (dC (.int 3)))) (dNil))) (dC (.int 2147483587)))) (dC (.int 0)))))))))) (sNx)) (sSeq (sAsg (dOp oMod (dCall oInt (dCons (dIxN 0 (dC (.int 0))) (dNil))) (dVar 1)) (setV 5)) (sSeq (sSetH 0 (dOp oDiv (dIxN 0 (dC (.int 0))) (dVar 1)) (dC (.int 0))) (sRet (dVar 5))))
def den_law_draw : DEnv → Res PyData := defD 4 body_law_draw
theorem wpd_law_draw (a0 a1 : Cell) (Q : PyData → DEnv → Prop) (h : WpX Zn (body_law_draw [a0, a1, .un, .un, .un, .un]) (retQ [a0, a1] Q)) : WpX Zn (den_law_draw [a0, a1]) Q := wp_def Q 4 _ _ h
theorem k_law_draw {P : Program} {w : World} {K : PySem.W.Frag} {mg : Str → Option Value} {base : Heap} {f : Addr} {fd : FuncData} (B : Blt mg) (G : Glb K mg) (D : IsDef K mg "_law_draw" "_law_draw" st_law_draw ["state", "limit"] f fd) (HW : Wd.P = P ∧ Wd.w = w)  : Kept P w K mg base CX0 1 "_law_draw" ["state", "limit"] den_law_draw := by
  refine kept_of D sc_law_draw rfl fun cdv A outer s H E hr => ?_
  have hu65 : (A.deeper (envOfC "_law_draw" (defScope st_law_draw) s.heap.objs.size f cdv)).units + 65 < cLine := by have := hr.un; omega
  have hu1 : (A.deeper (envOfC "_law_draw" (defScope st_law_draw) s.heap.objs.size f cdv)).units + 1 < cLine := by omega
  exact (b_cons (s_if (t_cmp (ho_lt hr.units0) od_lt (e_ixN 0 (pv 0) e_int (fun _ _ => rfl)) (e_var 1 (pv 1)) (nomark _)) (b_cons (s_asg (e_ixN 0 (pv 0) e_int (fun _ _ => rfl)) (g_name 2 (pg_name (i := 2) sc_law_draw.nd rfl (by first | exact .inl rfl | exact .inr rfl))) (fun _ _ h1 h2 => ps_asg h1 h2))
      (b_cons (s_setH 0 (pv 0) (e_op ho_add od_add (e_var 2 (pv 2)) e_int) e_int (fun _ _ _ h1 h2 h3 => ps_asg h1 (pg_sub h2 h3 set_list)))
      (b_cons (s_asg e_int (g_name 3 (pg_name (i := 3) sc_law_draw.nd rfl (by first | exact .inl rfl | exact .inr rfl))) (fun _ _ h1 h2 => ps_asg h1 h2))
      (b_cons (s_if (t_cmp (ho_lt hr.units0) od_lt (e_var 2 (pv 2)) (e_len (l_of (e_ixN 0 (pv 0) e_int (fun _ _ => rfl))) rfl (B _ in_len)) (nomark _)) (b_one (s_asg (e_ix ho_ix od_ix (e_ixN 0 (pv 0) e_int (fun _ _ => rfl)) (e_var 2 (pv 2)) (fun _ _ => rfl)) (g_name 3 (pg_name (i := 3) sc_law_draw.nd rfl (by first | exact .inl rfl | exact .inr rfl))) (fun _ _ h1 h2 => ps_asg h1 h2))) b_nil)
      (b_one (s_if (t_cmp op_ge od_ge (e_var 3 (pv 3)) (e_op op_pow od_pow e_int e_int) (nomark _)) (b_one (s_setH 0 (pv 0) (e_var 3 (pv 3)) e_int (fun _ _ _ h1 h2 h3 => ps_asg h1 (pg_sub h2 h3 set_list)))) (b_cons (s_setH 0 (pv 0) (e_op op_mod od_mod (e_callT call_int1 cd_int rfl (B _ in_int) (by decide +kernel) (a_cons (e_op ho_mul od_mul (e_op ho_add od_add (e_op ho_add od_add (e_op ho_add od_add (e_ixN 0 (pv 0) e_int (fun _ _ => rfl)) (e_op op_mod od_mod (e_callT call_int1 cd_int rfl (B _ in_int) (by decide +kernel) (a_cons (e_var 3 (pv 3)) a_nil)) e_int)) (e_var 2 (pv 2))) e_int) e_int) a_nil)) e_int) e_int (fun _ _ _ h1 h2 h3 => ps_asg h1 (pg_sub h2 h3 set_list)))
      (b_cons (s_asg (e_op op_mod od_mod (e_callT call_int1 cd_int rfl (B _ in_int) (by decide +kernel) (a_cons (e_op ho_add od_add (e_op ho_mul od_mul (e_ixN 0 (pv 0) e_int (fun _ _ => rfl)) e_int) e_int) a_nil)) e_int) (g_name 4 (pg_name (i := 4) sc_law_draw.nd rfl (by first | exact .inl rfl | exact .inr rfl))) (fun _ _ h1 h2 => ps_asg h1 h2))
      (b_one (s_setH 0 (pv 0) (e_op ho_add od_add (e_op ho_mul od_mul (e_var 4 (pv 4)) e_int) (e_op op_mod od_mod (e_callT call_int1 cd_int rfl (B _ in_int) (by decide +kernel) (a_cons (e_op ho_add od_add (e_op ho_mul od_mul (e_var 4 (pv 4)) e_int) (e_ixN 0 (pv 0) e_int (fun _ _ => rfl))) a_nil)) e_int)) e_int (fun _ _ _ h1 h2 h3 => ps_asg h1 (pg_sub h2 h3 set_list)))))))))))) b_nil)
      (b_cons (s_asg (e_op op_mod od_mod (e_callT call_int1 cd_int rfl (B _ in_int) (by decide +kernel) (a_cons (e_ixN 0 (pv 0) e_int (fun _ _ => rfl)) a_nil)) (e_var 1 (pv 1))) (g_name 5 (pg_name (i := 5) sc_law_draw.nd rfl (by first | exact .inl rfl | exact .inr rfl))) (fun _ _ h1 h2 => ps_asg h1 h2))
      (b_cons (s_setH 0 (pv 0) (e_op op_fdiv od_div (e_ixN 0 (pv 0) e_int (fun _ _ => rfl)) (e_var 1 (pv 1))) e_int (fun _ _ _ h1 h2 h3 => ps_asg h1 (pg_sub h2 h3 set_list)))
      (b_one (s_ret (e_var 5 (pv 5)))))))
/-! _law_product -/
abbrev st_law_product : Stmt := topS 14
theorem sc_law_product : FnScope ["kind", "count", "x", "y"] ["kind", "count", "x", "y"] (defScope st_law_product) := ⟨rfl, rfl, rfl, by decide +kernel, rfl, by decide +kernel, by decide +kernel⟩
def body_law_product : DEnv → Res Out := sSeq (sIf (tOf (dOp oEq (dVar 0) (dC (.int 0)))) (sRet (dOp oMod (dCall oInt (dCons (dOp oAdd (dVar 2) (dVar 3)) (dNil))) (dVar 1))) (sNx)) (sSeq (sIf (tOf (dOp oEq (dVar 0) (dC (.int 1)))) (sRet (dCall oMax2 (dCons (dVar 2) (dCons (dVar 3) (dNil))))) (sNx)) (sSeq (sIf (tOf (dOp oEq (dVar 0) (dC (.int 2)))) (sRet (dIf (tOf (dOp oEq (dVar 3) (dC (.int 0)))) (dVar 2) (dVar 3))) (sNx)) (sRet (dIf (tOf (dOp oEq (dVar 2) (dC (.int 0)))) (dVar 3) (dVar 2)))))
def den_law_product : DEnv → Res PyData := defD 0 body_law_product
theorem wpd_law_product (a0 a1 a2 a3 : Cell) (Q : PyData → DEnv → Prop) (h : WpX Zn (body_law_product [a0, a1, a2, a3]) (retQ [a0, a1, a2, a3] Q)) : WpX Zn (den_law_product [a0, a1, a2, a3]) Q := wp_def Q 0 _ _ h
theorem k_law_product {P : Program} {w : World} {K : PySem.W.Frag} {mg : Str → Option Value} {base : Heap} {f : Addr} {fd : FuncData} (B : Blt mg) (G : Glb K mg) (D : IsDef K mg "_law_product" "_law_product" st_law_product ["kind", "count", "x", "y"] f fd) (HW : Wd.P = P ∧ Wd.w = w)  : Kept P w K mg base CX0 1 "_law_product" ["kind", "count", "x", "y"] den_law_product := by
  refine kept_of D sc_law_product rfl fun cdv A outer s H E hr => ?_
  have hu65 : (A.deeper (envOfC "_law_product" (defScope st_law_product) s.heap.objs.size f cdv)).units + 65 < cLine := by have := hr.un; omega
  have hu1 : (A.deeper (envOfC "_law_product" (defScope st_law_product) s.heap.objs.size f cdv)).units + 1 < cLine := by omega
  exact (b_cons (s_if (t_cmp (op_eqD hr.units) od_eq (e_var 0 (pv 0)) e_int (nomark _)) (b_one (s_ret (e_op op_mod od_mod (e_callT call_int1 cd_int rfl (B _ in_int) (by decide +kernel) (a_cons (e_op ho_add od_add (e_var 2 (pv 2)) (e_var 3 (pv 3))) a_nil)) (e_var 1 (pv 1))))) b_nil)
      (b_cons (s_if (t_cmp (op_eqD hr.units) od_eq (e_var 0 (pv 0)) e_int (nomark _)) (b_one (s_ret (e_callB (call_max2 rfl) cd_max2 rfl (B _ in_max) (by decide +kernel) (a_cons (e_var 2 (pv 2)) (a_cons (e_var 3 (pv 3)) a_nil))))) b_nil)
      (b_cons (s_if (t_cmp (op_eqD hr.units) od_eq (e_var 0 (pv 0)) e_int (nomark _)) (b_one (s_ret (e_ifExp (t_cmp (op_eqD hr.units) od_eq (e_var 3 (pv 3)) e_int (nomark _)) (e_var 2 (pv 2)) (e_var 3 (pv 3))))) b_nil)
      (b_one (s_ret (e_ifExp (t_cmp (op_eqD hr.units) od_eq (e_var 2 (pv 2)) e_int (nomark _)) (e_var 3 (pv 3)) (e_var 2 (pv 2))))))))
/-! _law_small_reader -/
abbrev st_law_small_reader : Stmt := topS 17
theorem sc_law_small_reader : FnScope ["state", "count", "size", "kind", "shift", "back", "mul", "letters", "accepted", "x", "k", "y"] ["state", "count"] (defScope st_law_small_reader) := ⟨rfl, rfl, rfl, by decide +kernel, rfl, by decide +kernel, by decide +kernel⟩
def body_law_small_reader : DEnv → Res Out := sSeq (sAsg (dOp oAdd (dC (.int 1)) (dCallI den_law_draw 0 (dCons (dC (.int 3)) (dNil)))) (setV 2)) (sSeq (sAsg (dCallI den_law_draw 0 (dCons (dC (.int 4)) (dNil))) (setV 3)) (sSeq (sAsg (dCallI den_law_draw 0 (dCons (dVar 2) (dNil))) (setV 4)) (sSeq (sNew 5 (fLc [9] (iRng rng1 (dCons (dVar 2) (dNil))) (setV 9) (tTrue) (dOp oMod (dCall oInt (dCons (dOp oSub (dVar 9) (dVar 4)) (dNil))) (dVar 2)))) (sSeq (sAsg (dTupleOf (lOf (dFrz (fLc [9] (iRng rng1 (dCons (dVar 2) (dNil))) (setV 9) (tTrue) (dTupleOf (lOf (dFrz (fLc [11] (iRng rng1 (dCons (dVar 2) (dNil))) (setV 11) (tTrue) (dOp oMod (dCall oInt (dCons (dOp oAdd (dCallV den_law_product (dCons (dVar 3) (dCons (dVar 2) (dCons (dIxN 5 (dVar 9)) (dCons (dIxN 5 (dVar 11)) (dNil)))))) (dVar 4)) (dNil))) (dVar 2)))))))))) (setV 6)) (sSeq (sAsg (dTupleOf (lOf (dFrz (fLc [10] (iRng rng1 (dCons (dVar 1) (dNil))) (setV 10) (tTrue) (dCallI den_law_draw 0 (dCons (dVar 2) (dNil))))))) (setV 7)) (sSeq (sAsg (dTupleOf (lOf (dFrz (fLc [9] (iRng rng1 (dCons (dVar 2) (dNil))) (setV 9) (tOf (dOp oEq (dCallI den_law_draw 0 (dCons (dC (.int 2)) (dNil))) (dC (.int 1)))) (dVar 9))))) (setV 8)) (sRet (dTup (dCons (dVar 4) (dCons (dVar 7) (dCons (dVar 6) (dCons (dVar 8) (dNil)))))))))))))
def den_law_small_reader : DEnv → Res PyData := defD 10 body_law_small_reader
theorem wpd_law_small_reader (a0 a1 : Cell) (Q : PyData → DEnv → Prop) (h : WpX Zn (body_law_small_reader [a0, a1, .un, .un, .un, .un, .un, .un, .un, .un, .un, .un]) (retQ [a0, a1] Q)) : WpX Zn (den_law_small_reader [a0, a1]) Q := wp_def Q 10 _ _ h
theorem k_law_small_reader {P : Program} {w : World} {K : PySem.W.Frag} {mg : Str → Option Value} {base : Heap} {f : Addr} {fd : FuncData} (B : Blt mg) (G : Glb K mg) (D : IsDef K mg "_law_small_reader" "_law_small_reader" st_law_small_reader ["state", "count"] f fd) (HW : Wd.P = P ∧ Wd.w = w) (K__law_draw : Kept P w K mg base CX0 1 "_law_draw" ["state", "limit"] den_law_draw) (K__law_product : Kept P w K mg base CX0 1 "_law_product" ["kind", "count", "x", "y"] den_law_product) : Kept P w K mg base CX0 2 "_law_small_reader" ["state", "count"] den_law_small_reader := by
  refine kept_of D sc_law_small_reader rfl fun cdv A outer s H E hr => ?_
  have hu65 : (A.deeper (envOfC "_law_small_reader" (defScope st_law_small_reader) s.heap.objs.size f cdv)).units + 65 < cLine := by have := hr.un; omega
  have hu1 : (A.deeper (envOfC "_law_small_reader" (defScope st_law_small_reader) s.heap.objs.size f cdv)).units + 1 < cLine := by omega
  exact (b_cons (s_asg (e_op ho_add od_add e_int (e_callI 0 K__law_draw rfl (hr.mono (by decide)) rfl (pv 0) (a_cons e_int a_nil))) (g_name 2 (pg_name (i := 2) sc_law_small_reader.nd rfl (by first | exact .inl rfl | exact .inr rfl))) (fun _ _ h1 h2 => ps_asg h1 h2))
      (b_cons (s_asg (e_callI 0 K__law_draw rfl (hr.mono (by decide)) rfl (pv 0) (a_cons e_int a_nil)) (g_name 3 (pg_name (i := 3) sc_law_small_reader.nd rfl (by first | exact .inl rfl | exact .inr rfl))) (fun _ _ h1 h2 => ps_asg h1 h2))
      (b_cons (s_asg (e_callI 0 K__law_draw rfl (hr.mono (by decide)) rfl (pv 0) (a_cons (e_var 2 (pv 2)) a_nil)) (g_name 4 (pg_name (i := 4) sc_law_small_reader.nd rfl (by first | exact .inl rfl | exact .inr rfl))) (fun _ _ h1 h2 => ps_asg h1 h2))
      (b_cons (s_new 5 (f_lc (fun _ h => pe_lc (own := [("x", 9)]) rfl sc_law_small_reader.nd h (blkOk_by rfl) (fun _ _ _ _ _ => pg_t (g_name 9 (pg_name (i := 9) sc_law_small_reader.nd rfl (by first | exact .inl rfl | exact .inr rfl)))) (fun _ _ _ _ _ => pts_y) (fun _ _ _ _ _ => pe_t (e_op op_mod od_mod (e_callT call_int1 cd_int rfl (B _ in_int) (by decide +kernel) (a_cons (e_op op_sub od_sub (e_var 9 (pv 9)) (e_var 4 (pv 4))) a_nil)) (e_var 2 (pv 2))))) (by decide) (i_rng1 rfl (B _ in_range) (a_cons (e_var 2 (pv 2)) a_nil))) (fun _ h => ps_set (i := 5) sc_law_small_reader.nd rfl (by first | exact .inl rfl | exact .inr rfl) h))
      (b_cons (s_asg (e_tupleOf (l_of (e_frz (f_lc (fun _ h => pe_lc (own := [("x", 9)]) rfl sc_law_small_reader.nd h (blkOk_by rfl) (fun _ _ _ _ _ => pg_t (g_name 9 (pg_name (i := 9) sc_law_small_reader.nd rfl (by first | exact .inl rfl | exact .inr rfl)))) (fun _ _ _ _ _ => pts_y) (fun _ _ _ _ _ => pe_t (e_tupleOf (l_of (e_frz (f_lc (fun _ h => pe_lc (own := [("y", 11)]) rfl sc_law_small_reader.nd h (blkOk_by rfl) (fun _ _ _ _ _ => pg_t (g_name 11 (pg_name (i := 11) sc_law_small_reader.nd rfl (by first | exact .inl rfl | exact .inr rfl)))) (fun _ _ _ _ _ => pts_y) (fun _ _ _ _ _ => pe_t (e_op op_mod od_mod (e_callT call_int1 cd_int rfl (B _ in_int) (by decide +kernel) (a_cons (e_op ho_add od_add (e_call K__law_product rfl (hr.mono (by decide)) rfl (a_cons (e_var 3 (pv 3)) (a_cons (e_var 2 (pv 2)) (a_cons (e_ixN 5 (pv 5) (e_var 9 (pv 9)) (fun _ _ => rfl)) (a_cons (e_ixN 5 (pv 5) (e_var 11 (pv 11)) (fun _ _ => rfl)) a_nil))))) (e_var 4 (pv 4))) a_nil)) (e_var 2 (pv 2))))) (by decide) (i_rng1 rfl (B _ in_range) (a_cons (e_var 2 (pv 2)) a_nil))))) rfl (B _ in_tuple)))) (by decide) (i_rng1 rfl (B _ in_range) (a_cons (e_var 2 (pv 2)) a_nil))))) rfl (B _ in_tuple)) (g_name 6 (pg_name (i := 6) sc_law_small_reader.nd rfl (by first | exact .inl rfl | exact .inr rfl))) (fun _ _ h1 h2 => ps_asg h1 h2))
      (b_cons (s_asg (e_tupleOf (l_of (e_frz (f_lc (fun _ h => pe_lc (own := [("k", 10)]) rfl sc_law_small_reader.nd h (blkOk_by rfl) (fun _ _ _ _ _ => pg_t (g_name 10 (pg_name (i := 10) sc_law_small_reader.nd rfl (by first | exact .inl rfl | exact .inr rfl)))) (fun _ _ _ _ _ => pts_y) (fun _ _ _ _ _ => pe_t (e_callI 0 K__law_draw rfl (hr.mono (by decide)) rfl (pv 0) (a_cons (e_var 2 (pv 2)) a_nil)))) (by decide) (i_rng1 rfl (B _ in_range) (a_cons (e_var 1 (pv 1)) a_nil))))) rfl (B _ in_tuple)) (g_name 7 (pg_name (i := 7) sc_law_small_reader.nd rfl (by first | exact .inl rfl | exact .inr rfl))) (fun _ _ h1 h2 => ps_asg h1 h2))
      (b_cons (s_asg (e_tupleOf (l_of (e_frz (f_lc (fun _ h => pe_lc (own := [("x", 9)]) rfl sc_law_small_reader.nd h (blkOk_by rfl) (fun _ _ _ _ _ => pg_t (g_name 9 (pg_name (i := 9) sc_law_small_reader.nd rfl (by first | exact .inl rfl | exact .inr rfl)))) (fun _ _ _ _ _ => pts_t (t_cmp (op_eqD hr.units) od_eq (e_callI 0 K__law_draw rfl (hr.mono (by decide)) rfl (pv 0) (a_cons e_int a_nil)) e_int (nomark _))) (fun _ _ _ _ _ => pe_t (e_var 9 (pv 9)))) (by decide) (i_rng1 rfl (B _ in_range) (a_cons (e_var 2 (pv 2)) a_nil))))) rfl (B _ in_tuple)) (g_name 8 (pg_name (i := 8) sc_law_small_reader.nd rfl (by first | exact .inl rfl | exact .inr rfl))) (fun _ _ h1 h2 => ps_asg h1 h2))
      (b_one (s_ret (e_tup (a_cons (e_var 4 (pv 4)) (a_cons (e_var 7 (pv 7)) (a_cons (e_var 6 (pv 6)) (a_cons (e_var 8 (pv 8)) a_nil))))))))))))))
/-! _law_machine -/
abbrev st_law_machine : Stmt := topS 18
theorem sc_law_machine : FnScope ["state", "most", "looks", "letters", "states", "look", "width", "outs", "many", "steps", "p", "u", "letter", "v", "choice", "move", "piece", "k"] ["state", "most", "looks"] (defScope st_law_machine) := ⟨rfl, rfl, rfl, by decide +kernel, rfl, by decide +kernel, by decide +kernel⟩
def body_law_machine : DEnv → Res Out := sSeq (sAsg (dOp oAdd (dC (.int 1)) (dCallI den_law_draw 0 (dCons (dC (.int 3)) (dNil)))) (setV 3)) (sSeq (sAsg (dOp oAdd (dC (.int 1)) (dCallI den_law_draw 0 (dCons (dVar 1) (dNil)))) (setV 4)) (sSeq (sAsg (dCallI den_law_small_reader 0 (dCons (dOp oAdd (dVar 3) (dC (.int 2))) (dNil))) (setV 5)) (sSeq (sIf (tOrD (tOf (dOp oEq (dVar 2) (dC (.int 1)))) (tOf (dOp oEq (dCallI den_law_draw 0 (dCons (dC (.int 2)) (dNil))) (dC (.int 1))))) (sAsg (dTup (dCons (dC (.int 0)) (dCons (dTupleOf (lOf (dOp oMul (dFrz (fLst (dCons (dC (.int 0)) (dNil)))) (dOp oAdd (dVar 3) (dC (.int 2)))))) (dCons (dTup (dCons (dTup (dCons (dC (.int 0)) (dNil))) (dNil))) (dCons (dTup (dNil)) (dNil)))))) (setV 5)) (sNx)) (sSeq (sAsg (dOp oAdd (dSl (dVar 5) (oNoPart) (oPart (dC (.int 3)))) (dTup (dCons (dTup (dNil)) (dNil)))) (setV 5)) (sSeq (sAsg (dCallI den_law_draw 0 (dCons (dC (.int 3)) (dNil))) (setV 6)) (sSeq (sAsg (dOp oIx (dFrz (fLst (dCons (dTup (dCons (dC (.int 0)) (dNil))) (dCons (dTup (dCons (dC (.int 0)) (dCons (dC (.int 1)) (dNil)))) (dCons (dTup (dCons (dC (.int 1)) (dCons (dC (.int 2)) (dNil)))) (dCons (dTup (dCons (dC (.int 0)) (dNil))) (dNil))))))) (dCallI den_law_draw 0 (dCons (dC (.int 4)) (dNil)))) (setV 7)) (sSeq (sAsg (dLen (lOf (dIxN 5 (dC (.int 2))))) (setV 8)) (sSeq (sNew 9 (fLst (dNil))) (sSeq (sFor (iRng rng1 (dCons (dVar 4) (dNil))) (setV 10) (sFor (iRng rng1 (dCons (dVar 8) (dNil))) (setV 11) (sFor (iRng rng1 (dCons (dOp oAdd (dVar 3) (dC (.int 2))) (dNil))) (setV 12) (sFor (iRng rng1 (dCons (dVar 8) (dNil))) (setV 13) (sSeq (sAsg (dCallI den_law_draw 0 (dCons (dC (.int 9)) (dNil))) (setV 14)) (sSeq (sAsg (dOp oIx (dFrz (fLst (dCons (dC (.str "right")) (dCons (dC (.str "right")) (dCons (dC (.str "left")) (dCons (dC (.str "stop")) (dCons (dC (.str "right")) (dCons (dC (.str "left")) (dCons (dC (.str "stop")) (dCons (dC (.str "right")) (dCons (dC (.str "none")) (dNil)))))))))))) (dVar 14)) (setV 15)) (sSeq (sIf (tAndD (tOf (dOp oEq (dVar 12) (dC (.int 1)))) (tOf (dOp oEq (dVar 15) (dC (.str "right"))))) (sAsg (dOp oIx (dFrz (fLst (dCons (dC (.str "stop")) (dCons (dC (.str "left")) (dNil))))) (dCallI den_law_draw 0 (dCons (dC (.int 2)) (dNil)))) (setV 15)) (sNx)) (sSeq (sAsg (dTupleOf (lOf (dFrz (fLc [17] (iRng rng1 (dCons (dCallI den_law_draw 0 (dCons (dOp oAdd (dVar 6) (dC (.int 1))) (dNil))) (dNil))) (setV 17) (tTrue) (dIxN 7 (dCallI den_law_draw 0 (dCons (dLen (lName 7)) (dNil)))))))) (setV 16)) (sIf (tOf (dOp oNe (dVar 15) (dC (.str "none")))) (sApp 9 (dTup (dCons (dVar 10) (dCons (dVar 11) (dCons (dVar 12) (dCons (dVar 13) (dCons (dVar 15) (dCons (dCallI den_law_draw 0 (dCons (dVar 4) (dNil))) (dCons (dVar 16) (dNil)))))))))) (sNx)))))))))) (sRet (dTup (dCons (dVar 3) (dCons (dVar 4) (dCons (dVar 5) (dCons (dVar 6) (dCons (dVar 7) (dCons (dTupleOf (lName 9)) (dNil))))))))))))))))))
def den_law_machine : DEnv → Res PyData := defD 15 body_law_machine
theorem wpd_law_machine (a0 a1 a2 : Cell) (Q : PyData → DEnv → Prop) (h : WpX Zn (body_law_machine [a0, a1, a2, .un, .un, .un, .un, .un, .un, .un, .un, .un, .un, .un, .un, .un, .un, .un]) (retQ [a0, a1, a2] Q)) : WpX Zn (den_law_machine [a0, a1, a2]) Q := wp_def Q 15 _ _ h
theorem k_law_machine {P : Program} {w : World} {K : PySem.W.Frag} {mg : Str → Option Value} {base : Heap} {f : Addr} {fd : FuncData} (B : Blt mg) (G : Glb K mg) (D : IsDef K mg "_law_machine" "_law_machine" st_law_machine ["state", "most", "looks"] f fd) (HW : Wd.P = P ∧ Wd.w = w) (K__law_small_reader : Kept P w K mg base CX0 2 "_law_small_reader" ["state", "count"] den_law_small_reader) (K__law_draw : Kept P w K mg base CX0 1 "_law_draw" ["state", "limit"] den_law_draw) : Kept P w K mg base CX0 3 "_law_machine" ["state", "most", "looks"] den_law_machine := by
  refine kept_of D sc_law_machine rfl fun cdv A outer s H E hr => ?_
  have hu65 : (A.deeper (envOfC "_law_machine" (defScope st_law_machine) s.heap.objs.size f cdv)).units + 65 < cLine := by have := hr.un; omega
  have hu1 : (A.deeper (envOfC "_law_machine" (defScope st_law_machine) s.heap.objs.size f cdv)).units + 1 < cLine := by omega
  exact (b_cons (s_asg (e_op ho_add od_add e_int (e_callI 0 K__law_draw rfl (hr.mono (by decide)) rfl (pv 0) (a_cons e_int a_nil))) (g_name 3 (pg_name (i := 3) sc_law_machine.nd rfl (by first | exact .inl rfl | exact .inr rfl))) (fun _ _ h1 h2 => ps_asg h1 h2))
      (b_cons (s_asg (e_op ho_add od_add e_int (e_callI 0 K__law_draw rfl (hr.mono (by decide)) rfl (pv 0) (a_cons (e_var 1 (pv 1)) a_nil))) (g_name 4 (pg_name (i := 4) sc_law_machine.nd rfl (by first | exact .inl rfl | exact .inr rfl))) (fun _ _ h1 h2 => ps_asg h1 h2))
      (b_cons (s_asg (e_callI 0 K__law_small_reader rfl (hr.mono (by decide)) rfl (pv 0) (a_cons (e_op ho_add od_add (e_var 3 (pv 3)) e_int) a_nil)) (g_name 5 (pg_name (i := 5) sc_law_machine.nd rfl (by first | exact .inl rfl | exact .inr rfl))) (fun _ _ h1 h2 => ps_asg h1 h2))
      (b_cons (s_if (w_pt (w_or (t_cmp (op_eqD hr.units) od_eq (e_var 2 (pv 2)) e_int (nomark _)) (w_or1 (t_cmp (op_eqD hr.units) od_eq (e_callI 0 K__law_draw rfl (hr.mono (by decide)) rfl (pv 0) (a_cons e_int a_nil)) e_int (nomark _))))) (b_one (s_asg (e_tup (a_cons e_int (a_cons (e_tupleOf (l_of (e_op ho_mul od_mul (e_frz (f_lst (a_cons e_int a_nil))) (e_op ho_add od_add (e_var 3 (pv 3)) e_int))) rfl (B _ in_tuple)) (a_cons (e_tup (a_cons (e_tup (a_cons e_int a_nil)) a_nil)) (a_cons (e_tup a_nil) a_nil))))) (g_name 5 (pg_name (i := 5) sc_law_machine.nd rfl (by first | exact .inl rfl | exact .inr rfl))) (fun _ _ h1 h2 => ps_asg h1 h2))) b_nil)
      (b_cons (s_asg (e_op ho_add od_add (e_sl (e_var 5 (pv 5)) o_none (o_some e_int)) (e_tup (a_cons (e_tup a_nil) a_nil))) (g_name 5 (pg_name (i := 5) sc_law_machine.nd rfl (by first | exact .inl rfl | exact .inr rfl))) (fun _ _ h1 h2 => ps_asg h1 h2))
      (b_cons (s_asg (e_callI 0 K__law_draw rfl (hr.mono (by decide)) rfl (pv 0) (a_cons e_int a_nil)) (g_name 6 (pg_name (i := 6) sc_law_machine.nd rfl (by first | exact .inl rfl | exact .inr rfl))) (fun _ _ h1 h2 => ps_asg h1 h2))
      (b_cons (s_asg (e_ix ho_ix od_ix (e_frz (f_lst (a_cons (e_tup (a_cons e_int a_nil)) (a_cons (e_tup (a_cons e_int (a_cons e_int a_nil))) (a_cons (e_tup (a_cons e_int (a_cons e_int a_nil))) (a_cons (e_tup (a_cons e_int a_nil)) a_nil)))))) (e_callI 0 K__law_draw rfl (hr.mono (by decide)) rfl (pv 0) (a_cons e_int a_nil)) (fun _ _ => rfl)) (g_name 7 (pg_name (i := 7) sc_law_machine.nd rfl (by first | exact .inl rfl | exact .inr rfl))) (fun _ _ h1 h2 => ps_asg h1 h2))
      (b_cons (s_asg (e_len (l_of (e_ixN 5 (pv 5) e_int (fun _ _ => rfl))) rfl (B _ in_len)) (g_name 8 (pg_name (i := 8) sc_law_machine.nd rfl (by first | exact .inl rfl | exact .inr rfl))) (fun _ _ h1 h2 => ps_asg h1 h2))
      (b_cons (s_new 9 (f_lst a_nil) (fun _ h => ps_set (i := 9) sc_law_machine.nd rfl (by first | exact .inl rfl | exact .inr rfl) h))
      (b_cons (s_for (fun _ _ _ h1 h2 h3 => ps_for PassesOwn.never rfl h1 h2 h3) (i_rng1 rfl (B _ in_range) (a_cons (e_var 4 (pv 4)) a_nil)) (g_name 10 (pg_name (i := 10) sc_law_machine.nd rfl (by first | exact .inl rfl | exact .inr rfl))) (b_one (s_for (fun _ _ _ h1 h2 h3 => ps_for PassesOwn.never rfl h1 h2 h3) (i_rng1 rfl (B _ in_range) (a_cons (e_var 8 (pv 8)) a_nil)) (g_name 11 (pg_name (i := 11) sc_law_machine.nd rfl (by first | exact .inl rfl | exact .inr rfl))) (b_one (s_for (fun _ _ _ h1 h2 h3 => ps_for PassesOwn.never rfl h1 h2 h3) (i_rng1 rfl (B _ in_range) (a_cons (e_op ho_add od_add (e_var 3 (pv 3)) e_int) a_nil)) (g_name 12 (pg_name (i := 12) sc_law_machine.nd rfl (by first | exact .inl rfl | exact .inr rfl))) (b_one (s_for (fun _ _ _ h1 h2 h3 => ps_for PassesOwn.never rfl h1 h2 h3) (i_rng1 rfl (B _ in_range) (a_cons (e_var 8 (pv 8)) a_nil)) (g_name 13 (pg_name (i := 13) sc_law_machine.nd rfl (by first | exact .inl rfl | exact .inr rfl))) (b_cons (s_asg (e_callI 0 K__law_draw rfl (hr.mono (by decide)) rfl (pv 0) (a_cons e_int a_nil)) (g_name 14 (pg_name (i := 14) sc_law_machine.nd rfl (by first | exact .inl rfl | exact .inr rfl))) (fun _ _ h1 h2 => ps_asg h1 h2))
      (b_cons (s_asg (e_ix ho_ix od_ix (e_frz (f_lst (a_cons e_str (a_cons e_str (a_cons e_str (a_cons e_str (a_cons e_str (a_cons e_str (a_cons e_str (a_cons e_str (a_cons e_str a_nil))))))))))) (e_var 14 (pv 14)) (fun _ _ => rfl)) (g_name 15 (pg_name (i := 15) sc_law_machine.nd rfl (by first | exact .inl rfl | exact .inr rfl))) (fun _ _ h1 h2 => ps_asg h1 h2))
      (b_cons (s_if (w_pt (w_and (t_cmp (op_eqD hr.units) od_eq (e_var 12 (pv 12)) e_int (nomark _)) (w_and1 (t_cmp (op_eqD hr.units) od_eq (e_var 15 (pv 15)) e_str (nomark _))))) (b_one (s_asg (e_ix ho_ix od_ix (e_frz (f_lst (a_cons e_str (a_cons e_str a_nil)))) (e_callI 0 K__law_draw rfl (hr.mono (by decide)) rfl (pv 0) (a_cons e_int a_nil)) (fun _ _ => rfl)) (g_name 15 (pg_name (i := 15) sc_law_machine.nd rfl (by first | exact .inl rfl | exact .inr rfl))) (fun _ _ h1 h2 => ps_asg h1 h2))) b_nil)
      (b_cons (s_asg (e_tupleOf (l_of (e_frz (f_lc (fun _ h => pe_lc (own := [("k", 17)]) rfl sc_law_machine.nd h (blkOk_by rfl) (fun _ _ _ _ _ => pg_t (g_name 17 (pg_name (i := 17) sc_law_machine.nd rfl (by first | exact .inl rfl | exact .inr rfl)))) (fun _ _ _ _ _ => pts_y) (fun _ _ _ _ _ => pe_t (e_ixN 7 (pv 7) (e_callI 0 K__law_draw rfl (hr.mono (by decide)) rfl (pv 0) (a_cons (e_len (l_name 7 (pv 7)) rfl (B _ in_len)) a_nil)) (fun _ _ => rfl)))) (by decide) (i_rng1 rfl (B _ in_range) (a_cons (e_callI 0 K__law_draw rfl (hr.mono (by decide)) rfl (pv 0) (a_cons (e_op ho_add od_add (e_var 6 (pv 6)) e_int) a_nil)) a_nil))))) rfl (B _ in_tuple)) (g_name 16 (pg_name (i := 16) sc_law_machine.nd rfl (by first | exact .inl rfl | exact .inr rfl))) (fun _ _ h1 h2 => ps_asg h1 h2))
      (b_one (s_if (t_cmp (op_neD hr.units) od_ne (e_var 15 (pv 15)) e_str (nomark _)) (b_one (s_app 9 (pv 9) (e_tup (a_cons (e_var 10 (pv 10)) (a_cons (e_var 11 (pv 11)) (a_cons (e_var 12 (pv 12)) (a_cons (e_var 13 (pv 13)) (a_cons (e_var 15 (pv 15)) (a_cons (e_callI 0 K__law_draw rfl (hr.mono (by decide)) rfl (pv 0) (a_cons (e_var 4 (pv 4)) a_nil)) (a_cons (e_var 16 (pv 16)) a_nil)))))))) (fun _ _ h1 h2 => ps_expr (pe_bm PySem.F.plainAttrs_list PySem.F.slot_list_append PySem.F.type_list_append mt_append h1 h2)))) b_nil)))))))))))))
      (b_one (s_ret (e_tup (a_cons (e_var 3 (pv 3)) (a_cons (e_var 4 (pv 4)) (a_cons (e_var 5 (pv 5)) (a_cons (e_var 6 (pv 6)) (a_cons (e_var 7 (pv 7)) (a_cons (e_tupleOf (l_name 9 (pv 9)) rfl (B _ in_tuple)) a_nil)))))))))))))))))))
/-! _law_word -/
abbrev st_law_word : Stmt := topS 15
theorem sc_law_word : FnScope ["state", "count", "most", "k"] ["state", "count", "most"] (defScope st_law_word) := ⟨rfl, rfl, rfl, by decide +kernel, rfl, by decide +kernel, by decide +kernel⟩
def body_law_word : DEnv → Res Out := sRet (dFrz (fLc [3] (iRng rng1 (dCons (dCallI den_law_draw 0 (dCons (dOp oAdd (dVar 2) (dC (.int 1))) (dNil))) (dNil))) (setV 3) (tTrue) (dCallI den_law_draw 0 (dCons (dVar 1) (dNil)))))
def den_law_word : DEnv → Res PyData := defD 1 body_law_word
theorem wpd_law_word (a0 a1 a2 : Cell) (Q : PyData → DEnv → Prop) (h : WpX Zn (body_law_word [a0, a1, a2, .un]) (retQ [a0, a1, a2] Q)) : WpX Zn (den_law_word [a0, a1, a2]) Q := wp_def Q 1 _ _ h
theorem k_law_word {P : Program} {w : World} {K : PySem.W.Frag} {mg : Str → Option Value} {base : Heap} {f : Addr} {fd : FuncData} (B : Blt mg) (G : Glb K mg) (D : IsDef K mg "_law_word" "_law_word" st_law_word ["state", "count", "most"] f fd) (HW : Wd.P = P ∧ Wd.w = w) (K__law_draw : Kept P w K mg base CX0 1 "_law_draw" ["state", "limit"] den_law_draw) : Kept P w K mg base CX0 2 "_law_word" ["state", "count", "most"] den_law_word := by
  refine kept_of D sc_law_word rfl fun cdv A outer s H E hr => ?_
  have hu65 : (A.deeper (envOfC "_law_word" (defScope st_law_word) s.heap.objs.size f cdv)).units + 65 < cLine := by have := hr.un; omega
  have hu1 : (A.deeper (envOfC "_law_word" (defScope st_law_word) s.heap.objs.size f cdv)).units + 1 < cLine := by omega
  exact (b_one (s_ret (e_frz (f_lc (fun _ h => pe_lc (own := [("k", 3)]) rfl sc_law_word.nd h (blkOk_by rfl) (fun _ _ _ _ _ => pg_t (g_name 3 (pg_name (i := 3) sc_law_word.nd rfl (by first | exact .inl rfl | exact .inr rfl)))) (fun _ _ _ _ _ => pts_y) (fun _ _ _ _ _ => pe_t (e_callI 0 K__law_draw rfl (hr.mono (by decide)) rfl (pv 0) (a_cons (e_var 1 (pv 1)) a_nil)))) (by decide) (i_rng1 rfl (B _ in_range) (a_cons (e_callI 0 K__law_draw rfl (hr.mono (by decide)) rfl (pv 0) (a_cons (e_op ho_add od_add (e_var 2 (pv 2)) e_int) a_nil)) a_nil))))))
/-! deeds_by_sight -/
abbrev stdeeds_by_sight : Stmt := topS 7
theorem scdeeds_by_sight : FnScope ["machine", "step"] ["machine"] (defScope stdeeds_by_sight) := ⟨rfl, rfl, rfl, by decide +kernel, rfl, by decide +kernel, by decide +kernel⟩
def bodydeeds_by_sight : DEnv → Res OD := fDcT [1] (iSeq (dIxN 0 (dC (.int 5)))) (setV 1) (tTrue) (dSlN (dVar 1) (oNoPart) (oPart (dC (.int 4)))) (dSl (dVar 1) (oPart (dC (.int 4))) (oNoPart))
def dendeeds_by_sight : DEnv → Res OD := defF 1 bodydeeds_by_sight
theorem wpddeeds_by_sight (a0 : Cell) (Q : OD → DEnv → Prop) (h : WpX Zn (bodydeeds_by_sight [a0, .un]) (retF [a0] Q)) : WpX Zn (dendeeds_by_sight [a0]) Q := wp_defF Q 1 _ _ h
theorem kdeeds_by_sight {P : Program} {w : World} {K : PySem.W.Frag} {mg : Str → Option Value} {base : Heap} {f : Addr} {fd : FuncData} (B : Blt mg) (G : Glb K mg) (D : IsDef K mg "deeds_by_sight" "deeds_by_sight" stdeeds_by_sight ["machine"] f fd) (HW : Wd.P = P ∧ Wd.w = w)  : KeptF P w K mg base CX0 1 "deeds_by_sight" ["machine"] dendeeds_by_sight := by
  refine keptF_of D scdeeds_by_sight rfl fun cdv A outer s H E hr => ?_
  have hu65 : (A.deeper (envOfC "deeds_by_sight" (defScope stdeeds_by_sight) s.heap.objs.size f cdv)).units + 65 < cLine := by have := hr.un; omega
  have hu1 : (A.deeper (envOfC "deeds_by_sight" (defScope stdeeds_by_sight) s.heap.objs.size f cdv)).units + 1 < cLine := by omega
  exact (fb_ret (f_dcT (fun _ h => pe_dcT (own := [("step", 1)]) (Nat.lt_of_le_of_lt (Nat.le_add_right _ 65) hu65) rfl scdeeds_by_sight.nd h (blkOk_by rfl) (fun _ _ _ _ _ => pg_t (g_name 1 (pg_name (i := 1) scdeeds_by_sight.nd rfl (by first | exact .inl rfl | exact .inr rfl)))) (fun _ _ _ _ _ => pts_y) (fun _ _ _ _ _ => pn_t (n_sl (e_var 1 (pv 1)) o_none (o_some e_int))) (fun _ _ _ _ _ => pe_t (e_sl (e_var 1 (pv 1)) (o_some e_int) o_none))) (by decide) (i_seq (e_ixN 0 (pv 0) e_int (fun _ _ => rfl)))))
/-! values_to_the_left -/
abbrev stvalues_to_the_left : Stmt := topS 1
theorem scvalues_to_the_left : FnScope ["reader", "row", "left", "_", "letters", "mul", "reached", "found", "letter"] ["reader", "row", "left"] (defScope stvalues_to_the_left) := ⟨rfl, rfl, rfl, by decide +kernel, rfl, by decide +kernel, by decide +kernel⟩
def bodyvalues_to_the_left : DEnv → Res Out := sSeq (sAsg (dVar 0) (gTupD 4 (gConsD (setV 3) (gConsD (setV 4) (gConsD (setV 5) (gConsD (setV 3) (gNilD))))))) (sSeq (sAsg (dVar 2) (setV 6)) (sSeq (sNew 7 (fLst (dNil))) (sSeq (sFor (iSeq (dVar 1)) (setV 8) (sSeq (sApp 7 (dVar 6)) (sAsg (dOp oIx (dIxN 5 (dVar 6)) (dIxN 4 (dVar 8))) (setV 6)))) (sFrz 7 (sRet (dVar 7))))))
def denvalues_to_the_left : DEnv → Res PyData := defD 6 bodyvalues_to_the_left
theorem wpdvalues_to_the_left (a0 a1 a2 : Cell) (Q : PyData → DEnv → Prop) (h : WpX Zn (bodyvalues_to_the_left [a0, a1, a2, .un, .un, .un, .un, .un, .un]) (retQ [a0, a1, a2] Q)) : WpX Zn (denvalues_to_the_left [a0, a1, a2]) Q := wp_def Q 6 _ _ h
theorem kvalues_to_the_left {P : Program} {w : World} {K : PySem.W.Frag} {mg : Str → Option Value} {base : Heap} {f : Addr} {fd : FuncData} (B : Blt mg) (G : Glb K mg) (D : IsDef K mg "values_to_the_left" "values_to_the_left" stvalues_to_the_left ["reader", "row", "left"] f fd) (HW : Wd.P = P ∧ Wd.w = w)  : Kept P w K mg base CX0 1 "values_to_the_left" ["reader", "row", "left"] denvalues_to_the_left := by
  refine kept_of D scvalues_to_the_left rfl fun cdv A outer s H E hr => ?_
  have hu65 : (A.deeper (envOfC "values_to_the_left" (defScope stvalues_to_the_left) s.heap.objs.size f cdv)).units + 65 < cLine := by have := hr.un; omega
  have hu1 : (A.deeper (envOfC "values_to_the_left" (defScope stvalues_to_the_left) s.heap.objs.size f cdv)).units + 1 < cLine := by omega
  exact (b_cons (s_asg (e_var 0 (pv 0)) (g_tup (n := 4) rfl (fun t h => pg_tup rfl h) (gs_cons (fun _ _ h1 h2 => pgs_cons h1 h2) (g_name 3 (pg_name (i := 3) scvalues_to_the_left.nd rfl (by first | exact .inl rfl | exact .inr rfl))) (gs_cons (fun _ _ h1 h2 => pgs_cons h1 h2) (g_name 4 (pg_name (i := 4) scvalues_to_the_left.nd rfl (by first | exact .inl rfl | exact .inr rfl))) (gs_cons (fun _ _ h1 h2 => pgs_cons h1 h2) (g_name 5 (pg_name (i := 5) scvalues_to_the_left.nd rfl (by first | exact .inl rfl | exact .inr rfl))) (gs_cons (fun _ _ h1 h2 => pgs_cons h1 h2) (g_name 3 (pg_name (i := 3) scvalues_to_the_left.nd rfl (by first | exact .inl rfl | exact .inr rfl))) gs_nil))))) (fun _ _ h1 h2 => ps_asg h1 h2))
      (b_cons (s_asg (e_var 2 (pv 2)) (g_name 6 (pg_name (i := 6) scvalues_to_the_left.nd rfl (by first | exact .inl rfl | exact .inr rfl))) (fun _ _ h1 h2 => ps_asg h1 h2))
      (b_cons (s_new 7 (f_lst a_nil) (fun _ h => ps_set (i := 7) scvalues_to_the_left.nd rfl (by first | exact .inl rfl | exact .inr rfl) h))
      (b_cons (s_for (fun _ _ _ h1 h2 h3 => ps_for PassesOwn.never rfl h1 h2 h3) (i_seq (e_var 1 (pv 1))) (g_name 8 (pg_name (i := 8) scvalues_to_the_left.nd rfl (by first | exact .inl rfl | exact .inr rfl))) (b_cons (s_app 7 (pv 7) (e_var 6 (pv 6)) (fun _ _ h1 h2 => ps_expr (pe_bm PySem.F.plainAttrs_list PySem.F.slot_list_append PySem.F.type_list_append mt_append h1 h2)))
      (b_one (s_asg (e_ix ho_ix od_ix (e_ixN 5 (pv 5) (e_var 6 (pv 6)) (fun _ _ => rfl)) (e_ixN 4 (pv 4) (e_var 8 (pv 8)) (fun _ _ => rfl)) (fun _ _ => rfl)) (g_name 6 (pg_name (i := 6) scvalues_to_the_left.nd rfl (by first | exact .inl rfl | exact .inr rfl))) (fun _ _ h1 h2 => ps_asg h1 h2)))))
      (b_one (s_frz 7 (s_ret (e_var 7 (pv 7)))))))))
/-! values_to_the_right -/
abbrev stvalues_to_the_right : Stmt := topS 2
theorem scvalues_to_the_right : FnScope ["reader", "row", "right", "_", "letters", "mul", "reached", "found", "letter"] ["reader", "row", "right"] (defScope stvalues_to_the_right) := ⟨rfl, rfl, rfl, by decide +kernel, rfl, by decide +kernel, by decide +kernel⟩
def bodyvalues_to_the_right : DEnv → Res Out := sSeq (sAsg (dVar 0) (gTupD 4 (gConsD (setV 3) (gConsD (setV 4) (gConsD (setV 5) (gConsD (setV 3) (gNilD))))))) (sSeq (sAsg (dVar 2) (setV 6)) (sSeq (sNew 7 (fLst (dNil))) (sSeq (sFor (iSeq (dRev (dVar 1))) (setV 8) (sSeq (sApp 7 (dVar 6)) (sAsg (dOp oIx (dIxN 5 (dIxN 4 (dVar 8))) (dVar 6)) (setV 6)))) (sFrz 7 (sRet (dRev (dVar 7)))))))
def denvalues_to_the_right : DEnv → Res PyData := defD 6 bodyvalues_to_the_right
theorem wpdvalues_to_the_right (a0 a1 a2 : Cell) (Q : PyData → DEnv → Prop) (h : WpX Zn (bodyvalues_to_the_right [a0, a1, a2, .un, .un, .un, .un, .un, .un]) (retQ [a0, a1, a2] Q)) : WpX Zn (denvalues_to_the_right [a0, a1, a2]) Q := wp_def Q 6 _ _ h
theorem kvalues_to_the_right {P : Program} {w : World} {K : PySem.W.Frag} {mg : Str → Option Value} {base : Heap} {f : Addr} {fd : FuncData} (B : Blt mg) (G : Glb K mg) (D : IsDef K mg "values_to_the_right" "values_to_the_right" stvalues_to_the_right ["reader", "row", "right"] f fd) (HW : Wd.P = P ∧ Wd.w = w)  : Kept P w K mg base CX0 1 "values_to_the_right" ["reader", "row", "right"] denvalues_to_the_right := by
  refine kept_of D scvalues_to_the_right rfl fun cdv A outer s H E hr => ?_
  have hu65 : (A.deeper (envOfC "values_to_the_right" (defScope stvalues_to_the_right) s.heap.objs.size f cdv)).units + 65 < cLine := by have := hr.un; omega
  have hu1 : (A.deeper (envOfC "values_to_the_right" (defScope stvalues_to_the_right) s.heap.objs.size f cdv)).units + 1 < cLine := by omega
  exact (b_cons (s_asg (e_var 0 (pv 0)) (g_tup (n := 4) rfl (fun t h => pg_tup rfl h) (gs_cons (fun _ _ h1 h2 => pgs_cons h1 h2) (g_name 3 (pg_name (i := 3) scvalues_to_the_right.nd rfl (by first | exact .inl rfl | exact .inr rfl))) (gs_cons (fun _ _ h1 h2 => pgs_cons h1 h2) (g_name 4 (pg_name (i := 4) scvalues_to_the_right.nd rfl (by first | exact .inl rfl | exact .inr rfl))) (gs_cons (fun _ _ h1 h2 => pgs_cons h1 h2) (g_name 5 (pg_name (i := 5) scvalues_to_the_right.nd rfl (by first | exact .inl rfl | exact .inr rfl))) (gs_cons (fun _ _ h1 h2 => pgs_cons h1 h2) (g_name 3 (pg_name (i := 3) scvalues_to_the_right.nd rfl (by first | exact .inl rfl | exact .inr rfl))) gs_nil))))) (fun _ _ h1 h2 => ps_asg h1 h2))
      (b_cons (s_asg (e_var 2 (pv 2)) (g_name 6 (pg_name (i := 6) scvalues_to_the_right.nd rfl (by first | exact .inl rfl | exact .inr rfl))) (fun _ _ h1 h2 => ps_asg h1 h2))
      (b_cons (s_new 7 (f_lst a_nil) (fun _ h => ps_set (i := 7) scvalues_to_the_right.nd rfl (by first | exact .inl rfl | exact .inr rfl) h))
      (b_cons (s_for (fun _ _ _ h1 h2 h3 => ps_for PassesOwn.never rfl h1 h2 h3) (i_seq (e_rev (e_var 1 (pv 1)))) (g_name 8 (pg_name (i := 8) scvalues_to_the_right.nd rfl (by first | exact .inl rfl | exact .inr rfl))) (b_cons (s_app 7 (pv 7) (e_var 6 (pv 6)) (fun _ _ h1 h2 => ps_expr (pe_bm PySem.F.plainAttrs_list PySem.F.slot_list_append PySem.F.type_list_append mt_append h1 h2)))
      (b_one (s_asg (e_ix ho_ix od_ix (e_ixN 5 (pv 5) (e_ixN 4 (pv 4) (e_var 8 (pv 8)) (fun _ _ => rfl)) (fun _ _ => rfl)) (e_var 6 (pv 6)) (fun _ _ => rfl)) (g_name 6 (pg_name (i := 6) scvalues_to_the_right.nd rfl (by first | exact .inl rfl | exact .inr rfl))) (fun _ _ h1 h2 => ps_asg h1 h2)))))
      (b_one (s_frz 7 (s_ret (e_rev (e_var 7 (pv 7))))))))))
/-! trail -/
abbrev sttrail : Stmt := topS 8
theorem sctrail : FnScope ["machine", "row", "around", "place", "state", "look", "deeds", "lefts", "rights", "taken", "before", "seen", "move", "after", "piece"] ["machine", "row", "around", "place", "state"] (defScope sttrail) := ⟨rfl, rfl, rfl, by decide +kernel, rfl, by decide +kernel, by decide +kernel⟩
def bodytrail : DEnv → Res Out := sSeq (sAsg (dIxN 0 (dC (.int 2))) (setV 5)) (sSeq (sNew 6 (dCallF dendeeds_by_sight (dCons (dVar 0) (dNil)))) (sSeq (sAsg (dCallV denvalues_to_the_left (dCons (dVar 5) (dCons (dVar 1) (dCons (dIxN 2 (dC (.int 0))) (dNil))))) (setV 7)) (sSeq (sAsg (dCallV denvalues_to_the_right (dCons (dVar 5) (dCons (dVar 1) (dCons (dIxN 2 (dC (.int 1))) (dNil))))) (setV 8)) (sSeq (sNew 9 (fLst (dNil))) (sSeq (sNew 10 (fNewS)) (sSeq (sWhile (tOf (dChain oLe oLt (dC (.int 0)) (dVar 3) (dLen (lName 1)))) (sSeq (sAsg (dTup (dCons (dVar 4) (dCons (dIxN 7 (dVar 3)) (dCons (dIxN 1 (dVar 3)) (dCons (dIxN 8 (dVar 3)) (dNil)))))) (setV 11)) (sSeq (sIf (tOrD (tOf (dTIn true 6 (dVar 11))) (tOf (dSIn false 10 (dTup (dCons (dVar 3) (dCons (dVar 4) (dNil))))))) (sRet (dC .none)) (sNx)) (sSeq (sDrop (dSAdd 10 (dTup (dCons (dVar 3) (dCons (dVar 4) (dNil)))))) (sSeq (sAsg (dTGet 6 (dVar 11)) (gTupD 3 (gConsD (setV 12) (gConsD (setV 13) (gConsD (setV 14) (gNilD)))))) (sSeq (sApp 9 (dTup (dCons (dVar 3) (dCons (dVar 4) (dCons (dVar 14) (dNil)))))) (sSeq (sIf (tOf (dOp oEq (dVar 12) (dC c_STOP))) (sFrz 9 (sRet (dTup (dCons (dC c_STOP) (dCons (dVar 13) (dCons (dVar 9) (dNil))))))) (sNx)) (sSeq (sAug 3 oAddI (dIf (tOf (dOp oEq (dVar 12) (dC c_RIGHT))) (dC (.int 1)) (dUn oNeg (dC (.int 1))))) (sAsg (dVar 13) (setV 4)))))))))) (sFrz 9 (sRet (dTup (dCons (dIf (tOf (dOp oLt (dVar 3) (dC (.int 0)))) (dC c_LEFT) (dC c_RIGHT)) (dCons (dVar 4) (dCons (dVar 9) (dNil)))))))))))))
def dentrail : DEnv → Res PyData := defD 10 bodytrail
theorem wpdtrail (a0 a1 a2 a3 a4 : Cell) (Q : PyData → DEnv → Prop) (h : WpX Zn (bodytrail [a0, a1, a2, a3, a4, .un, .un, .un, .un, .un, .un, .un, .un, .un, .un]) (retQ [a0, a1, a2, a3, a4] Q)) : WpX Zn (dentrail [a0, a1, a2, a3, a4]) Q := wp_def Q 10 _ _ h
theorem ktrail {P : Program} {w : World} {K : PySem.W.Frag} {mg : Str → Option Value} {base : Heap} {f : Addr} {fd : FuncData} (B : Blt mg) (G : Glb K mg) (D : IsDef K mg "trail" "trail" sttrail ["machine", "row", "around", "place", "state"] f fd) (HW : Wd.P = P ∧ Wd.w = w) (K_deeds_by_sight : KeptF P w K mg base CX0 1 "deeds_by_sight" ["machine"] dendeeds_by_sight) (K_values_to_the_left : Kept P w K mg base CX0 1 "values_to_the_left" ["reader", "row", "left"] denvalues_to_the_left) (K_values_to_the_right : Kept P w K mg base CX0 1 "values_to_the_right" ["reader", "row", "right"] denvalues_to_the_right) : Kept P w K mg base CX0 2 "trail" ["machine", "row", "around", "place", "state"] dentrail := by
  refine kept_of D sctrail rfl fun cdv A outer s H E hr => ?_
  have hu65 : (A.deeper (envOfC "trail" (defScope sttrail) s.heap.objs.size f cdv)).units + 65 < cLine := by have := hr.un; omega
  have hu1 : (A.deeper (envOfC "trail" (defScope sttrail) s.heap.objs.size f cdv)).units + 1 < cLine := by omega
  obtain ⟨u_STOP, v_STOP, g_STOP, r_STOP, d_STOP⟩ := G.STOP
  obtain ⟨u_LEFT, v_LEFT, g_LEFT, r_LEFT, d_LEFT⟩ := G.LEFT
  obtain ⟨u_RIGHT, v_RIGHT, g_RIGHT, r_RIGHT, d_RIGHT⟩ := G.RIGHT
  exact (b_cons (s_asg (e_ixN 0 (pv 0) e_int (fun _ _ => rfl)) (g_name 5 (pg_name (i := 5) sctrail.nd rfl (by first | exact .inl rfl | exact .inr rfl))) (fun _ _ h1 h2 => ps_asg h1 h2))
      (b_cons (s_new 6 (f_callF K_deeds_by_sight rfl (hr.mono (by decide)) rfl (a_cons (e_var 0 (pv 0)) a_nil)) (fun _ h => ps_set (i := 6) sctrail.nd rfl (by first | exact .inl rfl | exact .inr rfl) h))
      (b_cons (s_asg (e_call K_values_to_the_left rfl (hr.mono (by decide)) rfl (a_cons (e_var 5 (pv 5)) (a_cons (e_var 1 (pv 1)) (a_cons (e_ixN 2 (pv 2) e_int (fun _ _ => rfl)) a_nil)))) (g_name 7 (pg_name (i := 7) sctrail.nd rfl (by first | exact .inl rfl | exact .inr rfl))) (fun _ _ h1 h2 => ps_asg h1 h2))
      (b_cons (s_asg (e_call K_values_to_the_right rfl (hr.mono (by decide)) rfl (a_cons (e_var 5 (pv 5)) (a_cons (e_var 1 (pv 1)) (a_cons (e_ixN 2 (pv 2) e_int (fun _ _ => rfl)) a_nil)))) (g_name 8 (pg_name (i := 8) sctrail.nd rfl (by first | exact .inl rfl | exact .inr rfl))) (fun _ _ h1 h2 => ps_asg h1 h2))
      (b_cons (s_new 9 (f_lst a_nil) (fun _ h => ps_set (i := 9) sctrail.nd rfl (by first | exact .inl rfl | exact .inr rfl) h))
      (b_cons (s_new 10 (f_newS HW rfl (B _ in_set)) (fun _ h => ps_set (i := 10) sctrail.nd rfl (by first | exact .inl rfl | exact .inr rfl) h))
      (b_cons (s_while (fun _ _ h1 h2 => ps_while PassesOwn.never h1 h2) (t_chain od_le od_lt e_int (e_var 3 (pv 3)) (e_len (l_name 1 (pv 1)) rfl (B _ in_len)) (fun _ _ _ h1 h2 h3 => pt_chain op_le (ho_lt hr.units0) h1 h2 h3)) (b_cons (s_asg (e_tup (a_cons (e_var 4 (pv 4)) (a_cons (e_ixN 7 (pv 7) (e_var 3 (pv 3)) (fun _ _ => rfl)) (a_cons (e_ixN 1 (pv 1) (e_var 3 (pv 3)) (fun _ _ => rfl)) (a_cons (e_ixN 8 (pv 8) (e_var 3 (pv 3)) (fun _ _ => rfl)) a_nil))))) (g_name 11 (pg_name (i := 11) sctrail.nd rfl (by first | exact .inl rfl | exact .inr rfl))) (fun _ _ h1 h2 => ps_asg h1 h2))
      (b_cons (s_if (w_pt (w_or (t_tnotIn 6 hu1 (e_var 11 (pv 11)) (pv 6) rfl) (w_or1 (t_skin 10 HW hu65 (e_tup (a_cons (e_var 3 (pv 3)) (a_cons (e_var 4 (pv 4)) a_nil))) (pv 10) rfl)))) (b_one (s_ret e_non)) b_nil)
      (b_cons (s_expr (e_skadd 10 HW hu65 (pv 10) (e_tup (a_cons (e_var 3 (pv 3)) (a_cons (e_var 4 (pv 4)) a_nil))) ⟨rfl, rfl, rfl, rfl⟩))
      (b_cons (s_asg (e_tget 6 hu1 (pv 6) (e_var 11 (pv 11)) (fun _ _ => rfl)) (g_tup (n := 3) rfl (fun t h => pg_tup rfl h) (gs_cons (fun _ _ h1 h2 => pgs_cons h1 h2) (g_name 12 (pg_name (i := 12) sctrail.nd rfl (by first | exact .inl rfl | exact .inr rfl))) (gs_cons (fun _ _ h1 h2 => pgs_cons h1 h2) (g_name 13 (pg_name (i := 13) sctrail.nd rfl (by first | exact .inl rfl | exact .inr rfl))) (gs_cons (fun _ _ h1 h2 => pgs_cons h1 h2) (g_name 14 (pg_name (i := 14) sctrail.nd rfl (by first | exact .inl rfl | exact .inr rfl))) gs_nil)))) (fun _ _ h1 h2 => ps_asg h1 h2))
      (b_cons (s_app 9 (pv 9) (e_tup (a_cons (e_var 3 (pv 3)) (a_cons (e_var 4 (pv 4)) (a_cons (e_var 14 (pv 14)) a_nil)))) (fun _ _ h1 h2 => ps_expr (pe_bm PySem.F.plainAttrs_list PySem.F.slot_list_append PySem.F.type_list_append mt_append h1 h2)))
      (b_cons (s_if (t_cmp (op_eqD hr.units) od_eq (e_var 12 (pv 12)) (e_glob (pe_glob rfl g_STOP r_STOP) d_STOP) (nomark _)) (b_one (s_frz 9 (s_ret (e_tup (a_cons (e_glob (pe_glob rfl g_STOP r_STOP) d_STOP) (a_cons (e_var 13 (pv 13)) (a_cons (e_var 9 (pv 9)) a_nil))))))) b_nil)
      (b_cons (s_aug (g := fun i j => i + j) 3 oAddI_of (e_ifExp (t_cmp (op_eqD hr.units) od_eq (e_var 12 (pv 12)) (e_glob (pe_glob rfl g_RIGHT r_RIGHT) d_RIGHT) (nomark _)) e_int (e_un un_neg ud_neg e_int)) (fun _ h => ps_aug (i := 3) sctrail.nd rfl (by first | exact .inl rfl | exact .inr rfl) h ip_add))
      (b_one (s_asg (e_var 13 (pv 13)) (g_name 4 (pg_name (i := 4) sctrail.nd rfl (by first | exact .inl rfl | exact .inr rfl))) (fun _ _ h1 h2 => ps_asg h1 h2)))))))))))
      (b_one (s_frz 9 (s_ret (e_tup (a_cons (e_ifExp (t_cmp (ho_lt hr.units0) od_lt (e_var 3 (pv 3)) e_int (nomark _)) (e_glob (pe_glob rfl g_LEFT r_LEFT) d_LEFT) (e_glob (pe_glob rfl g_RIGHT r_RIGHT) d_RIGHT)) (a_cons (e_var 4 (pv 4)) (a_cons (e_var 9 (pv 9)) a_nil))))))))))))))
/-! deed -/
abbrev stdeed : Stmt := topS 11
theorem scdeed : FnScope ["machine", "row", "left", "right", "side", "state", "place", "found", "end", "after", "taken", "written", "_", "piece", "letter"] ["machine", "row", "left", "right", "side", "state"] (defScope stdeed) := ⟨rfl, rfl, rfl, by decide +kernel, rfl, by decide +kernel, by decide +kernel⟩
def bodydeed : DEnv → Res Out := sSeq (sAsg (dIf (tOf (dOp oEq (dVar 4) (dC c_LEFT))) (dC (.int 0)) (dOp oSub (dLen (lName 1)) (dC (.int 1)))) (setV 6)) (sSeq (sAsg (dCallV dentrail (dCons (dVar 0) (dCons (dVar 1) (dCons (dTup (dCons (dVar 2) (dCons (dVar 3) (dNil)))) (dCons (dVar 6) (dCons (dVar 5) (dNil))))))) (setV 7)) (sSeq (sIf (tOf (dOp oIsN (dVar 7) (dC .none))) (sRet (dC .none)) (sNx)) (sSeq (sAsg (dVar 7) (gTupD 3 (gConsD (setV 8) (gConsD (setV 9) (gConsD (setV 10) (gNilD)))))) (sSeq (sAsg (dTupleOf (lOf (dFrz (fLc2 [12, 13, 14] [14] (iSeq (dVar 10)) (gTupD 3 (gConsD (setV 12) (gConsD (setV 12) (gConsD (setV 13) (gNilD))))) (tTrue) (iSeq (dVar 13)) (setV 14) (tTrue) (dVar 14))))) (setV 11)) (sRet (dIf (tOf (dOp oEq (dVar 8) (dC c_STOP))) (dTup (dCons (dC c_STOP) (dCons (dVar 11) (dNil)))) (dTup (dCons (dC c_OUT) (dCons (dVar 8) (dCons (dVar 9) (dCons (dVar 11) (dNil))))))))))))
def dendeed : DEnv → Res PyData := defD 9 bodydeed
theorem wpddeed (a0 a1 a2 a3 a4 a5 : Cell) (Q : PyData → DEnv → Prop) (h : WpX Zn (bodydeed [a0, a1, a2, a3, a4, a5, .un, .un, .un, .un, .un, .un, .un, .un, .un]) (retQ [a0, a1, a2, a3, a4, a5] Q)) : WpX Zn (dendeed [a0, a1, a2, a3, a4, a5]) Q := wp_def Q 9 _ _ h
theorem kdeed {P : Program} {w : World} {K : PySem.W.Frag} {mg : Str → Option Value} {base : Heap} {f : Addr} {fd : FuncData} (B : Blt mg) (G : Glb K mg) (D : IsDef K mg "deed" "deed" stdeed ["machine", "row", "left", "right", "side", "state"] f fd) (HW : Wd.P = P ∧ Wd.w = w) (K_trail : Kept P w K mg base CX0 2 "trail" ["machine", "row", "around", "place", "state"] dentrail) : Kept P w K mg base CX0 3 "deed" ["machine", "row", "left", "right", "side", "state"] dendeed := by
  refine kept_of D scdeed rfl fun cdv A outer s H E hr => ?_
  have hu65 : (A.deeper (envOfC "deed" (defScope stdeed) s.heap.objs.size f cdv)).units + 65 < cLine := by have := hr.un; omega
  have hu1 : (A.deeper (envOfC "deed" (defScope stdeed) s.heap.objs.size f cdv)).units + 1 < cLine := by omega
  obtain ⟨u_STOP, v_STOP, g_STOP, r_STOP, d_STOP⟩ := G.STOP
  obtain ⟨u_LEFT, v_LEFT, g_LEFT, r_LEFT, d_LEFT⟩ := G.LEFT
  obtain ⟨u_OUT, v_OUT, g_OUT, r_OUT, d_OUT⟩ := G.OUT
  exact (b_cons (s_asg (e_ifExp (t_cmp (op_eqD hr.units) od_eq (e_var 4 (pv 4)) (e_glob (pe_glob rfl g_LEFT r_LEFT) d_LEFT) (nomark _)) e_int (e_op op_sub od_sub (e_len (l_name 1 (pv 1)) rfl (B _ in_len)) e_int)) (g_name 6 (pg_name (i := 6) scdeed.nd rfl (by first | exact .inl rfl | exact .inr rfl))) (fun _ _ h1 h2 => ps_asg h1 h2))
      (b_cons (s_asg (e_call K_trail rfl (hr.mono (by decide)) rfl (a_cons (e_var 0 (pv 0)) (a_cons (e_var 1 (pv 1)) (a_cons (e_tup (a_cons (e_var 2 (pv 2)) (a_cons (e_var 3 (pv 3)) a_nil))) (a_cons (e_var 6 (pv 6)) (a_cons (e_var 5 (pv 5)) a_nil)))))) (g_name 7 (pg_name (i := 7) scdeed.nd rfl (by first | exact .inl rfl | exact .inr rfl))) (fun _ _ h1 h2 => ps_asg h1 h2))
      (b_cons (s_if (t_cmp op_isN od_isN (e_var 7 (pv 7)) e_non (nomark _)) (b_one (s_ret e_non)) b_nil)
      (b_cons (s_asg (e_var 7 (pv 7)) (g_tup (n := 3) rfl (fun t h => pg_tup rfl h) (gs_cons (fun _ _ h1 h2 => pgs_cons h1 h2) (g_name 8 (pg_name (i := 8) scdeed.nd rfl (by first | exact .inl rfl | exact .inr rfl))) (gs_cons (fun _ _ h1 h2 => pgs_cons h1 h2) (g_name 9 (pg_name (i := 9) scdeed.nd rfl (by first | exact .inl rfl | exact .inr rfl))) (gs_cons (fun _ _ h1 h2 => pgs_cons h1 h2) (g_name 10 (pg_name (i := 10) scdeed.nd rfl (by first | exact .inl rfl | exact .inr rfl))) gs_nil)))) (fun _ _ h1 h2 => ps_asg h1 h2))
      (b_cons (s_asg (e_tupleOf (l_of (e_frz (f_lc2 (fun _ h => pe_lc2 (own := [("_", 12), ("piece", 13), ("letter", 14)]) (vs1 := [14]) rfl scdeed.nd h (blkOk_by rfl) (by decide) (fun _ _ _ _ _ => pg_t (g_tup (n := 3) rfl (fun t h => pg_tup rfl h) (gs_cons (fun _ _ h1 h2 => pgs_cons h1 h2) (g_name 12 (pg_name (i := 12) scdeed.nd rfl (by first | exact .inl rfl | exact .inr rfl))) (gs_cons (fun _ _ h1 h2 => pgs_cons h1 h2) (g_name 12 (pg_name (i := 12) scdeed.nd rfl (by first | exact .inl rfl | exact .inr rfl))) (gs_cons (fun _ _ h1 h2 => pgs_cons h1 h2) (g_name 13 (pg_name (i := 13) scdeed.nd rfl (by first | exact .inl rfl | exact .inr rfl))) gs_nil))))) (fun _ _ _ _ _ => pts_y) (fun _ _ _ _ _ => pi_t (i_seq (e_var 13 (pv 13)))) (fun _ _ _ _ _ => pg_t (g_name 14 (pg_name (i := 14) scdeed.nd rfl (by first | exact .inl rfl | exact .inr rfl)))) (fun _ _ _ _ _ => pts_y) (fun _ _ _ _ _ => pe_t (e_var 14 (pv 14)))) (by decide) (by decide) (by decide) (i_seq (e_var 10 (pv 10)))))) rfl (B _ in_tuple)) (g_name 11 (pg_name (i := 11) scdeed.nd rfl (by first | exact .inl rfl | exact .inr rfl))) (fun _ _ h1 h2 => ps_asg h1 h2))
      (b_one (s_ret (e_ifExp (t_cmp (op_eqD hr.units) od_eq (e_var 8 (pv 8)) (e_glob (pe_glob rfl g_STOP r_STOP) d_STOP) (nomark _)) (e_tup (a_cons (e_glob (pe_glob rfl g_STOP r_STOP) d_STOP) (a_cons (e_var 11 (pv 11)) a_nil))) (e_tup (a_cons (e_glob (pe_glob rfl g_OUT r_OUT) d_OUT) (a_cons (e_var 8 (pv 8)) (a_cons (e_var 9 (pv 9)) (a_cons (e_var 11 (pv 11)) a_nil)))))))))))))
/-! _law_worth -/
abbrev st_law_worth : Stmt := topS 16
theorem sc_law_worth : FnScope ["reader", "row", "now", "letter"] ["reader", "row"] (defScope st_law_worth) := ⟨rfl, rfl, rfl, by decide +kernel, rfl, by decide +kernel, by decide +kernel⟩
def body_law_worth : DEnv → Res Out := sSeq (sAsg (dIxN 0 (dC (.int 0))) (setV 2)) (sSeq (sFor (iSeq (dVar 1)) (setV 3) (sAsg (dOp oIx (dOp oIx (dIxN 0 (dC (.int 2))) (dVar 2)) (dOp oIx (dIxN 0 (dC (.int 1))) (dVar 3))) (setV 2))) (sRet (dVar 2)))
def den_law_worth : DEnv → Res PyData := defD 2 body_law_worth
theorem wpd_law_worth (a0 a1 : Cell) (Q : PyData → DEnv → Prop) (h : WpX Zn (body_law_worth [a0, a1, .un, .un]) (retQ [a0, a1] Q)) : WpX Zn (den_law_worth [a0, a1]) Q := wp_def Q 2 _ _ h
theorem k_law_worth {P : Program} {w : World} {K : PySem.W.Frag} {mg : Str → Option Value} {base : Heap} {f : Addr} {fd : FuncData} (B : Blt mg) (G : Glb K mg) (D : IsDef K mg "_law_worth" "_law_worth" st_law_worth ["reader", "row"] f fd) (HW : Wd.P = P ∧ Wd.w = w)  : Kept P w K mg base CX0 1 "_law_worth" ["reader", "row"] den_law_worth := by
  refine kept_of D sc_law_worth rfl fun cdv A outer s H E hr => ?_
  have hu65 : (A.deeper (envOfC "_law_worth" (defScope st_law_worth) s.heap.objs.size f cdv)).units + 65 < cLine := by have := hr.un; omega
  have hu1 : (A.deeper (envOfC "_law_worth" (defScope st_law_worth) s.heap.objs.size f cdv)).units + 1 < cLine := by omega
  exact (b_cons (s_asg (e_ixN 0 (pv 0) e_int (fun _ _ => rfl)) (g_name 2 (pg_name (i := 2) sc_law_worth.nd rfl (by first | exact .inl rfl | exact .inr rfl))) (fun _ _ h1 h2 => ps_asg h1 h2))
      (b_cons (s_for (fun _ _ _ h1 h2 h3 => ps_for PassesOwn.never rfl h1 h2 h3) (i_seq (e_var 1 (pv 1))) (g_name 3 (pg_name (i := 3) sc_law_worth.nd rfl (by first | exact .inl rfl | exact .inr rfl))) (b_one (s_asg (e_ix ho_ix od_ix (e_ix ho_ix od_ix (e_ixN 0 (pv 0) e_int (fun _ _ => rfl)) (e_var 2 (pv 2)) (fun _ _ => rfl)) (e_ix ho_ix od_ix (e_ixN 0 (pv 0) e_int (fun _ _ => rfl)) (e_var 3 (pv 3)) (fun _ _ => rfl)) (fun _ _ => rfl)) (g_name 2 (pg_name (i := 2) sc_law_worth.nd rfl (by first | exact .inl rfl | exact .inr rfl))) (fun _ _ h1 h2 => ps_asg h1 h2))))
      (b_one (s_ret (e_var 2 (pv 2))))))
/-! _law_goes -/
abbrev st_law_goes : Stmt := topS 19
theorem sc_law_goes : FnScope ["machine", "row", "left", "right", "side", "start", "look", "table", "step", "place", "now", "told", "k", "u", "v", "j"] ["machine", "row", "left", "right", "side", "start"] (defScope st_law_goes) := ⟨rfl, rfl, rfl, by decide +kernel, rfl, by decide +kernel, by decide +kernel⟩
def body_law_goes : DEnv → Res Out := sSeq (sAsg (dIxN 0 (dC (.int 2))) (setV 6)) (sSeq (sNew 7 (fNewT)) (sSeq (sFor (iSeq (dIxN 0 (dC (.int 5)))) (setV 8) (sTPut 7 (dVar 8) (dSlN (dVar 8) (oNoPart) (oPart (dC (.int 4)))))) (sSeq (sIf (tOf (dOp oEq (dLen (lName 1)) (dC (.int 0)))) (sRet (dFrz (fLst (dCons (dTup (dCons (dC (.str "out")) (dCons (dOp oIx (dFrz (fLst (dCons (dC (.str "left")) (dCons (dC (.str "right")) (dNil))))) (dCall oInt (dCons (dOp oEq (dVar 4) (dC (.str "left"))) (dNil)))) (dCons (dVar 5) (dNil))))) (dCons (dFrz (fLst (dNil))) (dNil)))))) (sNx)) (sSeq (sAsg (dC (.int 0)) (setV 9)) (sSeq (sIf (tOf (dOp oEq (dVar 4) (dC (.str "right")))) (sAsg (dOp oSub (dLen (lName 1)) (dC (.int 1))) (setV 9)) (sNx)) (sSeq (sAsg (dVar 5) (setV 10)) (sSeq (sAsg (dFrz (fLst (dNil))) (setV 11)) (sSeq (sFor (iRng rng1 (dCons (dOp oAdd (dOp oMul (dIxN 0 (dC (.int 1))) (dLen (lName 1))) (dC (.int 1))) (dNil))) (setV 12) (sSeq (sAsg (dOp oIx (dOp oIx (dIxN 6 (dC (.int 2))) (dVar 2)) (dCallV den_law_worth (dCons (dVar 6) (dCons (dSl (dVar 1) (oNoPart) (oPart (dVar 9))) (dNil))))) (setV 13)) (sSeq (sAsg (dOp oIx (dOp oIx (dIxN 6 (dC (.int 2))) (dCallV den_law_worth (dCons (dVar 6) (dCons (dSl (dVar 1) (oPart (dOp oAdd (dVar 9) (dC (.int 1)))) (oNoPart)) (dNil))))) (dVar 3)) (setV 14)) (sSeq (sAsg (dTGet1 7 (dTup (dCons (dVar 10) (dCons (dVar 13) (dCons (dIxN 1 (dVar 9)) (dCons (dVar 14) (dNil))))))) (setV 8)) (sSeq (sIf (tOf (dOp oIsN (dVar 8) (dC .none))) (sRet (dFrz (fLst (dCons (dC .none) (dCons (dFrz (fLst (dNil))) (dNil)))))) (sNx)) (sSeq (sAsg (dOp oAdd (dVar 11) (dFrz (fLc [15] (iRng rng1 (dCons (dLen (lOf (dIxN 8 (dC (.int 6))))) (dNil))) (setV 15) (tTrue) (dTup (dCons (dVar 9) (dCons (dVar 10) (dCons (dVar 15) (dCons (dOp oIx (dIxN 8 (dC (.int 6))) (dVar 15)) (dNil))))))))) (setV 11)) (sSeq (sIf (tOf (dOp oEq (dIxN 8 (dC (.int 4))) (dC (.str "stop")))) (sRet (dFrz (fLst (dCons (dTup (dCons (dC (.str "stop")) (dNil))) (dCons (dVar 11) (dNil)))))) (sNx)) (sSeq (sAsg (dIxN 8 (dC (.int 5))) (setV 10)) (sSeq (sIf (tOf (dOp oEq (dIxN 8 (dC (.int 4))) (dC (.str "left")))) (sAsg (dOp oSub (dVar 9) (dC (.int 1))) (setV 9)) (sAsg (dOp oAdd (dVar 9) (dC (.int 1))) (setV 9))) (sIf (tOrD (tOf (dOp oLt (dVar 9) (dC (.int 0)))) (tOf (dOp oEq (dVar 9) (dLen (lName 1))))) (sRet (dFrz (fLst (dCons (dTup (dCons (dC (.str "out")) (dCons (dIxN 8 (dC (.int 4))) (dCons (dVar 10) (dNil))))) (dCons (dVar 11) (dNil)))))) (sNx))))))))))) (sRet (dFrz (fLst (dCons (dC .none) (dCons (dFrz (fLst (dNil))) (dNil))))))))))))))
def den_law_goes : DEnv → Res PyData := defD 10 body_law_goes
theorem wpd_law_goes (a0 a1 a2 a3 a4 a5 : Cell) (Q : PyData → DEnv → Prop) (h : WpX Zn (body_law_goes [a0, a1, a2, a3, a4, a5, .un, .un, .un, .un, .un, .un, .un, .un, .un, .un]) (retQ [a0, a1, a2, a3, a4, a5] Q)) : WpX Zn (den_law_goes [a0, a1, a2, a3, a4, a5]) Q := wp_def Q 10 _ _ h
theorem k_law_goes {P : Program} {w : World} {K : PySem.W.Frag} {mg : Str → Option Value} {base : Heap} {f : Addr} {fd : FuncData} (B : Blt mg) (G : Glb K mg) (D : IsDef K mg "_law_goes" "_law_goes" st_law_goes ["machine", "row", "left", "right", "side", "start"] f fd) (HW : Wd.P = P ∧ Wd.w = w) (K__law_worth : Kept P w K mg base CX0 1 "_law_worth" ["reader", "row"] den_law_worth) : Kept P w K mg base CX0 2 "_law_goes" ["machine", "row", "left", "right", "side", "start"] den_law_goes := by
  refine kept_of D sc_law_goes rfl fun cdv A outer s H E hr => ?_
  have hu65 : (A.deeper (envOfC "_law_goes" (defScope st_law_goes) s.heap.objs.size f cdv)).units + 65 < cLine := by have := hr.un; omega
  have hu1 : (A.deeper (envOfC "_law_goes" (defScope st_law_goes) s.heap.objs.size f cdv)).units + 1 < cLine := by omega
  exact (b_cons (s_asg (e_ixN 0 (pv 0) e_int (fun _ _ => rfl)) (g_name 6 (pg_name (i := 6) sc_law_goes.nd rfl (by first | exact .inl rfl | exact .inr rfl))) (fun _ _ h1 h2 => ps_asg h1 h2))
      (b_cons (s_new 7 f_newT (fun _ h => ps_set (i := 7) sc_law_goes.nd rfl (by first | exact .inl rfl | exact .inr rfl) h))
      (b_cons (s_for (fun _ _ _ h1 h2 h3 => ps_for PassesOwn.never rfl h1 h2 h3) (i_seq (e_ixN 0 (pv 0) e_int (fun _ _ => rfl))) (g_name 8 (pg_name (i := 8) sc_law_goes.nd rfl (by first | exact .inl rfl | exact .inr rfl))) (b_one (s_tput 7 hu1 (pv 7) (e_var 8 (pv 8)) (n_sl (e_var 8 (pv 8)) o_none (o_some e_int)))))
      (b_cons (s_if (t_cmp (op_eqD hr.units) od_eq (e_len (l_name 1 (pv 1)) rfl (B _ in_len)) e_int (nomark _)) (b_one (s_ret (e_frz (f_lst (a_cons (e_tup (a_cons e_str (a_cons (e_ix ho_ix od_ix (e_frz (f_lst (a_cons e_str (a_cons e_str a_nil)))) (e_callT call_int1 cd_int rfl (B _ in_int) (by decide +kernel) (a_cons (e_cmp (op_eqD hr.units) od_eq (e_var 4 (pv 4)) e_str (nomark _)) a_nil)) (fun _ _ => rfl)) (a_cons (e_var 5 (pv 5)) a_nil)))) (a_cons (e_frz (f_lst a_nil)) a_nil)))))) b_nil)
      (b_cons (s_asg e_int (g_name 9 (pg_name (i := 9) sc_law_goes.nd rfl (by first | exact .inl rfl | exact .inr rfl))) (fun _ _ h1 h2 => ps_asg h1 h2))
      (b_cons (s_if (t_cmp (op_eqD hr.units) od_eq (e_var 4 (pv 4)) e_str (nomark _)) (b_one (s_asg (e_op op_sub od_sub (e_len (l_name 1 (pv 1)) rfl (B _ in_len)) e_int) (g_name 9 (pg_name (i := 9) sc_law_goes.nd rfl (by first | exact .inl rfl | exact .inr rfl))) (fun _ _ h1 h2 => ps_asg h1 h2))) b_nil)
      (b_cons (s_asg (e_var 5 (pv 5)) (g_name 10 (pg_name (i := 10) sc_law_goes.nd rfl (by first | exact .inl rfl | exact .inr rfl))) (fun _ _ h1 h2 => ps_asg h1 h2))
      (b_cons (s_asg (e_frz (f_lst a_nil)) (g_name 11 (pg_name (i := 11) sc_law_goes.nd rfl (by first | exact .inl rfl | exact .inr rfl))) (fun _ _ h1 h2 => ps_asg h1 h2))
      (b_cons (s_for (fun _ _ _ h1 h2 h3 => ps_for PassesOwn.never rfl h1 h2 h3) (i_rng1 rfl (B _ in_range) (a_cons (e_op ho_add od_add (e_op ho_mul od_mul (e_ixN 0 (pv 0) e_int (fun _ _ => rfl)) (e_len (l_name 1 (pv 1)) rfl (B _ in_len))) e_int) a_nil)) (g_name 12 (pg_name (i := 12) sc_law_goes.nd rfl (by first | exact .inl rfl | exact .inr rfl))) (b_cons (s_asg (e_ix ho_ix od_ix (e_ix ho_ix od_ix (e_ixN 6 (pv 6) e_int (fun _ _ => rfl)) (e_var 2 (pv 2)) (fun _ _ => rfl)) (e_call K__law_worth rfl (hr.mono (by decide)) rfl (a_cons (e_var 6 (pv 6)) (a_cons (e_sl (e_var 1 (pv 1)) o_none (o_some (e_var 9 (pv 9)))) a_nil))) (fun _ _ => rfl)) (g_name 13 (pg_name (i := 13) sc_law_goes.nd rfl (by first | exact .inl rfl | exact .inr rfl))) (fun _ _ h1 h2 => ps_asg h1 h2))
      (b_cons (s_asg (e_ix ho_ix od_ix (e_ix ho_ix od_ix (e_ixN 6 (pv 6) e_int (fun _ _ => rfl)) (e_call K__law_worth rfl (hr.mono (by decide)) rfl (a_cons (e_var 6 (pv 6)) (a_cons (e_sl (e_var 1 (pv 1)) (o_some (e_op ho_add od_add (e_var 9 (pv 9)) e_int)) o_none) a_nil))) (fun _ _ => rfl)) (e_var 3 (pv 3)) (fun _ _ => rfl)) (g_name 14 (pg_name (i := 14) sc_law_goes.nd rfl (by first | exact .inl rfl | exact .inr rfl))) (fun _ _ h1 h2 => ps_asg h1 h2))
      (b_cons (s_asg (e_tget1 7 hu1 (pv 7) (e_tup (a_cons (e_var 10 (pv 10)) (a_cons (e_var 13 (pv 13)) (a_cons (e_ixN 1 (pv 1) (e_var 9 (pv 9)) (fun _ _ => rfl)) (a_cons (e_var 14 (pv 14)) a_nil))))) ⟨rfl, rfl, rfl, rfl⟩) (g_name 8 (pg_name (i := 8) sc_law_goes.nd rfl (by first | exact .inl rfl | exact .inr rfl))) (fun _ _ h1 h2 => ps_asg h1 h2))
      (b_cons (s_if (t_cmp op_isN od_isN (e_var 8 (pv 8)) e_non (nomark _)) (b_one (s_ret (e_frz (f_lst (a_cons e_non (a_cons (e_frz (f_lst a_nil)) a_nil)))))) b_nil)
      (b_cons (s_asg (e_op ho_add od_add (e_var 11 (pv 11)) (e_frz (f_lc (fun _ h => pe_lc (own := [("j", 15)]) rfl sc_law_goes.nd h (blkOk_by rfl) (fun _ _ _ _ _ => pg_t (g_name 15 (pg_name (i := 15) sc_law_goes.nd rfl (by first | exact .inl rfl | exact .inr rfl)))) (fun _ _ _ _ _ => pts_y) (fun _ _ _ _ _ => pe_t (e_tup (a_cons (e_var 9 (pv 9)) (a_cons (e_var 10 (pv 10)) (a_cons (e_var 15 (pv 15)) (a_cons (e_ix ho_ix od_ix (e_ixN 8 (pv 8) e_int (fun _ _ => rfl)) (e_var 15 (pv 15)) (fun _ _ => rfl)) a_nil))))))) (by decide) (i_rng1 rfl (B _ in_range) (a_cons (e_len (l_of (e_ixN 8 (pv 8) e_int (fun _ _ => rfl))) rfl (B _ in_len)) a_nil))))) (g_name 11 (pg_name (i := 11) sc_law_goes.nd rfl (by first | exact .inl rfl | exact .inr rfl))) (fun _ _ h1 h2 => ps_asg h1 h2))
      (b_cons (s_if (t_cmp (op_eqD hr.units) od_eq (e_ixN 8 (pv 8) e_int (fun _ _ => rfl)) e_str (nomark _)) (b_one (s_ret (e_frz (f_lst (a_cons (e_tup (a_cons e_str a_nil)) (a_cons (e_var 11 (pv 11)) a_nil)))))) b_nil)
      (b_cons (s_asg (e_ixN 8 (pv 8) e_int (fun _ _ => rfl)) (g_name 10 (pg_name (i := 10) sc_law_goes.nd rfl (by first | exact .inl rfl | exact .inr rfl))) (fun _ _ h1 h2 => ps_asg h1 h2))
      (b_cons (s_if (t_cmp (op_eqD hr.units) od_eq (e_ixN 8 (pv 8) e_int (fun _ _ => rfl)) e_str (nomark _)) (b_one (s_asg (e_op op_sub od_sub (e_var 9 (pv 9)) e_int) (g_name 9 (pg_name (i := 9) sc_law_goes.nd rfl (by first | exact .inl rfl | exact .inr rfl))) (fun _ _ h1 h2 => ps_asg h1 h2))) (b_one (s_asg (e_op ho_add od_add (e_var 9 (pv 9)) e_int) (g_name 9 (pg_name (i := 9) sc_law_goes.nd rfl (by first | exact .inl rfl | exact .inr rfl))) (fun _ _ h1 h2 => ps_asg h1 h2))))
      (b_one (s_if (w_pt (w_or (t_cmp (ho_lt hr.units0) od_lt (e_var 9 (pv 9)) e_int (nomark _)) (w_or1 (t_cmp (op_eqD hr.units) od_eq (e_var 9 (pv 9)) (e_len (l_name 1 (pv 1)) rfl (B _ in_len)) (nomark _))))) (b_one (s_ret (e_frz (f_lst (a_cons (e_tup (a_cons e_str (a_cons (e_ixN 8 (pv 8) e_int (fun _ _ => rfl)) (a_cons (e_var 10 (pv 10)) a_nil)))) (a_cons (e_var 11 (pv 11)) a_nil)))))) b_nil)))))))))))
      (b_one (s_ret (e_frz (f_lst (a_cons e_non (a_cons (e_frz (f_lst a_nil)) a_nil)))))))))))))))
/-! _law_deed -/
abbrev st_law_deed : Stmt := topS 20
theorem sc_law_deed : FnScope ["machine", "row", "left", "right", "side", "start", "end", "told", "one"] ["machine", "row", "left", "right", "side", "start"] (defScope st_law_deed) := ⟨rfl, rfl, rfl, by decide +kernel, rfl, by decide +kernel, by decide +kernel⟩
def body_law_deed : DEnv → Res Out := sSeq (sAsg (dCallV den_law_goes (dCons (dVar 0) (dCons (dVar 1) (dCons (dVar 2) (dCons (dVar 3) (dCons (dVar 4) (dCons (dVar 5) (dNil)))))))) (gUnD 2 (gConsD (setV 6) (gConsD (setV 7) (gNilD))))) (sSeq (sIf (tOf (dOp oIsN (dVar 6) (dC .none))) (sRet (dC .none)) (sNx)) (sRet (dOp oAdd (dVar 6) (dTup (dCons (dTupleOf (lOf (dFrz (fLc [8] (iSeq (dVar 7)) (setV 8) (tTrue) (dIxN 8 (dC (.int 3))))))) (dNil))))))
def den_law_deed : DEnv → Res PyData := defD 3 body_law_deed
theorem wpd_law_deed (a0 a1 a2 a3 a4 a5 : Cell) (Q : PyData → DEnv → Prop) (h : WpX Zn (body_law_deed [a0, a1, a2, a3, a4, a5, .un, .un, .un]) (retQ [a0, a1, a2, a3, a4, a5] Q)) : WpX Zn (den_law_deed [a0, a1, a2, a3, a4, a5]) Q := wp_def Q 3 _ _ h
theorem k_law_deed {P : Program} {w : World} {K : PySem.W.Frag} {mg : Str → Option Value} {base : Heap} {f : Addr} {fd : FuncData} (B : Blt mg) (G : Glb K mg) (D : IsDef K mg "_law_deed" "_law_deed" st_law_deed ["machine", "row", "left", "right", "side", "start"] f fd) (HW : Wd.P = P ∧ Wd.w = w) (K__law_goes : Kept P w K mg base CX0 2 "_law_goes" ["machine", "row", "left", "right", "side", "start"] den_law_goes) : Kept P w K mg base CX0 3 "_law_deed" ["machine", "row", "left", "right", "side", "start"] den_law_deed := by
  refine kept_of D sc_law_deed rfl fun cdv A outer s H E hr => ?_
  have hu65 : (A.deeper (envOfC "_law_deed" (defScope st_law_deed) s.heap.objs.size f cdv)).units + 65 < cLine := by have := hr.un; omega
  have hu1 : (A.deeper (envOfC "_law_deed" (defScope st_law_deed) s.heap.objs.size f cdv)).units + 1 < cLine := by omega
  exact (b_cons (s_asg (e_call K__law_goes rfl (hr.mono (by decide)) rfl (a_cons (e_var 0 (pv 0)) (a_cons (e_var 1 (pv 1)) (a_cons (e_var 2 (pv 2)) (a_cons (e_var 3 (pv 3)) (a_cons (e_var 4 (pv 4)) (a_cons (e_var 5 (pv 5)) a_nil))))))) (g_un (n := 2) rfl (fun t h => pg_tup rfl h) (fun t h => pg_unl rfl h) (gs_cons (fun _ _ h1 h2 => pgs_cons h1 h2) (g_name 6 (pg_name (i := 6) sc_law_deed.nd rfl (by first | exact .inl rfl | exact .inr rfl))) (gs_cons (fun _ _ h1 h2 => pgs_cons h1 h2) (g_name 7 (pg_name (i := 7) sc_law_deed.nd rfl (by first | exact .inl rfl | exact .inr rfl))) gs_nil))) (fun _ _ h1 h2 => ps_asg h1 h2))
      (b_cons (s_if (t_cmp op_isN od_isN (e_var 6 (pv 6)) e_non (nomark _)) (b_one (s_ret e_non)) b_nil)
      (b_one (s_ret (e_op ho_add od_add (e_var 6 (pv 6)) (e_tup (a_cons (e_tupleOf (l_of (e_frz (f_lc (fun _ h => pe_lc (own := [("one", 8)]) rfl sc_law_deed.nd h (blkOk_by rfl) (fun _ _ _ _ _ => pg_t (g_name 8 (pg_name (i := 8) sc_law_deed.nd rfl (by first | exact .inl rfl | exact .inr rfl)))) (fun _ _ _ _ _ => pts_y) (fun _ _ _ _ _ => pe_t (e_ixN 8 (pv 8) e_int (fun _ _ => rfl)))) (by decide) (i_seq (e_var 7 (pv 7)))))) rfl (B _ in_tuple)) a_nil)))))))
/-! law -/
abbrev stlaw : Stmt := topS 21
theorem sclaw : FnScope ["script", "state", "machine", "many", "k", "row", "j", "u", "v", "side", "p", "copy", "actual"] ["script"] (defScope stlaw) := ⟨rfl, rfl, rfl, by decide +kernel, rfl, by decide +kernel, by decide +kernel⟩
def bodylaw : DEnv → Res Out := sSeq (sNew 1 (fLst (dCons (dC (.int 0)) (dCons (dC (.int 0)) (dCons (dFrz (fListOf (lName 0))) (dCons (dC (.int 1)) (dNil))))))) (sSeq (sAsg (dCallI den_law_machine 1 (dCons (dC (.int 3)) (dCons (dC (.int 2)) (dNil)))) (setV 2)) (sSeq (sAsg (dLen (lOf (dOp oIx (dIxN 2 (dC (.int 2))) (dC (.int 2))))) (setV 3)) (sSeq (sFor (iRng rng1 (dCons (dC (.int 3)) (dNil))) (setV 4) (sSeq (sAsg (dCallI den_law_word 1 (dCons (dOp oAdd (dIxN 2 (dC (.int 0))) (dC (.int 2))) (dCons (dC (.int 6)) (dNil)))) (setV 5)) (sFor (iRng rng1 (dCons (dC (.int 4)) (dNil))) (setV 6) (sSeq (sAsg (dCallI den_law_draw 1 (dCons (dVar 3) (dNil))) (setV 7)) (sSeq (sAsg (dCallI den_law_draw 1 (dCons (dVar 3) (dNil))) (setV 8)) (sSeq (sAsg (dOp oIx (dFrz (fLst (dCons (dC (.str "left")) (dCons (dC (.str "right")) (dNil))))) (dCallI den_law_draw 1 (dCons (dC (.int 2)) (dNil)))) (setV 9)) (sSeq (sAsg (dCallI den_law_draw 1 (dCons (dIxN 2 (dC (.int 1))) (dNil))) (setV 10)) (sSeq (sAsg (dFrz (fListOf (lName 5))) (setV 11)) (sSeq (sAsg (dCallV dendeed (dCons (dVar 2) (dCons (dVar 11) (dCons (dVar 7) (dCons (dVar 8) (dCons (dVar 9) (dCons (dVar 10) (dNil)))))))) (setV 12)) (sSeq (sIf (tOf (dOp oNe (dVar 11) (dVar 5))) (sRet (dC (.bool false))) (sNx)) (sIf (tOf (dOp oNe (dVar 12) (dCallV den_law_deed (dCons (dVar 2) (dCons (dVar 5) (dCons (dVar 7) (dCons (dVar 8) (dCons (dVar 9) (dCons (dVar 10) (dNil)))))))))) (sRet (dC (.bool false))) (sNx)))))))))))) (sRet (dC (.bool true))))))
def denlaw : DEnv → Res PyData := defD 12 bodylaw
theorem wpdlaw (a0 : Cell) (Q : PyData → DEnv → Prop) (h : WpX Zn (bodylaw [a0, .un, .un, .un, .un, .un, .un, .un, .un, .un, .un, .un, .un]) (retQ [a0] Q)) : WpX Zn (denlaw [a0]) Q := wp_def Q 12 _ _ h
theorem klaw {P : Program} {w : World} {K : PySem.W.Frag} {mg : Str → Option Value} {base : Heap} {f : Addr} {fd : FuncData} (B : Blt mg) (G : Glb K mg) (D : IsDef K mg "law" "law" stlaw ["script"] f fd) (HW : Wd.P = P ∧ Wd.w = w) (K__law_machine : Kept P w K mg base CX0 3 "_law_machine" ["state", "most", "looks"] den_law_machine) (K__law_word : Kept P w K mg base CX0 2 "_law_word" ["state", "count", "most"] den_law_word) (K__law_draw : Kept P w K mg base CX0 1 "_law_draw" ["state", "limit"] den_law_draw) (K_deed : Kept P w K mg base CX0 3 "deed" ["machine", "row", "left", "right", "side", "state"] dendeed) (K__law_deed : Kept P w K mg base CX0 3 "_law_deed" ["machine", "row", "left", "right", "side", "start"] den_law_deed) : FnOk P w K mg base CX0 4 f fd ["script"] (spD K mg 1 denlaw) := by
  refine fnok_of D sclaw rfl fun cdv A outer s H E hr => ?_
  have hu65 : (A.deeper (envOfC "law" (defScope stlaw) s.heap.objs.size f cdv)).units + 65 < cLine := by have := hr.un; omega
  have hu1 : (A.deeper (envOfC "law" (defScope stlaw) s.heap.objs.size f cdv)).units + 1 < cLine := by omega
  exact (b_cons (s_new 1 (f_lst (a_cons e_int (a_cons e_int (a_cons (e_frz (f_listOf (l_name 0 (pv 0)) rfl (B _ in_list))) (a_cons e_int a_nil))))) (fun _ h => ps_set (i := 1) sclaw.nd rfl (by first | exact .inl rfl | exact .inr rfl) h))
      (b_cons (s_asg (e_callI 1 K__law_machine rfl (hr.mono (by decide)) rfl (pv 1) (a_cons e_int (a_cons e_int a_nil))) (g_name 2 (pg_name (i := 2) sclaw.nd rfl (by first | exact .inl rfl | exact .inr rfl))) (fun _ _ h1 h2 => ps_asg h1 h2))
      (b_cons (s_asg (e_len (l_of (e_ix ho_ix od_ix (e_ixN 2 (pv 2) e_int (fun _ _ => rfl)) e_int (fun _ _ => rfl))) rfl (B _ in_len)) (g_name 3 (pg_name (i := 3) sclaw.nd rfl (by first | exact .inl rfl | exact .inr rfl))) (fun _ _ h1 h2 => ps_asg h1 h2))
      (b_cons (s_for (fun _ _ _ h1 h2 h3 => ps_for PassesOwn.never rfl h1 h2 h3) (i_rng1 rfl (B _ in_range) (a_cons e_int a_nil)) (g_name 4 (pg_name (i := 4) sclaw.nd rfl (by first | exact .inl rfl | exact .inr rfl))) (b_cons (s_asg (e_callI 1 K__law_word rfl (hr.mono (by decide)) rfl (pv 1) (a_cons (e_op ho_add od_add (e_ixN 2 (pv 2) e_int (fun _ _ => rfl)) e_int) (a_cons e_int a_nil))) (g_name 5 (pg_name (i := 5) sclaw.nd rfl (by first | exact .inl rfl | exact .inr rfl))) (fun _ _ h1 h2 => ps_asg h1 h2))
      (b_one (s_for (fun _ _ _ h1 h2 h3 => ps_for PassesOwn.never rfl h1 h2 h3) (i_rng1 rfl (B _ in_range) (a_cons e_int a_nil)) (g_name 6 (pg_name (i := 6) sclaw.nd rfl (by first | exact .inl rfl | exact .inr rfl))) (b_cons (s_asg (e_callI 1 K__law_draw rfl (hr.mono (by decide)) rfl (pv 1) (a_cons (e_var 3 (pv 3)) a_nil)) (g_name 7 (pg_name (i := 7) sclaw.nd rfl (by first | exact .inl rfl | exact .inr rfl))) (fun _ _ h1 h2 => ps_asg h1 h2))
      (b_cons (s_asg (e_callI 1 K__law_draw rfl (hr.mono (by decide)) rfl (pv 1) (a_cons (e_var 3 (pv 3)) a_nil)) (g_name 8 (pg_name (i := 8) sclaw.nd rfl (by first | exact .inl rfl | exact .inr rfl))) (fun _ _ h1 h2 => ps_asg h1 h2))
      (b_cons (s_asg (e_ix ho_ix od_ix (e_frz (f_lst (a_cons e_str (a_cons e_str a_nil)))) (e_callI 1 K__law_draw rfl (hr.mono (by decide)) rfl (pv 1) (a_cons e_int a_nil)) (fun _ _ => rfl)) (g_name 9 (pg_name (i := 9) sclaw.nd rfl (by first | exact .inl rfl | exact .inr rfl))) (fun _ _ h1 h2 => ps_asg h1 h2))
      (b_cons (s_asg (e_callI 1 K__law_draw rfl (hr.mono (by decide)) rfl (pv 1) (a_cons (e_ixN 2 (pv 2) e_int (fun _ _ => rfl)) a_nil)) (g_name 10 (pg_name (i := 10) sclaw.nd rfl (by first | exact .inl rfl | exact .inr rfl))) (fun _ _ h1 h2 => ps_asg h1 h2))
      (b_cons (s_asg (e_frz (f_listOf (l_name 5 (pv 5)) rfl (B _ in_list))) (g_name 11 (pg_name (i := 11) sclaw.nd rfl (by first | exact .inl rfl | exact .inr rfl))) (fun _ _ h1 h2 => ps_asg h1 h2))
      (b_cons (s_asg (e_call K_deed rfl (hr.mono (by decide)) rfl (a_cons (e_var 2 (pv 2)) (a_cons (e_var 11 (pv 11)) (a_cons (e_var 7 (pv 7)) (a_cons (e_var 8 (pv 8)) (a_cons (e_var 9 (pv 9)) (a_cons (e_var 10 (pv 10)) a_nil))))))) (g_name 12 (pg_name (i := 12) sclaw.nd rfl (by first | exact .inl rfl | exact .inr rfl))) (fun _ _ h1 h2 => ps_asg h1 h2))
      (b_cons (s_if (t_cmp (op_neD hr.units) od_ne (e_var 11 (pv 11)) (e_var 5 (pv 5)) (nomark _)) (b_one (s_ret e_bl)) b_nil)
      (b_one (s_if (t_cmp (op_neD hr.units) od_ne (e_var 12 (pv 12)) (e_call K__law_deed rfl (hr.mono (by decide)) rfl (a_cons (e_var 2 (pv 2)) (a_cons (e_var 5 (pv 5)) (a_cons (e_var 7 (pv 7)) (a_cons (e_var 8 (pv 8)) (a_cons (e_var 9 (pv 9)) (a_cons (e_var 10 (pv 10)) a_nil))))))) (nomark _)) (b_one (s_ret e_bl)) b_nil)))))))))))))
      (b_one (s_ret e_bl))))))
/-! the law -/
abbrev LawTrue : Prop := ∀ ns : List Int, ns.length ≤ 63 → ∃ cs, denlaw [.val (scrD ns)] = .ok (.bool true) cs
theorem all_mk (T : LawTrue) {l : PySem.W.OpenLaw} {w : World} (HW : Wd.P = l.prog ∧ Wd.w = w) {K : PySem.W.Frag} {h : Heap} {mg : Str → Option Value} {fa : Addr} (X : K.In h) (G : h.Ns mainGlobals mg) (hfa : mg "law" = some (.ref fa))
    {f0 f1 f2 f3 f4 f5 f6 f7 f8 f9 f10 f11 f12 f13 : Addr} {od0 an0 od1 an1 od2 an2 od3 an3 od4 an4 od5 an5 od6 an6 od7 an7 od8 an8 od9 an9 od10 an10 od11 an11 od12 an12 od13 an13 : Option Addr} {sl0 sl1 sl2 sl3 sl4 sl5 sl6 sl7 sl8 sl9 sl10 sl11 sl12 sl13 : Array (Option Value)} {oc0 kV0 dc0 pm0 cd0 ct0 oc1 kV1 dc1 pm1 cd1 ct1 oc2 kV2 dc2 pm2 cd2 ct2 oc3 kV3 dc3 pm3 cd3 ct3 oc4 kV4 dc4 pm4 cd4 ct4 oc5 kV5 dc5 pm5 cd5 ct5 oc6 kV6 dc6 pm6 cd6 ct6 oc7 kV7 dc7 pm7 cd7 ct7 oc8 kV8 dc8 pm8 cd8 ct8 oc9 kV9 dc9 pm9 cd9 ct9 oc10 kV10 dc10 pm10 cd10 ct10 oc11 kV11 dc11 pm11 cd11 ct11 oc12 kV12 dc12 pm12 cd12 ct12 oc13 kV13 dc13 pm13 cd13 ct13 : Value}
    (a0 : PySem.W.nsIn K mainGlobals "_law_draw" = some (some (.ref f0))) (l0 : K.lookup f0 = some ⟨oc0, od0, .func (PySem.W.fnOf "_law_draw" "_law_draw" (defArgs st_law_draw) (defBody st_law_draw) (defScope st_law_draw) .none kV0 dc0 pm0 an0 cd0 ct0), sl0⟩) (c0 : PySem.W.codeIn K cd0 "_law_draw" = true) (k0 : PySem.W.keepIn K (.ref f0) = true)
    (a1 : PySem.W.nsIn K mainGlobals "_law_product" = some (some (.ref f1))) (l1 : K.lookup f1 = some ⟨oc1, od1, .func (PySem.W.fnOf "_law_product" "_law_product" (defArgs st_law_product) (defBody st_law_product) (defScope st_law_product) .none kV1 dc1 pm1 an1 cd1 ct1), sl1⟩) (c1 : PySem.W.codeIn K cd1 "_law_product" = true) (k1 : PySem.W.keepIn K (.ref f1) = true)
    (a2 : PySem.W.nsIn K mainGlobals "_law_small_reader" = some (some (.ref f2))) (l2 : K.lookup f2 = some ⟨oc2, od2, .func (PySem.W.fnOf "_law_small_reader" "_law_small_reader" (defArgs st_law_small_reader) (defBody st_law_small_reader) (defScope st_law_small_reader) .none kV2 dc2 pm2 an2 cd2 ct2), sl2⟩) (c2 : PySem.W.codeIn K cd2 "_law_small_reader" = true) (k2 : PySem.W.keepIn K (.ref f2) = true)
    (a3 : PySem.W.nsIn K mainGlobals "_law_machine" = some (some (.ref f3))) (l3 : K.lookup f3 = some ⟨oc3, od3, .func (PySem.W.fnOf "_law_machine" "_law_machine" (defArgs st_law_machine) (defBody st_law_machine) (defScope st_law_machine) .none kV3 dc3 pm3 an3 cd3 ct3), sl3⟩) (c3 : PySem.W.codeIn K cd3 "_law_machine" = true) (k3 : PySem.W.keepIn K (.ref f3) = true)
    (a4 : PySem.W.nsIn K mainGlobals "_law_word" = some (some (.ref f4))) (l4 : K.lookup f4 = some ⟨oc4, od4, .func (PySem.W.fnOf "_law_word" "_law_word" (defArgs st_law_word) (defBody st_law_word) (defScope st_law_word) .none kV4 dc4 pm4 an4 cd4 ct4), sl4⟩) (c4 : PySem.W.codeIn K cd4 "_law_word" = true) (k4 : PySem.W.keepIn K (.ref f4) = true)
    (a5 : PySem.W.nsIn K mainGlobals "deeds_by_sight" = some (some (.ref f5))) (l5 : K.lookup f5 = some ⟨oc5, od5, .func (PySem.W.fnOf "deeds_by_sight" "deeds_by_sight" (defArgs stdeeds_by_sight) (defBody stdeeds_by_sight) (defScope stdeeds_by_sight) .none kV5 dc5 pm5 an5 cd5 ct5), sl5⟩) (c5 : PySem.W.codeIn K cd5 "deeds_by_sight" = true) (k5 : PySem.W.keepIn K (.ref f5) = true)
    (a6 : PySem.W.nsIn K mainGlobals "values_to_the_left" = some (some (.ref f6))) (l6 : K.lookup f6 = some ⟨oc6, od6, .func (PySem.W.fnOf "values_to_the_left" "values_to_the_left" (defArgs stvalues_to_the_left) (defBody stvalues_to_the_left) (defScope stvalues_to_the_left) .none kV6 dc6 pm6 an6 cd6 ct6), sl6⟩) (c6 : PySem.W.codeIn K cd6 "values_to_the_left" = true) (k6 : PySem.W.keepIn K (.ref f6) = true)
    (a7 : PySem.W.nsIn K mainGlobals "values_to_the_right" = some (some (.ref f7))) (l7 : K.lookup f7 = some ⟨oc7, od7, .func (PySem.W.fnOf "values_to_the_right" "values_to_the_right" (defArgs stvalues_to_the_right) (defBody stvalues_to_the_right) (defScope stvalues_to_the_right) .none kV7 dc7 pm7 an7 cd7 ct7), sl7⟩) (c7 : PySem.W.codeIn K cd7 "values_to_the_right" = true) (k7 : PySem.W.keepIn K (.ref f7) = true)
    (a8 : PySem.W.nsIn K mainGlobals "trail" = some (some (.ref f8))) (l8 : K.lookup f8 = some ⟨oc8, od8, .func (PySem.W.fnOf "trail" "trail" (defArgs sttrail) (defBody sttrail) (defScope sttrail) .none kV8 dc8 pm8 an8 cd8 ct8), sl8⟩) (c8 : PySem.W.codeIn K cd8 "trail" = true) (k8 : PySem.W.keepIn K (.ref f8) = true)
    (a9 : PySem.W.nsIn K mainGlobals "deed" = some (some (.ref f9))) (l9 : K.lookup f9 = some ⟨oc9, od9, .func (PySem.W.fnOf "deed" "deed" (defArgs stdeed) (defBody stdeed) (defScope stdeed) .none kV9 dc9 pm9 an9 cd9 ct9), sl9⟩) (c9 : PySem.W.codeIn K cd9 "deed" = true) (k9 : PySem.W.keepIn K (.ref f9) = true)
    (a10 : PySem.W.nsIn K mainGlobals "_law_worth" = some (some (.ref f10))) (l10 : K.lookup f10 = some ⟨oc10, od10, .func (PySem.W.fnOf "_law_worth" "_law_worth" (defArgs st_law_worth) (defBody st_law_worth) (defScope st_law_worth) .none kV10 dc10 pm10 an10 cd10 ct10), sl10⟩) (c10 : PySem.W.codeIn K cd10 "_law_worth" = true) (k10 : PySem.W.keepIn K (.ref f10) = true)
    (a11 : PySem.W.nsIn K mainGlobals "_law_goes" = some (some (.ref f11))) (l11 : K.lookup f11 = some ⟨oc11, od11, .func (PySem.W.fnOf "_law_goes" "_law_goes" (defArgs st_law_goes) (defBody st_law_goes) (defScope st_law_goes) .none kV11 dc11 pm11 an11 cd11 ct11), sl11⟩) (c11 : PySem.W.codeIn K cd11 "_law_goes" = true) (k11 : PySem.W.keepIn K (.ref f11) = true)
    (a12 : PySem.W.nsIn K mainGlobals "_law_deed" = some (some (.ref f12))) (l12 : K.lookup f12 = some ⟨oc12, od12, .func (PySem.W.fnOf "_law_deed" "_law_deed" (defArgs st_law_deed) (defBody st_law_deed) (defScope st_law_deed) .none kV12 dc12 pm12 an12 cd12 ct12), sl12⟩) (c12 : PySem.W.codeIn K cd12 "_law_deed" = true) (k12 : PySem.W.keepIn K (.ref f12) = true)
    (a13 : PySem.W.nsIn K mainGlobals "law" = some (some (.ref f13))) (l13 : K.lookup f13 = some ⟨oc13, od13, .func (PySem.W.fnOf "law" "law" (defArgs stlaw) (defBody stlaw) (defScope stlaw) .none kV13 dc13 pm13 an13 cd13 ct13), sl13⟩) (c13 : PySem.W.codeIn K cd13 "law" = true) (k13 : PySem.W.keepIn K (.ref f13) = true)
    (z_len : PySem.W.nsIn K mainGlobals "len" = some none)
    (z_range : PySem.W.nsIn K mainGlobals "range" = some none)
    (z_tuple : PySem.W.nsIn K mainGlobals "tuple" = some none)
    (z_list : PySem.W.nsIn K mainGlobals "list" = some none)
    (z_int : PySem.W.nsIn K mainGlobals "int" = some none)
    (z_max : PySem.W.nsIn K mainGlobals "max" = some none)
    (z_set : PySem.W.nsIn K mainGlobals "set" = some none)
    {tk_STOP : Tok} (q_STOP : PySem.W.nsIn K mainGlobals "STOP" = some (some (.str "stop" tk_STOP)))
    {tk_LEFT : Tok} (q_LEFT : PySem.W.nsIn K mainGlobals "LEFT" = some (some (.str "left" tk_LEFT)))
    {tk_RIGHT : Tok} (q_RIGHT : PySem.W.nsIn K mainGlobals "RIGHT" = some (some (.str "right" tk_RIGHT)))
    {tk_OUT : Tok} (q_OUT : PySem.W.nsIn K mainGlobals "OUT" = some (some (.str "out" tk_OUT)))
    : ∃ fd : FuncData, (∀ (s : Shared) (v : Value), BindsTo s fd ⟨[v], []⟩ [("script", v)]) ∧ ∀ base : Heap, K.In base → base.Ns mainGlobals mg → FnOk l.prog w K mg base CX0 4 fa fd ["script"] (spLaw K) := by
  have e := hfa.symm.trans (PySem.W.mg_of X G a13)
  cases e
  have B : Blt mg := by
    intro x hx
    simp only [bltNames, List.mem_cons, List.not_mem_nil, or_false] at hx
    rcases hx with rfl | rfl | rfl | rfl | rfl | rfl | rfl
    · exact PySem.W.mg_none_of X G z_len
    · exact PySem.W.mg_none_of X G z_range
    · exact PySem.W.mg_none_of X G z_tuple
    · exact PySem.W.mg_none_of X G z_list
    · exact PySem.W.mg_none_of X G z_int
    · exact PySem.W.mg_none_of X G z_max
    · exact PySem.W.mg_none_of X G z_set
  have GG : Glb K mg := ⟨⟨_, .str "stop", PySem.W.mg_of X G q_STOP, ⟨_, rfl⟩, fun _ => .str _⟩, ⟨_, .str "left", PySem.W.mg_of X G q_LEFT, ⟨_, rfl⟩, fun _ => .str _⟩, ⟨_, .str "right", PySem.W.mg_of X G q_RIGHT, ⟨_, rfl⟩, fun _ => .str _⟩, ⟨_, .str "out", PySem.W.mg_of X G q_OUT, ⟨_, rfl⟩, fun _ => .str _⟩⟩
  have F0 := fun_mk (st := st_law_draw) l0 c0 k0
  have D0 : IsDef K mg "_law_draw" "_law_draw" st_law_draw ["state", "limit"] _ _ := ⟨F0, PySem.W.mg_of X G a0, F0.binds (ps := ["state", "limit"]) fun _ _ _ _ _ _ us hl => match us, hl with | [_, _], _ => rfl⟩
  have F1 := fun_mk (st := st_law_product) l1 c1 k1
  have D1 : IsDef K mg "_law_product" "_law_product" st_law_product ["kind", "count", "x", "y"] _ _ := ⟨F1, PySem.W.mg_of X G a1, F1.binds (ps := ["kind", "count", "x", "y"]) fun _ _ _ _ _ _ us hl => match us, hl with | [_, _, _, _], _ => rfl⟩
  have F2 := fun_mk (st := st_law_small_reader) l2 c2 k2
  have D2 : IsDef K mg "_law_small_reader" "_law_small_reader" st_law_small_reader ["state", "count"] _ _ := ⟨F2, PySem.W.mg_of X G a2, F2.binds (ps := ["state", "count"]) fun _ _ _ _ _ _ us hl => match us, hl with | [_, _], _ => rfl⟩
  have F3 := fun_mk (st := st_law_machine) l3 c3 k3
  have D3 : IsDef K mg "_law_machine" "_law_machine" st_law_machine ["state", "most", "looks"] _ _ := ⟨F3, PySem.W.mg_of X G a3, F3.binds (ps := ["state", "most", "looks"]) fun _ _ _ _ _ _ us hl => match us, hl with | [_, _, _], _ => rfl⟩
  have F4 := fun_mk (st := st_law_word) l4 c4 k4
  have D4 : IsDef K mg "_law_word" "_law_word" st_law_word ["state", "count", "most"] _ _ := ⟨F4, PySem.W.mg_of X G a4, F4.binds (ps := ["state", "count", "most"]) fun _ _ _ _ _ _ us hl => match us, hl with | [_, _, _], _ => rfl⟩
  have F5 := fun_mk (st := stdeeds_by_sight) l5 c5 k5
  have D5 : IsDef K mg "deeds_by_sight" "deeds_by_sight" stdeeds_by_sight ["machine"] _ _ := ⟨F5, PySem.W.mg_of X G a5, F5.binds (ps := ["machine"]) fun _ _ _ _ _ _ us hl => match us, hl with | [_], _ => rfl⟩
  have F6 := fun_mk (st := stvalues_to_the_left) l6 c6 k6
  have D6 : IsDef K mg "values_to_the_left" "values_to_the_left" stvalues_to_the_left ["reader", "row", "left"] _ _ := ⟨F6, PySem.W.mg_of X G a6, F6.binds (ps := ["reader", "row", "left"]) fun _ _ _ _ _ _ us hl => match us, hl with | [_, _, _], _ => rfl⟩
  have F7 := fun_mk (st := stvalues_to_the_right) l7 c7 k7
  have D7 : IsDef K mg "values_to_the_right" "values_to_the_right" stvalues_to_the_right ["reader", "row", "right"] _ _ := ⟨F7, PySem.W.mg_of X G a7, F7.binds (ps := ["reader", "row", "right"]) fun _ _ _ _ _ _ us hl => match us, hl with | [_, _, _], _ => rfl⟩
  have F8 := fun_mk (st := sttrail) l8 c8 k8
  have D8 : IsDef K mg "trail" "trail" sttrail ["machine", "row", "around", "place", "state"] _ _ := ⟨F8, PySem.W.mg_of X G a8, F8.binds (ps := ["machine", "row", "around", "place", "state"]) fun _ _ _ _ _ _ us hl => match us, hl with | [_, _, _, _, _], _ => rfl⟩
  have F9 := fun_mk (st := stdeed) l9 c9 k9
  have D9 : IsDef K mg "deed" "deed" stdeed ["machine", "row", "left", "right", "side", "state"] _ _ := ⟨F9, PySem.W.mg_of X G a9, F9.binds (ps := ["machine", "row", "left", "right", "side", "state"]) fun _ _ _ _ _ _ us hl => match us, hl with | [_, _, _, _, _, _], _ => rfl⟩
  have F10 := fun_mk (st := st_law_worth) l10 c10 k10
  have D10 : IsDef K mg "_law_worth" "_law_worth" st_law_worth ["reader", "row"] _ _ := ⟨F10, PySem.W.mg_of X G a10, F10.binds (ps := ["reader", "row"]) fun _ _ _ _ _ _ us hl => match us, hl with | [_, _], _ => rfl⟩
  have F11 := fun_mk (st := st_law_goes) l11 c11 k11
  have D11 : IsDef K mg "_law_goes" "_law_goes" st_law_goes ["machine", "row", "left", "right", "side", "start"] _ _ := ⟨F11, PySem.W.mg_of X G a11, F11.binds (ps := ["machine", "row", "left", "right", "side", "start"]) fun _ _ _ _ _ _ us hl => match us, hl with | [_, _, _, _, _, _], _ => rfl⟩
  have F12 := fun_mk (st := st_law_deed) l12 c12 k12
  have D12 : IsDef K mg "_law_deed" "_law_deed" st_law_deed ["machine", "row", "left", "right", "side", "start"] _ _ := ⟨F12, PySem.W.mg_of X G a12, F12.binds (ps := ["machine", "row", "left", "right", "side", "start"]) fun _ _ _ _ _ _ us hl => match us, hl with | [_, _, _, _, _, _], _ => rfl⟩
  have F13 := fun_mk (st := stlaw) l13 c13 k13
  have D13 : IsDef K mg "law" "law" stlaw ["script"] _ _ := ⟨F13, PySem.W.mg_of X G a13, F13.binds (ps := ["script"]) fun _ _ _ _ _ _ us hl => match us, hl with | [_], _ => rfl⟩
  refine ⟨PySem.W.fnOf "law" "law" (defArgs stlaw) (defBody stlaw) (defScope stlaw) .none kV13 dc13 pm13 an13 cd13 ct13, fun s v => .of_eq rfl, fun base _ _ => ?_⟩
  have K0 := k_law_draw (P := l.prog) (w := w) (base := base) B GG D0 HW 
  have K1 := k_law_product (P := l.prog) (w := w) (base := base) B GG D1 HW 
  have K2 := k_law_small_reader (P := l.prog) (w := w) (base := base) B GG D2 HW K0 K1
  have K3 := k_law_machine (P := l.prog) (w := w) (base := base) B GG D3 HW K2 K0
  have K4 := k_law_word (P := l.prog) (w := w) (base := base) B GG D4 HW K0
  have K5 := kdeeds_by_sight (P := l.prog) (w := w) (base := base) B GG D5 HW 
  have K6 := kvalues_to_the_left (P := l.prog) (w := w) (base := base) B GG D6 HW 
  have K7 := kvalues_to_the_right (P := l.prog) (w := w) (base := base) B GG D7 HW 
  have K8 := ktrail (P := l.prog) (w := w) (base := base) B GG D8 HW K5 K6 K7
  have K9 := kdeed (P := l.prog) (w := w) (base := base) B GG D9 HW K8
  have K10 := k_law_worth (P := l.prog) (w := w) (base := base) B GG D10 HW 
  have K11 := k_law_goes (P := l.prog) (w := w) (base := base) B GG D11 HW K10
  have K12 := k_law_deed (P := l.prog) (w := w) (base := base) B GG D12 HW K11
  have K13 := klaw (P := l.prog) (w := w) (base := base) B GG D13 HW K3 K4 K0 K9 K12
  exact K13.imp (law_sp T)
end
end M

set_option Elab.async false
set_option linter.all false
set_option maxRecDepth 100000
set_option maxHeartbeats 4000000
namespace M
open PySem PySem.Spec PyProof.Rows L2 DL

local macro_rules | `(tactic| walk_at "dl") => `(tactic| try simp only [↓ws_seq, ↓ws_nx, ↓ws_bk, ↓ws_ct, ↓ws_ret, ↓ws_retN, ↓ws_drop, ↓ws_if, ↓ws_asg, ↓ws_new, ↓ws_nxOf, ↓ws_frz, ↓ws_for, ↓ws_app, ↓ws_setH, ↓wp_C, ↓wp_vr, ↓wp_op, ↓wp_un, ↓wp_nil, ↓wp_cons, ↓wp_call, ↓wp_tup, ↓wp_lst, ↓wp_frz, ↓wp_tof, ↓wp_tru, ↓wp_tnot, ↓wp_tand, ↓wp_tor, ↓wp_and, ↓wp_or, ↓wp_not, ↓wp_if, ↓wp_chain, ↓wp_len, ↓wp_tupleOf, ↓wp_listOf, ↓wp_lof, ↓wp_lname, ↓wp_ixN, ↓wp_inN, ↓wp_indexN, ↓wp_popAt, ↓wp_tupRg, ↓wp_lstRg, ↓wp_sl, ↓wp_noPart, ↓wp_part, ↓wp_callV, ↓wp_callI, ↓wp_iseq, ↓wp_irng, ↓wp_lc, ↓wp_of_some, ↓wp_dget, ↓wp_dgetT, ↓ws_dput, ↓ws_dputT, ↓wp_newT, ↓wp_newK, ↓wp_disp, ↓wp_callF, ↓wf_seq, ↓wf_frz, ↓wp_ienums, ↓wp_izip, ↓ws_aug, ↓wp_sorted, ↓ws_augH, ↓wp_rep, ↓wp_sortD, ↓wp_sortSet, ↓wp_dc, ↓wp_keys, ↓wp_inK, ↓wp_lenK, ↓ws_ext, ↓wp_fLcH, ↓wp_fLc2, ↓wp_kget, ↓ws_frzK, ↓wp_fld, ↓ws_fset, ↓wp_meth, ↓wp_make, ↓wp_rev, ↓wp_sortDr, ↓wp_lstRev, ↓wp_irevRg, frzKO_own, frzKO_val, undk_dk, lstQ_lst, Int.reduceBEq,
  onNx_nx, onNx_rt, onNx_bk, onNx_ct, boolQ_bool, intQ_int, frzQ_lst, retQ_rt, retQ_nx, cellQ_val, heldQ_some, ixQ_some, atI_0, ixN_0, atI_1, ixN_1, atI_2, ixN_2, atI_3, ixN_3, atI_4, ixN_4, atI_5, ixN_5, atI_6, ixN_6, atI_7, ixN_7, len_0, len_1, len_2, len_3, len_4, len_5, len_6, len_7, len_8, wp_of_ite, List.getElem?_cons_succ, List.getElem?_cons_zero, setV_eq, setVo_val, setVo_un, setVo_own, setO_eq, setOo_val, setOo_un, setOo_own, nameD_eq, nameO_val, nameO_own, nameO_io, heldL_eq, heldO_own, heldO_io, isHeld_eq, setHeld_eq, setHeldO_own, setHeldO_io, frzC_eq, frzO_own, frzO_val, frzO_io, frzO_un, List.set_cons_succ, List.set_cons_zero, Option.bind_some, Option.isSome_some, Option.getD_some, Option.map_some, own_own, own_io, isLst_some, List.map_cons, List.map_nil,
  oAdd_int, oAdd_tup, oSub_int, oMul_int, oDiv_int, oMod_int, oPow_int, oNeg_int, oLt_int, oLe_int, oGt_int, oGe_int, oIx_lst, oIx_tup, oInt_int, oInt_bool, oMax2_int, oMin2_int, oEq_int, oNe_int, oEq_bool, oNe_bool, oIsN_none, oNotN_none, isNone_none, isNone_int, isNone_tup, isNone_lst, isNone_str, tru_bool, tru_int, tru_none, tru_lst, tru_tup, seqOf_lst, seqOf_tup, slOf_lst, slOf_tup, rng1_int, rng2_int, wipeC_nil, wipeC_cons, backIO_nil, backIO_io', backIO_val, isi_int_int, isi_bool_int, isi_bool_bool, isi_int_bool, Bool.false_eq_true, reduceCtorEq, unwipe_one, loopQ_nx, loopQ_ct, loopQ_bk, loopQ_rt, wp_tTrue,  augQ_val, oAddI_int, oSubI_int, isi_int_str, isi_int_tup, isi_tup_tup, isi_tup_int, isi_tup_str, oShl_int, oShr_int, oOr_int, oAnd_int, oXor_int, someQ_some, someQ_ite, repOf_int, isi_lst_lst, nxF_nx, retF_eq, dkQ_dk, dtQ_dt, keyQ_some, hobj_eq, hobjO_own, hobjO_io, keyD_int, keyD_str, keysD_nil, keysD_int, frzO_dk, frzO_dt, eq_self, ↓wp_cat, catQ_list, unwipe_nil, unwipe_cons, wp_callFI, wp_retOwn, ownQ_own, wp_chain3, wp_newN, wp_dgetN, ws_dputN, dnQ_dn, ↓wp_tget, ↓wp_tin, ↓wp_tget1, isDt_dt, ↓ws_tput, ↓wp_slN, tupQ_tup, keyTD_tup, ↓wp_dcT, ↓wp_newS, ↓wp_skin, ↓wp_skadd, tsQ_ts, isTs_ts, box_row, box_at, box_put, box_merge, insQ_ins, mkQ_io, rlQ_list, roQ_some, if_true, if_false, Bool.not_true, Bool.not_false, decide_eq_true_eq, true_and, and_true])
local macro_rules | `(tactic| walk_at "dls") => `(tactic| simp only [setV_eq, setVo_val, setVo_un, setVo_own, List.getElem?_cons_succ, List.getElem?_cons_zero, List.set_cons_succ, List.set_cons_zero])

variable [Wd]
def StOk (o : OD) : Prop := ∃ (s p m : Int) (ns : List Int), o = .lst [.int s, .int p, .list (ns.map .int), .int m] ∧ 0 ≤ p
theorem atI_ints {ns : List Int} {p : Int} (h0 : 0 ≤ p) (h : p < ((ns.map PyData.int).length : Nat)) : ∃ c, atI (ns.map PyData.int) p = some (.int c) := by
  rw [List.length_map] at h
  have hl : p.toNat < ns.length := by omega
  exact ⟨ns[p.toNat], atI_lit h0 (by rw [List.getElem?_map, List.getElem?_eq_getElem hl]; rfl)⟩
theorem draw_ok {o : OD} (h : StOk o) {lim : Int} (h1 : 1 ≤ lim) (h2 : lim < 1073741824) {Q : PyData → DEnv → Prop} (k : ∀ o' d, StOk o' → 0 ≤ d → d < lim → Q (.int d) [.io o', .val (.int lim)]) : WpX Zn (den_law_draw [.io o, .val (.int lim)]) Q := by
  obtain ⟨s, p, m, ns, rfl, hp⟩ := h
  have fin : ∀ s' p' m' : Int, 0 ≤ p' → 0 < lim ∧ (0 < lim ∧ lim < 1073741824) ∧ Q (.int (s' % lim)) [.io (.lst [.int (s' / lim), .int p', .list (ns.map .int), .int m']), .val (.int lim)] := fun s' p' m' hp' =>
    ⟨by omega, ⟨by omega, h2⟩, k _ _ ⟨_, _, _, _, rfl, hp'⟩ (Int.emod_nonneg _ (by omega)) (Int.emod_lt_of_pos _ (by omega))⟩
  have far : ∀ c : Int, (0 ≤ (18 : Int) ∧ (18 : Int) ≤ 1000000 ∧ Int.natAbs 10 < 2 ^ 64) := fun _ => by decide
  refine wpd_law_draw _ _ _ ?_
  unfold body_law_draw
  walk_at "dl"
  have cm : ∀ {a b : Int}, (-(2 ^ 64) < b ∧ b < 2 ^ 64) → CMul a b := fun h => .inr h
  refine ite2 (fun hc => ?_) (fun hc => ?_)
  · refine ite2 (fun hc2 => ?_) (fun _ => ?_)
    · obtain ⟨c, e⟩ := atI_ints (ns := ns) hp hc2
      rw [e]
      walk_at "dl"
      refine ⟨by decide, ite2 (fun _ => fin c (p + 1) m (by omega)) fun _ => ⟨by decide, cm (by decide), by decide, cm (by decide), by decide, cm (by decide), cm (by decide), by decide, fin _ (p + 1) _ (by omega)⟩⟩
    · refine ⟨by decide, ite2 (fun _ => fin 0 (p + 1) m (by omega)) fun _ => ⟨by decide, cm (by decide), by decide, cm (by decide), by decide, cm (by decide), cm (by decide), by decide, fin _ (p + 1) _ (by omega)⟩⟩
  · exact fin s p m hp
theorem draw_io {ρ : DEnv} {i : Nat} {o : OD} {lim : Int} {Q : PyData → DEnv → Prop} (hi : ρ[i]? = some (.io o)) (h : StOk o) (h1 : 1 ≤ lim) (h2 : lim < 1073741824) (k : ∀ o' d, StOk o' → 0 ≤ d → d < lim → Q (.int d) (ρ.set i (.io o'))) : WpX Zn (callIO den_law_draw i [.int lim] ρ) Q :=
  wp_callIO_io _ _ _ _ _ _ hi (draw_ok h h1 h2 fun o' d a b c => ⟨o', _, rfl, k o' d a b c⟩)
theorem draw_own {ρ : DEnv} {i : Nat} {o : OD} {lim : Int} {Q : PyData → DEnv → Prop} (hi : ρ[i]? = some (.own o)) (h : StOk o) (h1 : 1 ≤ lim) (h2 : lim < 1073741824) (k : ∀ o' d, StOk o' → 0 ≤ d → d < lim → Q (.int d) (ρ.set i (.own o'))) : WpX Zn (callIO den_law_draw i [.int lim] ρ) Q :=
  wp_callIO_own _ _ _ _ _ _ hi (draw_ok h h1 h2 fun o' d a b c => ⟨o', _, rfl, k o' d a b c⟩)
/-! ### products -/
def prodI (kind count x y : Int) : Int := if kind = 0 then (x + y) % count else if kind = 1 then (if y > x then y else x) else if kind = 2 then (if y = 0 then x else y) else (if x = 0 then y else x)
theorem product_ok {kind count x y : Int} (hc : 1 ≤ count) {Q : PyData → DEnv → Prop} (k : Q (.int (prodI kind count x y)) [.val (.int kind), .val (.int count), .val (.int x), .val (.int y)]) : WpX Zn (den_law_product [.val (.int kind), .val (.int count), .val (.int x), .val (.int y)]) Q := by
  refine wpd_law_product _ _ _ _ _ ?_
  unfold body_law_product
  unfold prodI at k
  walk_at "dl"
  simp only [beq_iff_eq]
  by_cases h0 : kind = 0
  · rw [if_pos h0] at k ⊢; exact ⟨by omega, k⟩
  · rw [if_neg h0] at k ⊢
    by_cases h1 : kind = 1
    · rw [if_pos h1] at k ⊢; exact k
    · rw [if_neg h1] at k ⊢
      by_cases h2 : kind = 2
      · rw [if_pos h2] at k ⊢
        by_cases h3 : y = 0
        · rw [if_pos h3] at k ⊢; exact k
        · rw [if_neg h3] at k ⊢; exact k
      · rw [if_neg h2] at k ⊢
        by_cases h3 : x = 0
        · rw [if_pos h3] at k ⊢; exact k
        · rw [if_neg h3] at k ⊢; exact k
/-! ### a permutation -/
structure TabOk (n : Nat) (t : Nat → Nat → Nat) : Prop where
  pos : 1 ≤ n
  le : n ≤ 9
  lt : ∀ x y, x < n → y < n → t x y < n
  l0 : ∀ x, x < n → t 0 x = x
  r0 : ∀ x, x < n → t x 0 = x
  assoc : ∀ x y z, x < n → y < n → z < n → t (t x y) z = t x (t y z)
def enRow (n : Nat) (r : Nat → Nat) : List PyData := (List.range n).map fun y => nI (r y)
def enTab (n : Nat) (t : Nat → Nat → Nat) : PyData := .list ((List.range n).map fun x => .list (enRow n (t x)))
def prodN (kind count x y : Nat) : Nat := (prodI kind count x y).toNat
theorem prodI_nat {kind count x y : Nat} (hc : 1 ≤ count) : prodI kind count x y = (prodN kind count x y : Nat) := by
  unfold prodN
  have : 0 ≤ prodI kind count x y := by
    unfold prodI
    split
    · exact Int.emod_nonneg _ (by omega)
    · split
      · split <;> omega
      · split
        · split <;> omega
        · split <;> omega
  omega
theorem prod_tab {kind count : Nat} (hc : 1 ≤ count) (h9 : count ≤ 9) : TabOk count (prodN kind count) := by
  have e0 : ∀ x y : Nat, kind = 0 → prodN kind count x y = (x + y) % count := fun x y hk => by
    unfold prodN prodI
    rw [if_pos (by omega)]
    have : ((x : Int) + y) % count = (((x + y) % count : Nat) : Int) := by push_cast; rfl
    rw [this]
    exact Int.toNat_natCast _
  have e1 : ∀ x y : Nat, kind = 1 → prodN kind count x y = max x y := fun x y hk => by
    unfold prodN prodI
    rw [if_neg (by omega), if_pos (by omega)]
    split <;> omega
  have e2 : ∀ x y : Nat, kind = 2 → prodN kind count x y = if y = 0 then x else y := fun x y hk => by
    unfold prodN prodI
    rw [if_neg (by omega), if_neg (by omega), if_pos (by omega)]
    split
    · rw [if_pos (by omega)]; omega
    · rw [if_neg (by omega)]; omega
  have e3 : ∀ x y : Nat, 3 ≤ kind → prodN kind count x y = if x = 0 then y else x := fun x y hk => by
    unfold prodN prodI
    rw [if_neg (by omega), if_neg (by omega), if_neg (by omega)]
    split
    · rw [if_pos (by omega)]; omega
    · rw [if_neg (by omega)]; omega
  have cases4 : kind = 0 ∨ kind = 1 ∨ kind = 2 ∨ 3 ≤ kind := by omega
  rcases cases4 with hk | hk | hk | hk
  · refine ⟨hc, h9, fun x y hx hy => ?_, fun x hx => ?_, fun x hx => ?_, fun x y z hx hy hz => ?_⟩
    · rw [e0 x y hk]; exact Nat.mod_lt _ (by omega)
    · rw [e0 0 x hk, Nat.zero_add]; exact Nat.mod_eq_of_lt hx
    · rw [e0 x 0 hk, Nat.add_zero]; exact Nat.mod_eq_of_lt hx
    · rw [e0 x y hk, e0 _ z hk, e0 y z hk, e0 x _ hk, Nat.mod_add_mod, Nat.add_mod_mod, Nat.add_assoc]
  · refine ⟨hc, h9, fun x y hx hy => ?_, fun x hx => ?_, fun x hx => ?_, fun x y z hx hy hz => ?_⟩
    · rw [e1 x y hk]; omega
    · rw [e1 0 x hk]; omega
    · rw [e1 x 0 hk]; omega
    · rw [e1 x y hk, e1 _ z hk, e1 y z hk, e1 x _ hk]; omega
  · refine ⟨hc, h9, fun x y hx hy => ?_, fun x hx => ?_, fun x hx => ?_, fun x y z hx hy hz => ?_⟩
    · rw [e2 x y hk]; split <;> omega
    · rw [e2 0 x hk]; split <;> omega
    · rw [e2 x 0 hk]; rfl
    · rw [e2 x y hk, e2 _ z hk, e2 y z hk, e2 x _ hk]; repeat' split
      all_goals omega
  · refine ⟨hc, h9, fun x y hx hy => ?_, fun x hx => ?_, fun x hx => ?_, fun x y z hx hy hz => ?_⟩
    · rw [e3 x y hk]; split <;> omega
    · rw [e3 0 x hk]; rfl
    · rw [e3 x 0 hk]; split <;> omega
    · rw [e3 x y hk, e3 _ z hk, e3 y z hk, e3 x _ hk]; repeat' split
      all_goals omega
def enMul (n : Nat) (m : Nat → Nat → Nat) : PyData := .tuple ((List.range n).map fun x => .tuple (enRow n (m x)))
def enRd (e : Nat) (ls : List Nat) (n : Nat) (m : Nat → Nat → Nat) (acc : List Nat) : PyData := .tuple [nI e, .tuple (ls.map nI), enMul n m, .tuple (acc.map nI)]
structure RdOk (count e : Nat) (ls : List Nat) (n : Nat) (m : Nat → Nat → Nat) (acc : List Nat) : Prop where
  pos : 1 ≤ n
  le : n ≤ 9
  lt : ∀ x y, x < n → y < n → m x y < n
  eu : e < n
  l0 : ∀ x, x < n → m e x = x
  r0 : ∀ x, x < n → m x e = x
  assoc : ∀ x y z, x < n → y < n → z < n → m (m x y) z = m x (m y z)
  len : ls.length = count
  lets : ∀ l ∈ ls, l < n
  acc : acc.Sublist (List.range n)
theorem named {n : Nat} {t : Nat → Nat → Nat} {nm : List Nat} (T : TabOk n t) (hp : nm.Perm (List.range n)) :
    (∀ i, i < n → nm[i]? = some (nm.getD i 0) ∧ nm.getD i 0 < n ∧ nm.idxOf (nm.getD i 0) = i) ∧ ∀ x, x < n → nm.idxOf x < n ∧ nm.getD (nm.idxOf x) 0 = x := by
  have hl : nm.length = n := by rw [hp.length_eq, List.length_range]
  have nd : nm.Nodup := hp.nodup_iff.mpr List.nodup_range
  have mem : ∀ x, x ∈ nm ↔ x < n := fun x => by rw [hp.mem_iff, List.mem_range]
  refine ⟨fun i hi => ?_, fun x hx => ?_⟩
  · have hi' : i < nm.length := by omega
    rw [List.getD_eq_getElem?_getD, List.getElem?_eq_getElem hi']
    exact ⟨rfl, (mem _).mp (List.getElem_mem hi'), List.Nodup.idxOf_getElem nd i hi'⟩
  · have hm := (mem x).mpr hx
    have hi' : nm.idxOf x < nm.length := List.idxOf_lt_length_of_mem hm
    rw [List.getD_eq_getElem?_getD, List.getElem?_eq_getElem hi']
    exact ⟨by omega, List.getElem_idxOf hi'⟩
theorem row_at {n : Nat} {r : Nat → Nat} {y : Nat} (hy : y < n) : atI (enRow n r) (y : Nat) = some (nI (r y)) := by
  unfold enRow
  exact atI_map (List.getElem?_range hy)
theorem word_ok {o : OD} (h : StOk o) {count most : Nat} (h1 : 1 ≤ count) (h2 : count ≤ 1000) (h3 : most ≤ 1000) {Q : PyData → DEnv → Prop}
    (k : ∀ (o' : OD) (ws : List Nat), StOk o' → (∀ l ∈ ws, l < count) → ws.length ≤ most → Q (.list (ws.map nI)) [.io o', .val (nI count), .val (nI most)]) : WpX Zn (den_law_word [.io o, .val (nI count), .val (nI most)]) Q := by
  refine wpd_law_word _ _ _ _ ?_
  unfold body_law_word nI
  walk_at "dl"
  refine draw_io rfl h (by omega) (by omega) fun o1 d hs1 hd0 hd1 => ?_
  obtain ⟨d, rfl⟩ := Int.eq_ofNat_of_zero_le hd0
  walk_at "dl"
  refine ⟨inR_nat (by omega), ?_⟩
  rw [Int.toNat_natCast]
  refine wp_lcL (fun i acc ρ => ∃ (o' : OD) (ws : List Nat), acc = ws.map nI ∧ ws.length = i ∧ (∀ l ∈ ws, l < count) ∧ StOk o' ∧ ρ = [.io o', .val (.int (count : Nat)), .val (.int (most : Nat)), .un])
    ⟨o1, [], rfl, rfl, fun x hx => (by cases hx), hs1, rfl⟩ (small_line (by rw [ints_len]; omega)) (fun i d acc ρ hd hI => ?_) fun acc ρ hI => ?_
  · obtain ⟨o', ws, rfl, hx, hlt, hs, rfl⟩ := hI
    refine ⟨_, rfl, ?_⟩
    walk_at "dl"
    refine draw_io rfl hs (by omega) (by omega) fun o3 j hs3 hj0 hj1 => ?_
    obtain ⟨j, rfl⟩ := Int.eq_ofNat_of_zero_le hj0
    walk_at "dl"
    exact ⟨o3, ws ++ [j], by rw [List.map_append]; rfl, by rw [List.length_append, hx]; rfl, fun x hx => (List.mem_append.mp hx).elim (hlt x) fun z => by rw [List.mem_singleton.mp z]; omega, hs3, rfl⟩
  · obtain ⟨o', ws, rfl, hx, hlt, hs, rfl⟩ := hI
    rw [ints_len] at hx
    walk_at "dl"
    exact k o' ws hs hlt (by omega)
def valN (m : Nat → Nat → Nat) (ls : List Nat) (e : Nat) (ws : List Nat) : Nat := ws.foldl (fun a l => m a (ls.getD l 0)) e
theorem letter_at {count e n : Nat} {ls acc : List Nat} {m : Nat → Nat → Nat} (R : RdOk count e ls n m acc) {l : Nat} (h : l < count) : ls[l]? = some (ls.getD l 0) ∧ ls.getD l 0 < n := by
  have : l < ls.length := by rw [R.len]; exact h
  rw [List.getD_eq_getElem?_getD, List.getElem?_eq_getElem this]
  exact ⟨rfl, R.lets _ (List.getElem_mem this)⟩
theorem valN_lt {count e n : Nat} {ls acc : List Nat} {m : Nat → Nat → Nat} (R : RdOk count e ls n m acc) : ∀ (ws : List Nat) (a : Nat), a < n → (∀ l ∈ ws, l < count) → valN m ls a ws < n
  | [], a, h, _ => h
  | l :: ws, a, h, hw => valN_lt R ws _ (R.lt _ _ h (letter_at R (hw l (List.mem_cons_self ..))).2) fun x hx => hw x (List.mem_cons_of_mem _ hx)
theorem valN_mul {count e n : Nat} {ls acc : List Nat} {m : Nat → Nat → Nat} (R : RdOk count e ls n m acc) : ∀ (ws : List Nat) (a : Nat), a < n → (∀ l ∈ ws, l < count) → valN m ls a ws = m a (valN m ls e ws)
  | [], a, h, _ => (R.r0 a h).symm
  | l :: ws, a, h, hw => by
    have hl := (letter_at R (hw l (List.mem_cons_self ..))).2
    have hw' : ∀ x ∈ ws, x < count := fun x hx => hw x (List.mem_cons_of_mem _ hx)
    show valN m ls (m a (ls.getD l 0)) ws = m a (valN m ls (m e (ls.getD l 0)) ws)
    rw [R.l0 _ hl, valN_mul R ws _ (R.lt _ _ h hl) hw', valN_mul R ws _ hl hw', R.assoc _ _ _ h hl (valN_lt R ws e R.eu hw')]
theorem valN_app {count e n : Nat} {ls acc : List Nat} {m : Nat → Nat → Nat} (R : RdOk count e ls n m acc) (us ws : List Nat) (hu : ∀ l ∈ us, l < count) (hw : ∀ l ∈ ws, l < count) : m (valN m ls e us) (valN m ls e ws) = valN m ls e (us ++ ws) := by
  rw [← valN_mul R ws _ (valN_lt R us e R.eu hu) hw]
  unfold valN
  rw [List.foldl_append]
theorem mul_at {n : Nat} {m : Nat → Nat → Nat} {x y : Nat} (hx : x < n) (hy : y < n) : oIx (enMul n m) (.int (x : Nat)) = some (.tuple (enRow n (m x))) ∧ oIx (.tuple (enRow n (m x))) (.int (y : Nat)) = some (.int (m x y : Nat)) :=
  ⟨atI_map (f := fun x => PyData.tuple (enRow n (m x))) (List.getElem?_range hx), row_at hy⟩
theorem worth_ok {count e n : Nat} {ls acc : List Nat} {m : Nat → Nat → Nat} (R : RdOk count e ls n m acc) {ws : List Nat} (hw : ∀ l ∈ ws, l < count) {Q : PyData → DEnv → Prop} (k : Q (nI (valN m ls e ws)) [.val (enRd e ls n m acc), .val (.list (ws.map nI))]) :
    WpX Zn (den_law_worth [.val (enRd e ls n m acc), .val (.list (ws.map nI))]) Q := by
  refine wpd_law_worth _ _ _ ?_
  unfold body_law_worth enRd
  walk_at "dl"
  refine wp_forL (fun i ρ => ∃ c3, ρ = [.val (enRd e ls n m acc), .val (.list (ws.map nI)), .val (nI (valN m ls e (ws.take i))), c3] ∧ Loose c3) ⟨.un, rfl, .un⟩ (fun i d ρ hd hI => ?_) fun ρ hI => ?_
  · obtain ⟨c3, rfl, h3⟩ := hI
    rw [List.getElem?_map] at hd
    cases q : ws[i]? with
    | none => rw [q] at hd; cases hd
    | some l =>
      rw [q] at hd
      obtain rfl : nI l = d := Option.some.inj hd
      have hl := hw l (List.mem_of_getElem? q)
      obtain ⟨a1, a2⟩ := letter_at R hl
      have hv := valN_lt R (ws.take i) e R.eu fun x hx => hw x (List.mem_of_mem_take hx)
      refine ⟨_, setV_fr rfl h3 _, ?_⟩
      unfold enRd nI
      walk_at "dl"
      rw [(mul_at hv a2).1]
      walk_at "dl"
      rw [atI_map (f := fun n : Nat => PyData.int (n : Nat)) a1]
      walk_at "dl"
      rw [← oIx_tup, (mul_at hv a2).2]
      walk_at "dl"
      refine ⟨.val (nI l), ?_, .val _⟩
      rw [List.take_add_one, q]
      unfold valN
      rw [List.foldl_append]
      rfl
  · obtain ⟨c3, rfl, h3⟩ := hI
    rw [List.length_map, List.take_length]
    walk_at "dl"
    exact k
/-! ### small readers -/
def smM (kind size shift x y : Nat) : Nat := ((prodI kind size (((x : Int) - shift) % size) (((y : Int) - shift) % size) + shift) % size).toNat
def smGood (kind size shift : Nat) : Bool := (List.range size).all fun x => smM kind size shift shift x == x && smM kind size shift x shift == x && (List.range size).all fun y => decide (smM kind size shift x y < size) && (List.range size).all fun z => smM kind size shift (smM kind size shift x y) z == smM kind size shift x (smM kind size shift y z)
theorem smGood_all : (([1, 2, 3] : List Nat).all fun size => (List.range 4).all fun kind => (List.range size).all fun shift => smGood kind size shift) = true := by decide +kernel
theorem sm_ok {count kind size shift : Nat} {ls acc : List Nat} (h1 : 1 ≤ size) (h3 : size ≤ 3) (hk : kind < 4) (hs : shift < size) (hl : ls.length = count) (hls : ∀ l ∈ ls, l < size) (hacc : acc.Sublist (List.range size)) : RdOk count shift ls size (smM kind size shift) acc := by
  have g : smGood kind size shift = true := by
    have a := List.all_eq_true.mp smGood_all size (by
      have : size = 1 ∨ size = 2 ∨ size = 3 := by omega
      rcases this with rfl | rfl | rfl <;> decide)
    exact List.all_eq_true.mp (List.all_eq_true.mp a kind (List.mem_range.mpr hk)) shift (List.mem_range.mpr hs)
  unfold smGood at g
  have gx : ∀ x, x < size → _ := fun x hx => List.all_eq_true.mp g x (List.mem_range.mpr hx)
  simp only [Bool.and_eq_true, beq_iff_eq] at gx
  have gy : ∀ x y, x < size → y < size → _ := fun x y hx hy => List.all_eq_true.mp (gx x hx).2 y (List.mem_range.mpr hy)
  simp only [Bool.and_eq_true, decide_eq_true_eq] at gy
  refine ⟨h1, by omega, fun x y hx hy => (gy x y hx hy).1, hs, fun x hx => (gx x hx).1.1, fun x hx => (gx x hx).1.2, fun x y z hx hy hz => ?_, hl, hls, hacc⟩
  exact eq_of_beq (List.all_eq_true.mp (gy x y hx hy).2 z (List.mem_range.mpr hz))
theorem modN {a : Int} {n : Nat} (h : 1 ≤ n) : a % (n : Nat) = ((a % (n : Nat)).toNat : Nat) := by
  have := Int.emod_nonneg a (show ((n : Nat) : Int) ≠ 0 by omega)
  omega
theorem small_ok {o : OD} (h : StOk o) {count : Nat} (hcount : count ≤ 1000) {Q : PyData → DEnv → Prop} (k : ∀ (o' : OD) (e : Nat) (ls : List Nat) (n : Nat) (m : Nat → Nat → Nat) (acc : List Nat), StOk o' → n ≤ 3 → RdOk count e ls n m acc → Q (enRd e ls n m acc) [.io o', .val (nI count)]) :
    WpX Zn (den_law_small_reader [.io o, .val (nI count)]) Q := by
  refine wpd_law_small_reader _ _ _ ?_
  unfold body_law_small_reader
  walk_at "dl"
  refine draw_io rfl h (by omega) (by omega) fun o1 d1 hs1 p1 q1 => ?_
  obtain ⟨n, hn⟩ : ∃ n : Nat, 1 + d1 = (n : Int) := ⟨(1 + d1).toNat, by omega⟩
  walk_at "dl"
  rw [hn]
  refine draw_io rfl hs1 (by omega) (by omega) fun o2 d2 hs2 p2 q2 => ?_
  obtain ⟨kind, rfl⟩ := Int.eq_ofNat_of_zero_le p2
  walk_at "dl"
  refine draw_io rfl hs2 (by omega) (by omega) fun o3 d3 hs3 p3 q3 => ?_
  obtain ⟨shift, rfl⟩ := Int.eq_ofNat_of_zero_le p3
  walk_at "dl"
  refine ⟨inR_nat (by omega), ?_⟩
  rw [Int.toNat_natCast, intsD_nI]
  have bk : ∀ a : Int, 0 ≤ a % (n : Nat) ∧ a % (n : Nat) < (n : Nat) := fun a => ⟨Int.emod_nonneg _ (by omega), Int.emod_lt_of_pos _ (by omega)⟩
  refine wp_lcMapOf (fun x => .int (((x : Nat) - (shift : Nat) : Int) % (n : Nat))) (by rw [List.length_range]; omega) (fun x hx => ⟨_, rfl, ?_⟩) ?_
  · unfold nI
    walk_at "dl"
    omega
  · walk_at "dl"
    refine ⟨inR_nat (by omega), ?_⟩
    rw [Int.toNat_natCast, intsD_nI]
    refine wp_lcMapOf (fun x => .tuple (enRow n (smM kind n shift x))) (by rw [List.length_range]; omega) (fun x hx => ⟨_, rfl, ?_⟩) ?_
    · have hx : x < n := List.mem_range.mp hx
      walk_at "dl"
      refine ⟨inR_nat (by omega), ?_⟩
      rw [Int.toNat_natCast, intsD_nI]
      refine wp_lcMapOf (fun y => nI (smM kind n shift x y)) (by rw [List.length_range]; omega) (fun y hy => ⟨_, rfl, ?_⟩) ?_
      · have hy : y < n := List.mem_range.mp hy
        walk_at "dl"
        rw [show oIx (.list ((List.range n).map fun x => PyData.int (((x : Nat) - (shift : Nat) : Int) % (n : Nat)))) (nI x) = atI ((List.range n).map fun x => PyData.int (((x : Nat) - (shift : Nat) : Int) % (n : Nat))) (x : Nat) from rfl, atI_map (f := fun x : Nat => PyData.int (((x : Nat) - (shift : Nat) : Int) % (n : Nat))) (List.getElem?_range hx)]
        walk_at "dl"
        rw [show oIx (.list ((List.range n).map fun x => PyData.int (((x : Nat) - (shift : Nat) : Int) % (n : Nat)))) (nI y) = atI ((List.range n).map fun x => PyData.int (((x : Nat) - (shift : Nat) : Int) % (n : Nat))) (y : Nat) from rfl, atI_map (f := fun x : Nat => PyData.int (((x : Nat) - (shift : Nat) : Int) % (n : Nat))) (List.getElem?_range hy)]
        walk_at "dl"
        refine product_ok (by omega) ?_
        walk_at "dl"
        refine ⟨by omega, ?_⟩
        unfold smM nI
        rw [← modN (by omega)]
      · walk_at "dl"
        rfl
    · walk_at "dl"
      unfold nI
      walk_at "dl"
      refine ⟨inR_nat (by omega), ?_⟩
      rw [Int.toNat_natCast]
      generalize hc5 : Cell.own (OD.lst (List.map (fun x : Nat => PyData.int (((x : Nat) - (shift : Nat) : Int) % (n : Nat))) (List.range n))) = c5
      generalize hc6 : Cell.val (PyData.tuple (List.map (fun x => PyData.tuple (enRow n (smM kind n shift x))) (List.range n))) = c6
      refine wp_lcL (fun i acc ρ => ∃ (o' : OD) (ls : List Nat), acc = ls.map nI ∧ ls.length = i ∧ (∀ l ∈ ls, l < n) ∧ StOk o' ∧ ρ = [.io o', .val (.int (count : Nat)), .val (.int (n : Nat)), .val (.int (kind : Nat)), .val (.int (shift : Nat)), c5, c6, .un, .un, .un, .un, .un])
        ⟨o3, [], rfl, rfl, fun x hx => (by cases hx), hs3, rfl⟩ (small_line (by rw [ints_len]; omega)) (fun i d acc ρ hd hI => ?_) fun acc ρ hI => ?_
      · obtain ⟨o', ls, rfl, hx, hlt, hs, rfl⟩ := hI
        refine ⟨_, rfl, ?_⟩
        walk_at "dl"
        refine draw_io rfl hs (by omega) (by omega) fun o3 j hs3 hj0 hj1 => ?_
        obtain ⟨j, rfl⟩ := Int.eq_ofNat_of_zero_le hj0
        walk_at "dl"
        exact ⟨o3, ls ++ [j], by rw [List.map_append]; rfl, by rw [List.length_append, hx]; rfl, fun x hx => (List.mem_append.mp hx).elim (hlt x) fun z => by rw [List.mem_singleton.mp z]; omega, hs3, rfl⟩
      · obtain ⟨o', ls, rfl, hx, hlt, hs, rfl⟩ := hI
        rw [ints_len] at hx
        walk_at "dl"
        refine ⟨inR_nat (by omega), ?_⟩
        rw [Int.toNat_natCast, intsD_nI]
        generalize hc7 : Cell.val (PyData.tuple (ls.map nI)) = c7
        refine wp_lcL (fun i acc ρ => ∃ (o' : OD) (es : List Nat), acc = es.map nI ∧ es.Sublist ((List.range n).take i) ∧ StOk o' ∧ ρ = [.io o', .val (.int (count : Nat)), .val (.int (n : Nat)), .val (.int (kind : Nat)), .val (.int (shift : Nat)), c5, c6, c7, .un, .un, .un, .un])
          ⟨o', [], rfl, List.nil_sublist _, hs, rfl⟩ (small_line (by rw [List.length_map, List.length_range]; omega)) (fun i d acc ρ hd hI => ?_) fun acc ρ hI => ?_
        · obtain ⟨o', es, rfl, hsub, hs, rfl⟩ := hI
          rw [List.getElem?_map] at hd
          cases q : (List.range n)[i]? with
          | none => rw [q] at hd; cases hd
          | some x =>
            rw [q] at hd
            obtain rfl : nI x = d := Option.some.inj hd
            refine ⟨_, rfl, ?_⟩
            walk_at "dl"
            refine draw_io rfl hs (by omega) (by omega) fun o3 j hs3 hj0 hj1 => ?_
            walk_at "dl"
            refine ite2 (fun _ => ?_) (fun _ => ?_)
            · walk_at "dl"
              refine ⟨o3, es ++ [x], by rw [List.map_append]; rfl, ?_, hs3, rfl⟩
              rw [List.take_add_one, q]
              exact hsub.append (List.Sublist.refl [x])
            · refine ⟨o3, es, rfl, ?_, hs3, rfl⟩
              rw [List.take_add_one]
              exact hsub.trans (List.sublist_append_left _ _)
        · obtain ⟨o', es, rfl, hsub, hs, rfl⟩ := hI
          rw [List.length_map, List.take_length] at hsub
          subst hc5 hc6 hc7
          walk_at "dl"
          exact k o' shift ls n _ es hs (by omega) (sm_ok (by omega) (by omega) (by omega) (by omega) hx hlt hsub)

end M

set_option Elab.async false
set_option linter.all false
set_option maxRecDepth 100000
set_option maxHeartbeats 4000000
namespace M
open PySem PySem.Spec PyProof.Rows L2 DL

local macro_rules | `(tactic| walk_at "dl") => `(tactic| try simp only [↓ws_seq, ↓ws_nx, ↓ws_bk, ↓ws_ct, ↓ws_ret, ↓ws_retN, ↓ws_drop, ↓ws_if, ↓ws_asg, ↓ws_new, ↓ws_nxOf, ↓ws_frz, ↓ws_for, ↓ws_app, ↓ws_setH, ↓wp_C, ↓wp_vr, ↓wp_op, ↓wp_un, ↓wp_nil, ↓wp_cons, ↓wp_call, ↓wp_tup, ↓wp_lst, ↓wp_frz, ↓wp_tof, ↓wp_tru, ↓wp_tnot, ↓wp_tand, ↓wp_tor, ↓wp_and, ↓wp_or, ↓wp_not, ↓wp_if, ↓wp_chain, ↓wp_len, ↓wp_tupleOf, ↓wp_listOf, ↓wp_lof, ↓wp_lname, ↓wp_ixN, ↓wp_inN, ↓wp_indexN, ↓wp_popAt, ↓wp_tupRg, ↓wp_lstRg, ↓wp_sl, ↓wp_noPart, ↓wp_part, ↓wp_callV, ↓wp_callI, ↓wp_iseq, ↓wp_irng, ↓wp_lc, ↓wp_of_some, ↓wp_dget, ↓wp_dgetT, ↓ws_dput, ↓ws_dputT, ↓wp_newT, ↓wp_newK, ↓wp_disp, ↓wp_callF, ↓wf_seq, ↓wf_frz, ↓wp_ienums, ↓wp_izip, ↓ws_aug, ↓wp_sorted, ↓ws_augH, ↓wp_rep, ↓wp_sortD, ↓wp_sortSet, ↓wp_dc, ↓wp_keys, ↓wp_inK, ↓wp_lenK, ↓ws_ext, ↓wp_fLcH, ↓wp_fLc2, ↓wp_kget, ↓ws_frzK, ↓wp_fld, ↓ws_fset, ↓wp_meth, ↓wp_make, ↓wp_rev, ↓wp_sortDr, ↓wp_lstRev, ↓wp_irevRg, frzKO_own, frzKO_val, undk_dk, lstQ_lst, Int.reduceBEq,
  onNx_nx, onNx_rt, onNx_bk, onNx_ct, boolQ_bool, intQ_int, frzQ_lst, retQ_rt, retQ_nx, cellQ_val, heldQ_some, ixQ_some, atI_0, ixN_0, atI_1, ixN_1, atI_2, ixN_2, atI_3, ixN_3, atI_4, ixN_4, atI_5, ixN_5, atI_6, ixN_6, atI_7, ixN_7, len_0, len_1, len_2, len_3, len_4, len_5, len_6, len_7, len_8, wp_of_ite, List.getElem?_cons_succ, List.getElem?_cons_zero, setV_eq, setVo_val, setVo_un, setVo_own, setO_eq, setOo_val, setOo_un, setOo_own, nameD_eq, nameO_val, nameO_own, nameO_io, heldL_eq, heldO_own, heldO_io, isHeld_eq, setHeld_eq, setHeldO_own, setHeldO_io, frzC_eq, frzO_own, frzO_val, frzO_io, frzO_un, List.set_cons_succ, List.set_cons_zero, Option.bind_some, Option.isSome_some, Option.getD_some, Option.map_some, own_own, own_io, isLst_some, List.map_cons, List.map_nil,
  oAdd_int, oAdd_tup, oSub_int, oMul_int, oDiv_int, oMod_int, oPow_int, oNeg_int, oLt_int, oLe_int, oGt_int, oGe_int, oIx_lst, oIx_tup, oInt_int, oInt_bool, oMax2_int, oMin2_int, oEq_int, oNe_int, oEq_bool, oNe_bool, oIsN_none, oNotN_none, isNone_none, isNone_int, isNone_tup, isNone_lst, isNone_str, tru_bool, tru_int, tru_none, tru_lst, tru_tup, seqOf_lst, seqOf_tup, slOf_lst, slOf_tup, rng1_int, rng2_int, wipeC_nil, wipeC_cons, backIO_nil, backIO_io', backIO_val, isi_int_int, isi_bool_int, isi_bool_bool, isi_int_bool, Bool.false_eq_true, reduceCtorEq, unwipe_one, loopQ_nx, loopQ_ct, loopQ_bk, loopQ_rt, wp_tTrue,  augQ_val, oAddI_int, oSubI_int, isi_int_str, isi_int_tup, isi_tup_tup, isi_tup_int, isi_tup_str, oShl_int, oShr_int, oOr_int, oAnd_int, oXor_int, someQ_some, someQ_ite, repOf_int, isi_lst_lst, nxF_nx, retF_eq, dkQ_dk, dtQ_dt, keyQ_some, hobj_eq, hobjO_own, hobjO_io, keyD_int, keyD_str, keysD_nil, keysD_int, frzO_dk, frzO_dt, eq_self, ↓wp_cat, catQ_list, unwipe_nil, unwipe_cons, wp_callFI, wp_retOwn, ownQ_own, wp_chain3, wp_newN, wp_dgetN, ws_dputN, dnQ_dn, ↓wp_tget, ↓wp_tin, ↓wp_tget1, isDt_dt, ↓ws_tput, ↓wp_slN, tupQ_tup, keyTD_tup, ↓wp_dcT, ↓wp_newS, ↓wp_skin, ↓wp_skadd, tsQ_ts, isTs_ts, box_row, box_at, box_put, box_merge, insQ_ins, mkQ_io, rlQ_list, roQ_some, if_true, if_false, Bool.not_true, Bool.not_false, decide_eq_true_eq, true_and, and_true])
local macro_rules | `(tactic| walk_at "dls") => `(tactic| simp only [setV_eq, setVo_val, setVo_un, setVo_own, List.getElem?_cons_succ, List.getElem?_cons_zero, List.set_cons_succ, List.set_cons_zero])

variable [Wd]
/-! ### machines -/
noncomputable section
def mT : DEnv → Res Out := sSeq (sAsg (dTupleOf (lOf (dFrz (fLc [17] (iRng rng1 (dCons (dCallI den_law_draw 0 (dCons (dOp oAdd (dVar 6) (dC (.int 1))) (dNil))) (dNil))) (setV 17) (tTrue) (dIxN 7 (dCallI den_law_draw 0 (dCons (dLen (lName 7)) (dNil)))))))) (setV 16)) (sIf (tOf (dOp oNe (dVar 15) (dC (.str "none")))) (sApp 9 (dTup (dCons (dVar 10) (dCons (dVar 11) (dCons (dVar 12) (dCons (dVar 13) (dCons (dVar 15) (dCons (dCallI den_law_draw 0 (dCons (dVar 4) (dNil))) (dCons (dVar 16) (dNil)))))))))) (sNx))
def mR : DEnv → Res Out := sSeq (sAsg (dOp oAdd (dSl (dVar 5) (oNoPart) (oPart (dC (.int 3)))) (dTup (dCons (dTup (dNil)) (dNil)))) (setV 5)) (sSeq (sAsg (dCallI den_law_draw 0 (dCons (dC (.int 3)) (dNil))) (setV 6)) (sSeq (sAsg (dOp oIx (dFrz (fLst (dCons (dTup (dCons (dC (.int 0)) (dNil))) (dCons (dTup (dCons (dC (.int 0)) (dCons (dC (.int 1)) (dNil)))) (dCons (dTup (dCons (dC (.int 1)) (dCons (dC (.int 2)) (dNil)))) (dCons (dTup (dCons (dC (.int 0)) (dNil))) (dNil))))))) (dCallI den_law_draw 0 (dCons (dC (.int 4)) (dNil)))) (setV 7)) (sSeq (sAsg (dLen (lOf (dIxN 5 (dC (.int 2))))) (setV 8)) (sSeq (sNew 9 (fLst (dNil))) (sSeq (sFor (iRng rng1 (dCons (dVar 4) (dNil))) (setV 10) (sFor (iRng rng1 (dCons (dVar 8) (dNil))) (setV 11) (sFor (iRng rng1 (dCons (dOp oAdd (dVar 3) (dC (.int 2))) (dNil))) (setV 12) (sFor (iRng rng1 (dCons (dVar 8) (dNil))) (setV 13) (sSeq (sAsg (dCallI den_law_draw 0 (dCons (dC (.int 9)) (dNil))) (setV 14)) (sSeq (sAsg (dOp oIx (dFrz (fLst (dCons (dC (.str "right")) (dCons (dC (.str "right")) (dCons (dC (.str "left")) (dCons (dC (.str "stop")) (dCons (dC (.str "right")) (dCons (dC (.str "left")) (dCons (dC (.str "stop")) (dCons (dC (.str "right")) (dCons (dC (.str "none")) (dNil)))))))))))) (dVar 14)) (setV 15)) (sSeq (sIf (tAndD (tOf (dOp oEq (dVar 12) (dC (.int 1)))) (tOf (dOp oEq (dVar 15) (dC (.str "right"))))) (sAsg (dOp oIx (dFrz (fLst (dCons (dC (.str "stop")) (dCons (dC (.str "left")) (dNil))))) (dCallI den_law_draw 0 (dCons (dC (.int 2)) (dNil)))) (setV 15)) (sNx)) (mT)))))))) (sRet (dTup (dCons (dVar 3) (dCons (dVar 4) (dCons (dVar 5) (dCons (dVar 6) (dCons (dVar 7) (dCons (dTupleOf (lName 9)) (dNil))))))))))))))
theorem mR_eq : body_law_machine = sSeq (sAsg (dOp oAdd (dC (.int 1)) (dCallI den_law_draw 0 (dCons (dC (.int 3)) (dNil)))) (setV 3)) (sSeq (sAsg (dOp oAdd (dC (.int 1)) (dCallI den_law_draw 0 (dCons (dVar 1) (dNil)))) (setV 4)) (sSeq (sAsg (dCallI den_law_small_reader 0 (dCons (dOp oAdd (dVar 3) (dC (.int 2))) (dNil))) (setV 5)) (sSeq (sIf (tOrD (tOf (dOp oEq (dVar 2) (dC (.int 1)))) (tOf (dOp oEq (dCallI den_law_draw 0 (dCons (dC (.int 2)) (dNil))) (dC (.int 1))))) (sAsg (dTup (dCons (dC (.int 0)) (dCons (dTupleOf (lOf (dOp oMul (dFrz (fLst (dCons (dC (.int 0)) (dNil)))) (dOp oAdd (dVar 3) (dC (.int 2)))))) (dCons (dTup (dCons (dTup (dCons (dC (.int 0)) (dNil))) (dNil))) (dCons (dTup (dNil)) (dNil)))))) (setV 5)) (sNx)) (mR)))) := rfl
end

structure MStep where
  p : Nat
  u : Nat
  a : Nat
  v : Nat
  mv : Str
  q : Nat
  pc : List Nat
def enStep (s : MStep) : PyData := .tuple [nI s.p, nI s.u, nI s.a, nI s.v, .str s.mv, nI s.q, .tuple (s.pc.map nI)]
structure StepOk (S : Nat) (s : MStep) : Prop where
  q : s.q < S
  mv : s.mv = "right" ∨ s.mv = "left" ∨ s.mv = "stop"
  pc : s.pc.length ≤ 2
def enM (L S e : Nat) (ls : List Nat) (n : Nat) (m : Nat → Nat → Nat) (width : Nat) (outs : List Nat) (ss : List MStep) : PyData := .tuple [nI L, nI S, enRd e ls n m [], nI width, .tuple (outs.map nI), .tuple (ss.map enStep)]
structure MOk (L S e : Nat) (ls : List Nat) (n : Nat) (m : Nat → Nat → Nat) (ss : List MStep) : Prop where
  l1 : 1 ≤ L
  l3 : L ≤ 3
  s1 : 1 ≤ S
  s3 : S ≤ 3
  n3 : n ≤ 3
  rd : RdOk (L + 2) e ls n m []
  st : ∀ s ∈ ss, StepOk S s
  len : ss.length ≤ 135
theorem outs_at {j : Nat} (h : j < 4) : ∃ outs : List Nat, 1 ≤ outs.length ∧ outs.length ≤ 2 ∧ atI [PyData.tuple [.int 0], .tuple [.int 0, .int 1], .tuple [.int 1, .int 2], .tuple [.int 0]] (j : Nat) = some (.tuple (outs.map nI)) := by
  have : j = 0 ∨ j = 1 ∨ j = 2 ∨ j = 3 := by omega
  rcases this with rfl | rfl | rfl | rfl
  · exact ⟨[0], by decide, by decide, rfl⟩
  · exact ⟨[0, 1], by decide, by decide, rfl⟩
  · exact ⟨[1, 2], by decide, by decide, rfl⟩
  · exact ⟨[0], by decide, by decide, rfl⟩
theorem moves_at {j : Nat} (h : j < 9) : ∃ mv : Str, (mv = "right" ∨ mv = "left" ∨ mv = "stop" ∨ mv = "none") ∧ atI [PyData.str "right", .str "right", .str "left", .str "stop", .str "right", .str "left", .str "stop", .str "right", .str "none"] (j : Nat) = some (.str mv) := by
  have : j = 0 ∨ j = 1 ∨ j = 2 ∨ j = 3 ∨ j = 4 ∨ j = 5 ∨ j = 6 ∨ j = 7 ∨ j = 8 := by omega
  rcases this with rfl | rfl | rfl | rfl | rfl | rfl | rfl | rfl | rfl <;> exact ⟨_, by simp, rfl⟩
theorem moves2_at {j : Nat} (h : j < 2) : ∃ mv : Str, (mv = "stop" ∨ mv = "left") ∧ atI [PyData.str "stop", .str "left"] (j : Nat) = some (.str mv) := by
  have : j = 0 ∨ j = 1 := by omega
  rcases this with rfl | rfl <;> exact ⟨_, by simp, rfl⟩
theorem cut3 (a b c d : PyData) : cutD [a, b, c, d] none (some 3) = [a, b, c] := rfl
theorem range_at {n i : Nat} {d : PyData} (h : ((List.range n).map nI)[i]? = some d) : d = nI i ∧ i < n := by
  rw [List.getElem?_map] at h
  by_cases hi : i < n
  · rw [List.getElem?_range hi] at h
    exact ⟨(Option.some.inj h).symm, hi⟩
  · rw [List.getElem?_eq_none (by rw [List.length_range]; omega)] at h
    cases h
/-- a machine's piece -/
theorem sOk (mv : Str) (h : mv = "right" ∨ mv = "left" ∨ mv = "stop" ∨ mv = "none") : PySem.PyData.strOk mv = true := by
  rcases h with rfl | rfl | rfl | rfl <;> decide +kernel
theorem step_tail {o : OD} (h : StOk o) {S width : Nat} {outs : List Nat} {ss : List MStep} {LK N cL c14 c16 : Cell} {i j a v : Nat} {mv : Str} (hS : 1 ≤ S ∧ S ≤ 3) (hw : width ≤ 2) (ou : 1 ≤ outs.length ∧ outs.length ≤ 2) (hss : ∀ s ∈ ss, StepOk S s) (hl : ss.length ≤ 1000) (hmv : mv = "right" ∨ mv = "left" ∨ mv = "stop" ∨ mv = "none") (h16 : Loose c16) {Z : Out → DEnv → Prop}
    (k : ∀ (o' : OD) (ss' : List MStep) (c16' : Cell), StOk o' → (∀ s ∈ ss', StepOk S s) → ss'.length ≤ ss.length + 1 → Loose c16' → Z .nx [.io o', .val (.int 3), .val (.int 2), cL, .val (.int (S : Nat)), LK, .val (.int (width : Nat)), .val (.tuple (outs.map nI)), N, .own (.lst (ss'.map enStep)), .val (nI i), .val (nI j), .val (nI a), .val (nI v), c14, .val (.str mv), c16', .un]) :
    WpX Zn (mT [.io o, .val (.int 3), .val (.int 2), cL, .val (.int (S : Nat)), LK, .val (.int (width : Nat)), .val (.tuple (outs.map nI)), N, .own (.lst (ss.map enStep)), .val (nI i), .val (nI j), .val (nI a), .val (nI v), c14, .val (.str mv), c16, .un]) Z := by
  unfold mT
  walk_at "dl"
  refine draw_io rfl h (by omega) (by omega) fun o1 d1 hs1 p1 q1 => ?_
  obtain ⟨b, rfl⟩ := Int.eq_ofNat_of_zero_le p1
  walk_at "dl"
  refine ⟨inR_nat (by omega), ?_⟩
  rw [Int.toNat_natCast, intsD_nI]
  refine wp_lcL (fun i_ acc ρ => ∃ (o' : OD) (pc : List Nat), acc = pc.map nI ∧ pc.length = i_ ∧ StOk o' ∧ ρ = [.io o', .val (.int 3), .val (.int 2), cL, .val (.int (S : Nat)), LK, .val (.int (width : Nat)), .val (.tuple (outs.map nI)), N, .own (.lst (ss.map enStep)), .val (nI i), .val (nI j), .val (nI a), .val (nI v), c14, .val (.str mv), c16, .un])
    ⟨o1, [], rfl, rfl, hs1, rfl⟩ (small_line (by rw [List.length_map, List.length_range]; omega)) (fun i_ d acc ρ hd hI => ?_) fun acc ρ hI => ?_
  · obtain ⟨o', pc, rfl, hx, hs, rfl⟩ := hI
    refine ⟨_, rfl, ?_⟩
    walk_at "dl"
    rw [List.length_map]
    refine draw_io rfl hs (by omega) (by omega) fun o3 x hs3 hx0 hx1 => ?_
    obtain ⟨x, rfl⟩ := Int.eq_ofNat_of_zero_le hx0
    have hx2 : x < outs.length := by omega
    walk_at "dl"
    rw [atI_map (List.getElem?_eq_getElem hx2)]
    walk_at "dl"
    exact ⟨o3, pc ++ [outs[x]], by rw [List.map_append]; rfl, by rw [List.length_append, hx]; rfl, hs3, rfl⟩
  · obtain ⟨o', pc, rfl, hx, hs, rfl⟩ := hI
    rw [List.length_map, List.length_range] at hx
    walk_at "dl"
    rw [setVo_loose h16]
    walk_at "dl"
    rw [oNe_str (sOk mv hmv) (by decide +kernel)]
    walk_at "dl"
    refine ite2 (fun hne => ?_) (fun _ => ?_)
    · walk_at "dl"
      refine draw_io rfl hs (by omega) (by omega) fun o3 x hs3 hx0 hx1 => ?_
      obtain ⟨x, rfl⟩ := Int.eq_ofNat_of_zero_le hx0
      walk_at "dl"
      refine ⟨small_line' (by rw [List.length_map]; omega), ?_⟩
      have new : (ss.map enStep ++ [PyData.tuple [nI i, nI j, nI a, nI v, .str mv, .int (x : Nat), .tuple (pc.map nI)]]) = (ss ++ [(⟨i, j, a, v, mv, x, pc⟩ : MStep)]).map enStep := by rw [List.map_append]; rfl
      rw [new]
      refine k o3 _ _ hs3 (fun s hs => ?_) (by rw [List.length_append]; simp) (.val _)
      rcases List.mem_append.mp hs with z | z
      · exact hss s z
      · rw [List.mem_singleton.mp z]
        refine ⟨by show x < S; omega, ?_, by show pc.length ≤ 2; omega⟩
        rcases hmv with e | e | e | e
        · exact .inl e
        · exact .inr (.inl e)
        · exact .inr (.inr e)
        · exact absurd hne (by rw [e]; simp)
    · exact k o' ss _ hs hss (by omega) (.val _)
theorem machine_rest {o : OD} (h : StOk o) {L S e : Nat} {ls : List Nat} {n : Nat} {m : Nat → Nat → Nat} {acc : List Nat} (hL : 1 ≤ L ∧ L ≤ 3) (hS : 1 ≤ S ∧ S ≤ 3) (hn : n ≤ 3) (R : RdOk (L + 2) e ls n m acc) {Z : Out → DEnv → Prop}
    (k : ∀ (o' : OD) (width : Nat) (outs : List Nat) (ss : List MStep) (ρ : DEnv), StOk o' → MOk L S e ls n m ss → Z (.rt (enM L S e ls n m width outs ss)) (.io o' :: .val (.int 3) :: .val (.int 2) :: ρ)) :
    WpX Zn (mR [.io o, .val (.int 3), .val (.int 2), .val (nI L), .val (nI S), .val (enRd e ls n m acc), .un, .un, .un, .un, .un, .un, .un, .un, .un, .un, .un, .un]) Z := by
  have n1 := R.pos
  have R' : RdOk (L + 2) e ls n m [] := ⟨R.pos, R.le, R.lt, R.eu, R.l0, R.r0, R.assoc, R.len, R.lets, List.nil_sublist _⟩
  unfold mR enRd
  walk_at "dl"
  rw [cut3]
  rw [show ([nI e, PyData.tuple (ls.map nI), enMul n m] ++ [PyData.tuple []]) = [nI e, PyData.tuple (ls.map nI), enMul n m, PyData.tuple ([].map nI)] from rfl]
  refine ⟨small_line (by show 3 + 1 ≤ 1000000; omega), ?_⟩
  walk_at "dl"
  refine draw_io rfl h (by omega) (by omega) fun o1 d1 hs1 p1 q1 => ?_
  obtain ⟨width, rfl⟩ := Int.eq_ofNat_of_zero_le p1
  walk_at "dl"
  refine draw_io rfl hs1 (by omega) (by omega) fun o2 d2 hs2 p2 q2 => ?_
  obtain ⟨j2, rfl⟩ := Int.eq_ofNat_of_zero_le p2
  obtain ⟨outs, ou1, ou2, eo⟩ := outs_at (j := j2) (by omega)
  walk_at "dl"
  rw [eo]
  walk_at "dl"
  have e2 : atI [nI e, PyData.tuple (ls.map nI), enMul n m, PyData.tuple []] 2 = some (enMul n m) := rfl
  have sq : seqOf (enMul n m) = some (.T, (List.range n).map fun x => .tuple (enRow n (m x))) := rfl
  rw [sq]
  walk_at "dl"
  rw [List.length_map, List.length_range]
  generalize hLK : Cell.val (PyData.tuple [nI e, PyData.tuple (ls.map nI), enMul n m, PyData.tuple []]) = LK
  unfold nI
  walk_at "dl"
  refine ⟨inR_nat (by omega), ?_⟩
  rw [Int.toNat_natCast, intsD_nI]
  refine wp_forL (fun i ρ => ∃ (o' : OD) (ss : List MStep) (c10 c11 c12 c13 c14 c15 c16 : Cell), ρ = [.io o', .val (.int 3), .val (.int 2), .val (.int (L : Nat)), .val (.int (S : Nat)), LK, .val (.int (width : Nat)), .val (.tuple (outs.map nI)), .val (.int (n : Nat)), .own (.lst (ss.map enStep)), c10, c11, c12, c13, c14, c15, c16, .un] ∧ StOk o' ∧ (∀ s ∈ ss, StepOk S s) ∧ ss.length ≤ i * 45 ∧ Loose c10 ∧ Loose c11 ∧ Loose c12 ∧ Loose c13 ∧ Loose c14 ∧ Loose c15 ∧ Loose c16)
    ⟨o2, [], .un, .un, .un, .un, .un, .un, .un, rfl, hs2, fun s hs => (by cases hs), by simp, .un, .un, .un, .un, .un, .un, .un⟩ (fun i d ρ hd hI => ?_) fun ρ hI => ?_
  · obtain ⟨o', ss, c10, c11, c12, c13, c14, c15, c16, rfl, hs, hss, hlen, h10, h11, h12, h13, h14, h15, h16⟩ := hI
    obtain ⟨rfl, hi⟩ := range_at hd
    refine ⟨_, setV_fr rfl h10 _, ?_⟩
    walk_at "dl"
    refine ⟨inR_nat (by omega), ?_⟩
    rw [Int.toNat_natCast, intsD_nI]
    refine wp_forL (fun j ρ => ∃ (o' : OD) (ss : List MStep) (c11 c12 c13 c14 c15 c16 : Cell), ρ = [.io o', .val (.int 3), .val (.int 2), .val (.int (L : Nat)), .val (.int (S : Nat)), LK, .val (.int (width : Nat)), .val (.tuple (outs.map nI)), .val (.int (n : Nat)), .own (.lst (ss.map enStep)), .val (nI i), c11, c12, c13, c14, c15, c16, .un] ∧ StOk o' ∧ (∀ s ∈ ss, StepOk S s) ∧ ss.length ≤ i * 45 + j * 15 ∧ Loose c11 ∧ Loose c12 ∧ Loose c13 ∧ Loose c14 ∧ Loose c15 ∧ Loose c16)
      ⟨o', ss, c11, c12, c13, c14, c15, c16, rfl, hs, hss, by omega, h11, h12, h13, h14, h15, h16⟩ (fun j d ρ hd hI => ?_) fun ρ hI => ?_
    · clear hss hlen h11 h12 h13 h14 h15 h16 hs
      obtain ⟨o', ss, c11, c12, c13, c14, c15, c16, rfl, hs, hss, hlen, h11, h12, h13, h14, h15, h16⟩ := hI
      obtain ⟨rfl, hj⟩ := range_at hd
      refine ⟨_, setV_fr rfl h11 _, ?_⟩
      walk_at "dl"
      rw [show ((L : Nat) : Int) + 2 = ((L + 2 : Nat) : Int) by push_cast; rfl]
      refine ⟨inR_nat (by omega), ?_⟩
      rw [Int.toNat_natCast, intsD_nI]
      refine wp_forL (fun a ρ => ∃ (o' : OD) (ss : List MStep) (c12 c13 c14 c15 c16 : Cell), ρ = [.io o', .val (.int 3), .val (.int 2), .val (.int (L : Nat)), .val (.int (S : Nat)), LK, .val (.int (width : Nat)), .val (.tuple (outs.map nI)), .val (.int (n : Nat)), .own (.lst (ss.map enStep)), .val (nI i), .val (nI j), c12, c13, c14, c15, c16, .un] ∧ StOk o' ∧ (∀ s ∈ ss, StepOk S s) ∧ ss.length ≤ i * 45 + j * 15 + a * 3 ∧ Loose c12 ∧ Loose c13 ∧ Loose c14 ∧ Loose c15 ∧ Loose c16)
        ⟨o', ss, c12, c13, c14, c15, c16, rfl, hs, hss, by omega, h12, h13, h14, h15, h16⟩ (fun a d ρ hd hI => ?_) fun ρ hI => ?_
      · clear hss hlen h12 h13 h14 h15 h16 hs
        obtain ⟨o', ss, c12, c13, c14, c15, c16, rfl, hs, hss, hlen, h12, h13, h14, h15, h16⟩ := hI
        obtain ⟨rfl, ha⟩ := range_at hd
        refine ⟨_, setV_fr rfl h12 _, ?_⟩
        walk_at "dl"
        refine ⟨inR_nat (by omega), ?_⟩
        rw [Int.toNat_natCast, intsD_nI]
        refine wp_forL (fun v ρ => ∃ (o' : OD) (ss : List MStep) (c13 c14 c15 c16 : Cell), ρ = [.io o', .val (.int 3), .val (.int 2), .val (.int (L : Nat)), .val (.int (S : Nat)), LK, .val (.int (width : Nat)), .val (.tuple (outs.map nI)), .val (.int (n : Nat)), .own (.lst (ss.map enStep)), .val (nI i), .val (nI j), .val (nI a), c13, c14, c15, c16, .un] ∧ StOk o' ∧ (∀ s ∈ ss, StepOk S s) ∧ ss.length ≤ i * 45 + j * 15 + a * 3 + v ∧ Loose c13 ∧ Loose c14 ∧ Loose c15 ∧ Loose c16)
          ⟨o', ss, c13, c14, c15, c16, rfl, hs, hss, by omega, h13, h14, h15, h16⟩ (fun v d ρ hd hI => ?_) fun ρ hI => ?_
        · clear hss hlen h13 h14 h15 h16 hs
          obtain ⟨o', ss, c13, c14, c15, c16, rfl, hs, hss, hlen, h13, h14, h15, h16⟩ := hI
          obtain ⟨rfl, hv⟩ := range_at hd
          refine ⟨_, setV_fr rfl h13 _, ?_⟩
          walk_at "dl"
          refine draw_io rfl hs (by omega) (by omega) fun o3 d3 hs3 p3 q3 => ?_
          obtain ⟨j3, rfl⟩ := Int.eq_ofNat_of_zero_le p3
          obtain ⟨mv, hmv, em⟩ := moves_at (j := j3) (by omega)
          walk_at "dl"
          rw [setVo_loose h14]
          walk_at "dl"
          refine ⟨by decide, ?_⟩
          rw [em]
          walk_at "dl"
          rw [setVo_loose h15]
          walk_at "dl"
          have fin : ∀ (o3 : OD) (mv : Str) (Y : Out → DEnv → Prop), StOk o3 → (mv = "right" ∨ mv = "left" ∨ mv = "stop" ∨ mv = "none") → WpX Zn (mT [.io o3, .val (.int 3), .val (.int 2), .val (.int (L : Nat)), .val (.int (S : Nat)), LK, .val (.int (width : Nat)), .val (.tuple (outs.map nI)), .val (.int (n : Nat)), .own (.lst (ss.map enStep)), .val (nI i), .val (nI j), .val (nI a), .val (nI v), .val (.int (j3 : Nat)), .val (.str mv), c16, .un]) (loopQ (fun ρ => ∃ (o' : OD) (ss : List MStep) (c13 c14 c15 c16 : Cell), ρ = [.io o', .val (.int 3), .val (.int 2), .val (.int (L : Nat)), .val (.int (S : Nat)), LK, .val (.int (width : Nat)), .val (.tuple (outs.map nI)), .val (.int (n : Nat)), .own (.lst (ss.map enStep)), .val (nI i), .val (nI j), .val (nI a), c13, c14, c15, c16, .un] ∧ StOk o' ∧ (∀ s ∈ ss, StepOk S s) ∧ ss.length ≤ i * 45 + j * 15 + a * 3 + (v + 1) ∧ Loose c13 ∧ Loose c14 ∧ Loose c15 ∧ Loose c16) Y) := fun o3 mv Y hs3 hmv => by
            refine step_tail hs3 hS (by omega) ⟨ou1, ou2⟩ hss (by omega) hmv h16 fun o' ss' c16' b1 b2 b3 b4 => ?_
            walk_at "dl"
            exact ⟨o', ss', .val (nI v), .val (.int (j3 : Nat)), .val (.str mv), c16', rfl, b1, b2, by omega, .val _, .val _, .val _, b4⟩
          rw [show oEq (nI a) (PyData.int 1) = some (.bool (((a : Nat) : Int) == 1)) from oEq_int _ _]
          walk_at "dl"
          refine ite2 (fun _ => ?_) (fun _ => fin o3 mv _ hs3 hmv)
          rw [oEq_str (sOk mv hmv) (by decide +kernel)]
          walk_at "dl"
          refine ite2 (fun _ => ?_) (fun _ => fin o3 mv _ hs3 hmv)
          refine draw_io rfl hs3 (by omega) (by omega) fun o5 d5 hs5 p5 q5 => ?_
          obtain ⟨j5, rfl⟩ := Int.eq_ofNat_of_zero_le p5
          obtain ⟨mv5, hmv5, em5⟩ := moves2_at (j := j5) (by omega)
          walk_at "dl"
          rw [em5]
          walk_at "dl"
          exact fin o5 mv5 _ hs5 (by rcases hmv5 with e | e <;> simp [e])
        · obtain ⟨o', ss, c13, c14, c15, c16, rfl, hs, hss, hlen, h13, h14, h15, h16⟩ := hI
          rw [List.length_map, List.length_range] at hlen
          walk_at "dl"
          exact ⟨o', ss, .val (nI a), c13, c14, c15, c16, rfl, hs, hss, by omega, .val _, h13, h14, h15, h16⟩
      · obtain ⟨o', ss, c12, c13, c14, c15, c16, rfl, hs, hss, hlen, h12, h13, h14, h15, h16⟩ := hI
        rw [List.length_map, List.length_range] at hlen
        walk_at "dl"
        exact ⟨o', ss, .val (nI j), c12, c13, c14, c15, c16, rfl, hs, hss, by omega, .val _, h12, h13, h14, h15, h16⟩
    · obtain ⟨o', ss, c11, c12, c13, c14, c15, c16, rfl, hs, hss, hlen, h11, h12, h13, h14, h15, h16⟩ := hI
      rw [List.length_map, List.length_range] at hlen
      walk_at "dl"
      exact ⟨o', ss, .val (nI i), c11, c12, c13, c14, c15, c16, rfl, hs, hss, by omega, .val _, h11, h12, h13, h14, h15, h16⟩
  · obtain ⟨o', ss, c10, c11, c12, c13, c14, c15, c16, rfl, hs, hss, hlen, h10, h11, h12, h13, h14, h15, h16⟩ := hI
    rw [List.length_map, List.length_range] at hlen
    subst hLK
    walk_at "dl"
    exact k o' width outs ss _ hs ⟨hL.1, hL.2, hS.1, hS.2, hn, R', hss, by omega⟩
theorem machine_ok {o : OD} (h : StOk o) {Q : PyData → DEnv → Prop} (k : ∀ (o' : OD) (L S e : Nat) (ls : List Nat) (n : Nat) (m : Nat → Nat → Nat) (width : Nat) (outs : List Nat) (ss : List MStep), StOk o' → MOk L S e ls n m ss → Q (enM L S e ls n m width outs ss) [.io o', .val (.int 3), .val (.int 2)]) :
    WpX Zn (den_law_machine [.io o, .val (.int 3), .val (.int 2)]) Q := by
  refine wpd_law_machine _ _ _ _ ?_
  rw [mR_eq]
  walk_at "dl"
  refine draw_io rfl h (by omega) (by omega) fun o1 d1 hs1 p1 q1 => ?_
  obtain ⟨L, hL⟩ : ∃ n : Nat, 1 + d1 = (n : Int) := ⟨(1 + d1).toNat, by omega⟩
  walk_at "dl"
  rw [hL]
  refine draw_io rfl hs1 (by omega) (by omega) fun o2 d2 hs2 p2 q2 => ?_
  obtain ⟨S, hS⟩ : ∃ n : Nat, 1 + d2 = (n : Int) := ⟨(1 + d2).toNat, by omega⟩
  walk_at "dl"
  rw [hS]
  rw [show ((L : Nat) : Int) + 2 = ((L + 2 : Nat) : Int) by push_cast; rfl]
  refine wp_callIO_io _ _ _ _ _ _ rfl (small_ok (count := L + 2) hs2 (by omega) fun o3 e0 ls0 n0 m0 acc0 hs3 hn0 R0 => ⟨o3, _, rfl, ?_⟩)
  walk_at "dl"
  refine draw_io rfl hs3 (by omega) (by omega) fun o4 d4 hs4 p4 q4 => ?_
  walk_at "dl"
  refine ite2 (fun _ => ?_) (fun _ => ?_)
  · rw [show ((L : Nat) : Int) + 2 = ((L + 2 : Nat) : Int) by push_cast; rfl]
    rw [oMul_lst]
    walk_at "dl"
    refine ⟨⟨by omega, by omega, small_line (by rw [List.length_singleton, Int.toNat_natCast]; omega)⟩, ?_⟩
    rw [show ((List.replicate (((L + 2 : Nat) : Int)).toNat [PyData.int 0]).flatten) = (List.replicate (L + 2) 0).map nI by rw [Int.toNat_natCast, List.map_replicate]; induction (L + 2) with
      | zero => rfl
      | succ n ih => rw [List.replicate_succ, List.flatten_cons, ih, List.replicate_succ]; rfl]
    exact machine_rest (e := 0) (ls := List.replicate (L + 2) 0) (n := 1) (m := fun _ _ => 0) (acc := []) hs4 (by omega) (by omega) (by omega) ⟨by omega, by omega, fun _ _ _ _ => by omega, by omega, fun x hx => by omega, fun x hx => by omega, fun _ _ _ _ _ _ => rfl, by rw [List.length_replicate], fun l hl => by rw [List.eq_of_mem_replicate hl]; omega, List.nil_sublist _⟩ fun o' width outs ss ρ a b => by
      walk_at "dl"
      exact k o' L S _ _ _ _ width outs ss a b
  · exact machine_rest hs4 (by omega) (by omega) (by omega) R0 fun o' width outs ss ρ a b => by
      walk_at "dl"
      exact k o' L S _ _ _ _ width outs ss a b

end M

set_option Elab.async false
set_option linter.all false
set_option maxRecDepth 100000
set_option maxHeartbeats 4000000
namespace M
open PySem PySem.Spec PyProof.Rows L2 DL

local macro_rules | `(tactic| walk_at "dl") => `(tactic| try simp only [↓ws_seq, ↓ws_nx, ↓ws_bk, ↓ws_ct, ↓ws_ret, ↓ws_retN, ↓ws_drop, ↓ws_if, ↓ws_asg, ↓ws_new, ↓ws_nxOf, ↓ws_frz, ↓ws_for, ↓ws_app, ↓ws_setH, ↓wp_C, ↓wp_vr, ↓wp_op, ↓wp_un, ↓wp_nil, ↓wp_cons, ↓wp_call, ↓wp_tup, ↓wp_lst, ↓wp_frz, ↓wp_tof, ↓wp_tru, ↓wp_tnot, ↓wp_tand, ↓wp_tor, ↓wp_and, ↓wp_or, ↓wp_not, ↓wp_if, ↓wp_chain, ↓wp_len, ↓wp_tupleOf, ↓wp_listOf, ↓wp_lof, ↓wp_lname, ↓wp_ixN, ↓wp_inN, ↓wp_indexN, ↓wp_popAt, ↓wp_tupRg, ↓wp_lstRg, ↓wp_sl, ↓wp_noPart, ↓wp_part, ↓wp_callV, ↓wp_callI, ↓wp_iseq, ↓wp_irng, ↓wp_lc, ↓wp_of_some, ↓wp_dget, ↓wp_dgetT, ↓ws_dput, ↓ws_dputT, ↓wp_newT, ↓wp_newK, ↓wp_disp, ↓wp_callF, ↓wf_seq, ↓wf_frz, ↓wp_ienums, ↓wp_izip, ↓ws_aug, ↓wp_sorted, ↓ws_augH, ↓wp_rep, ↓wp_sortD, ↓wp_sortSet, ↓wp_dc, ↓wp_keys, ↓wp_inK, ↓wp_lenK, ↓ws_ext, ↓wp_fLcH, ↓wp_fLc2, ↓wp_kget, ↓ws_frzK, ↓wp_fld, ↓ws_fset, ↓wp_meth, ↓wp_make, ↓wp_rev, ↓wp_sortDr, ↓wp_lstRev, ↓wp_irevRg, frzKO_own, frzKO_val, undk_dk, lstQ_lst, Int.reduceBEq,
  onNx_nx, onNx_rt, onNx_bk, onNx_ct, boolQ_bool, intQ_int, frzQ_lst, retQ_rt, retQ_nx, cellQ_val, heldQ_some, ixQ_some, atI_0, ixN_0, atI_1, ixN_1, atI_2, ixN_2, atI_3, ixN_3, atI_4, ixN_4, atI_5, ixN_5, atI_6, ixN_6, atI_7, ixN_7, len_0, len_1, len_2, len_3, len_4, len_5, len_6, len_7, len_8, wp_of_ite, List.getElem?_cons_succ, List.getElem?_cons_zero, setV_eq, setVo_val, setVo_un, setVo_own, setO_eq, setOo_val, setOo_un, setOo_own, nameD_eq, nameO_val, nameO_own, nameO_io, heldL_eq, heldO_own, heldO_io, isHeld_eq, setHeld_eq, setHeldO_own, setHeldO_io, frzC_eq, frzO_own, frzO_val, frzO_io, frzO_un, List.set_cons_succ, List.set_cons_zero, Option.bind_some, Option.isSome_some, Option.getD_some, Option.map_some, own_own, own_io, isLst_some, List.map_cons, List.map_nil,
  oAdd_int, oAdd_tup, oSub_int, oMul_int, oDiv_int, oMod_int, oPow_int, oNeg_int, oLt_int, oLe_int, oGt_int, oGe_int, oIx_lst, oIx_tup, oInt_int, oInt_bool, oMax2_int, oMin2_int, oEq_int, oNe_int, oEq_bool, oNe_bool, oIsN_none, oNotN_none, isNone_none, isNone_int, isNone_tup, isNone_lst, isNone_str, tru_bool, tru_int, tru_none, tru_lst, tru_tup, seqOf_lst, seqOf_tup, slOf_lst, slOf_tup, rng1_int, rng2_int, wipeC_nil, wipeC_cons, backIO_nil, backIO_io', backIO_val, isi_int_int, isi_bool_int, isi_bool_bool, isi_int_bool, Bool.false_eq_true, reduceCtorEq, unwipe_one, loopQ_nx, loopQ_ct, loopQ_bk, loopQ_rt, wp_tTrue,  augQ_val, oAddI_int, oSubI_int, isi_int_str, isi_int_tup, isi_tup_tup, isi_tup_int, isi_tup_str, oShl_int, oShr_int, oOr_int, oAnd_int, oXor_int, someQ_some, someQ_ite, repOf_int, isi_lst_lst, nxF_nx, retF_eq, dkQ_dk, dtQ_dt, keyQ_some, hobj_eq, hobjO_own, hobjO_io, keyD_int, keyD_str, keysD_nil, keysD_int, frzO_dk, frzO_dt, eq_self, ↓wp_cat, catQ_list, unwipe_nil, unwipe_cons, wp_callFI, wp_retOwn, ownQ_own, wp_chain3, wp_newN, wp_dgetN, ws_dputN, dnQ_dn, ↓wp_tget, ↓wp_tin, ↓wp_tget1, isDt_dt, ↓ws_tput, ↓wp_slN, tupQ_tup, keyTD_tup, ↓wp_dcT, ↓wp_newS, ↓wp_skin, ↓wp_skadd, tsQ_ts, isTs_ts, box_row, box_at, box_put, box_merge, insQ_ins, mkQ_io, rlQ_list, roQ_some, if_true, if_false, Bool.not_true, Bool.not_false, decide_eq_true_eq, true_and, and_true])
local macro_rules | `(tactic| walk_at "dls") => `(tactic| simp only [setV_eq, setVo_val, setVo_un, setVo_own, List.getElem?_cons_succ, List.getElem?_cons_zero, List.set_cons_succ, List.set_cons_zero])

/-! ### the walk in a row: plain mathematics -/
inductive Endd where
  | stop (q : Nat)
  | out (mv : Str) (q : Nat)
abbrev Trk := List (Nat × Nat × MStep)
section
variable (nx : Nat → Nat → Option MStep) (N : Nat)
def go : Nat → Nat → Nat → Option (Endd × Trk)
  | 0, _, _ => none
  | f + 1, p, st => match nx p st with
    | none => none
    | some s => if s.mv = "stop" then some (.stop s.q, [(p, st, s)]) else if s.mv = "left" then (if p = 0 then some (.out "left" s.q, [(p, st, s)]) else (go f (p - 1) s.q).map fun r => (r.1, (p, st, s) :: r.2))
      else (if p + 1 = N then some (.out "right" s.q, [(p, st, s)]) else (go f (p + 1) s.q).map fun r => (r.1, (p, st, s) :: r.2))
inductive Path : Nat → Nat → Trk → Nat → Nat → Prop where
  | nil (p st : Nat) : Path p st [] p st
  | left {p st p' st' : Nat} {s : MStep} {l : Trk} : nx p st = some s → s.mv = "left" → p ≠ 0 → Path (p - 1) s.q l p' st' → Path p st ((p, st, s) :: l) p' st'
  | right {p st p' st' : Nat} {s : MStep} {l : Trk} : nx p st = some s → s.mv = "right" → p + 1 ≠ N → Path (p + 1) s.q l p' st' → Path p st ((p, st, s) :: l) p' st'
variable {nx N}
theorem str_ne1 : (("right" : Str) = "stop") = False := by decide
theorem Path.app {p st p' st' p2 st2 : Nat} {l l' : Trk} (h : Path nx N p st l p' st') (h2 : Path nx N p' st' l' p2 st2) : Path nx N p st (l ++ l') p2 st2 := by
  induction h with
  | nil => exact h2
  | left a b c _ ih => exact .left a b c (ih h2)
  | right a b c _ ih => exact .right a b c (ih h2)
theorem go_path {p st p' st' : Nat} {l : Trk} (h : Path nx N p st l p' st') : ∀ f, go nx N f p st = (go nx N (f - l.length) p' st').map fun r => (r.1, l ++ r.2) := by
  induction h with
  | nil p st =>
    intro f
    show go nx N f p st = (go nx N f p st).map fun r => (r.1, r.2)
    cases go nx N f p st <;> rfl
  | @left p st p' st' s l a b c _ ih =>
    intro f
    cases f with
    | zero => rw [Nat.zero_sub]; rfl
    | succ f =>
      rw [go, a]
      simp only [b]
      rw [if_neg (by decide), if_pos trivial, if_neg c, ih f, List.length_cons, Nat.add_sub_add_right]
      cases go nx N (f - l.length) p' st' <;> rfl
  | @right p st p' st' s l a b c _ ih =>
    intro f
    cases f with
    | zero => rw [Nat.zero_sub]; rfl
    | succ f =>
      rw [go, a]
      simp only [b]
      rw [if_neg (by decide), if_neg (by decide), if_neg c, ih f, List.length_cons, Nat.add_sub_add_right]
      cases go nx N (f - l.length) p' st' <;> rfl
theorem go_cycle {p st : Nat} {l : Trk} (h : Path nx N p st l p st) (hl : l ≠ []) : ∀ f, go nx N f p st = none := by
  intro f
  induction f using Nat.strongRecOn with
  | ind f ih =>
    have e := go_path h f
    cases f with
    | zero => rfl
    | succ f =>
      have : 0 < l.length := List.length_pos_iff.mpr hl
      rw [ih (f + 1 - l.length) (by omega)] at e
      exact e
def spots (l : Trk) : List (Nat × Nat) := l.map fun t => (t.1, t.2.1)
theorem path_mem {p st p' st' : Nat} {l : Trk} (h : Path nx N p st l p' st') {c : Nat × Nat} (hc : c ∈ spots l) : ∃ l2, l2 ≠ [] ∧ Path nx N c.1 c.2 l2 p' st' := by
  induction h with
  | nil => cases hc
  | @left p st p' st' s l a b c0 h ih =>
    rcases List.mem_cons.mp (show c ∈ (p, st) :: spots l from hc) with e | hc
    · subst e
      exact ⟨_, by simp, .left a b c0 h⟩
    · exact ih hc
  | @right p st p' st' s l a b c0 h ih =>
    rcases List.mem_cons.mp (show c ∈ (p, st) :: spots l from hc) with e | hc
    · subst e
      exact ⟨_, by simp, .right a b c0 h⟩
    · exact ih hc
theorem spots_len {S : Nat} {l : Trk} (hn : (spots l).Nodup) (hb : ∀ c ∈ spots l, c.1 < N ∧ c.2 < S) : l.length ≤ S * N := by
  have h := nat_nodup_len ((spots l).map fun c => c.1 * S + c.2) (List.range (S * N)) ?_ fun x hx => ?_
  · rw [List.length_range, List.length_map] at h
    unfold spots at h
    rw [List.length_map] at h
    exact h
  · refine List.pairwise_map.mpr (hn.imp_of_mem fun {a b} ha hb' ne e => ne ?_)
    have h1 := hb a ha
    have h2 := hb b hb'
    have hS : 0 < S := by omega
    have e1 : a.1 = b.1 := by
      have := congrArg (· / S) e
      have this : (a.1 * S + a.2) / S = (b.1 * S + b.2) / S := this
      rw [Nat.mul_comm a.1, Nat.mul_comm b.1, Nat.mul_add_div hS, Nat.mul_add_div hS, Nat.div_eq_of_lt h1.2, Nat.div_eq_of_lt h2.2] at this
      omega
    have e2 : a.2 = b.2 := by rw [e1] at e; omega
    exact Prod.ext e1 e2
  · obtain ⟨c, hc, rfl⟩ := List.mem_map.mp hx
    have h1 := hb c hc
    refine List.mem_range.mpr ?_
    have : (c.1 + 1) * S ≤ N * S := Nat.mul_le_mul_right S h1.1
    rw [Nat.add_mul, Nat.one_mul] at this
    rw [Nat.mul_comm S N]
    omega
end

end M

set_option Elab.async false
set_option linter.all false
set_option maxRecDepth 100000
set_option maxHeartbeats 4000000
namespace M
open PySem PySem.Spec PyProof.Rows L2 DL

local macro_rules | `(tactic| walk_at "dl") => `(tactic| try simp only [↓ws_seq, ↓ws_nx, ↓ws_bk, ↓ws_ct, ↓ws_ret, ↓ws_retN, ↓ws_drop, ↓ws_if, ↓ws_asg, ↓ws_new, ↓ws_nxOf, ↓ws_frz, ↓ws_for, ↓ws_app, ↓ws_setH, ↓wp_C, ↓wp_vr, ↓wp_op, ↓wp_un, ↓wp_nil, ↓wp_cons, ↓wp_call, ↓wp_tup, ↓wp_lst, ↓wp_frz, ↓wp_tof, ↓wp_tru, ↓wp_tnot, ↓wp_tand, ↓wp_tor, ↓wp_and, ↓wp_or, ↓wp_not, ↓wp_if, ↓wp_chain, ↓wp_len, ↓wp_tupleOf, ↓wp_listOf, ↓wp_lof, ↓wp_lname, ↓wp_ixN, ↓wp_inN, ↓wp_indexN, ↓wp_popAt, ↓wp_tupRg, ↓wp_lstRg, ↓wp_sl, ↓wp_noPart, ↓wp_part, ↓wp_callV, ↓wp_callI, ↓wp_iseq, ↓wp_irng, ↓wp_lc, ↓wp_of_some, ↓wp_dget, ↓wp_dgetT, ↓ws_dput, ↓ws_dputT, ↓wp_newT, ↓wp_newK, ↓wp_disp, ↓wp_callF, ↓wf_seq, ↓wf_frz, ↓wp_ienums, ↓wp_izip, ↓ws_aug, ↓wp_sorted, ↓ws_augH, ↓wp_rep, ↓wp_sortD, ↓wp_sortSet, ↓wp_dc, ↓wp_keys, ↓wp_inK, ↓wp_lenK, ↓ws_ext, ↓wp_fLcH, ↓wp_fLc2, ↓wp_kget, ↓ws_frzK, ↓wp_fld, ↓ws_fset, ↓wp_meth, ↓wp_make, ↓wp_rev, ↓wp_sortDr, ↓wp_lstRev, ↓wp_irevRg, frzKO_own, frzKO_val, undk_dk, lstQ_lst, Int.reduceBEq,
  onNx_nx, onNx_rt, onNx_bk, onNx_ct, boolQ_bool, intQ_int, frzQ_lst, retQ_rt, retQ_nx, cellQ_val, heldQ_some, ixQ_some, atI_0, ixN_0, atI_1, ixN_1, atI_2, ixN_2, atI_3, ixN_3, atI_4, ixN_4, atI_5, ixN_5, atI_6, ixN_6, atI_7, ixN_7, len_0, len_1, len_2, len_3, len_4, len_5, len_6, len_7, len_8, wp_of_ite, List.getElem?_cons_succ, List.getElem?_cons_zero, setV_eq, setVo_val, setVo_un, setVo_own, setO_eq, setOo_val, setOo_un, setOo_own, nameD_eq, nameO_val, nameO_own, nameO_io, heldL_eq, heldO_own, heldO_io, isHeld_eq, setHeld_eq, setHeldO_own, setHeldO_io, frzC_eq, frzO_own, frzO_val, frzO_io, frzO_un, List.set_cons_succ, List.set_cons_zero, Option.bind_some, Option.isSome_some, Option.getD_some, Option.map_some, own_own, own_io, isLst_some, List.map_cons, List.map_nil,
  oAdd_int, oAdd_tup, oSub_int, oMul_int, oDiv_int, oMod_int, oPow_int, oNeg_int, oLt_int, oLe_int, oGt_int, oGe_int, oIx_lst, oIx_tup, oInt_int, oInt_bool, oMax2_int, oMin2_int, oEq_int, oNe_int, oEq_bool, oNe_bool, oIsN_none, oNotN_none, isNone_none, isNone_int, isNone_tup, isNone_lst, isNone_str, tru_bool, tru_int, tru_none, tru_lst, tru_tup, seqOf_lst, seqOf_tup, slOf_lst, slOf_tup, rng1_int, rng2_int, wipeC_nil, wipeC_cons, backIO_nil, backIO_io', backIO_val, isi_int_int, isi_bool_int, isi_bool_bool, isi_int_bool, Bool.false_eq_true, reduceCtorEq, unwipe_one, loopQ_nx, loopQ_ct, loopQ_bk, loopQ_rt, wp_tTrue,  augQ_val, oAddI_int, oSubI_int, isi_int_str, isi_int_tup, isi_tup_tup, isi_tup_int, isi_tup_str, oShl_int, oShr_int, oOr_int, oAnd_int, oXor_int, someQ_some, someQ_ite, repOf_int, isi_lst_lst, nxF_nx, retF_eq, dkQ_dk, dtQ_dt, keyQ_some, hobj_eq, hobjO_own, hobjO_io, keyD_int, keyD_str, keysD_nil, keysD_int, frzO_dk, frzO_dt, eq_self, ↓wp_cat, catQ_list, unwipe_nil, unwipe_cons, wp_callFI, wp_retOwn, ownQ_own, wp_chain3, wp_newN, wp_dgetN, ws_dputN, dnQ_dn, ↓wp_tget, ↓wp_tin, ↓wp_tget1, isDt_dt, ↓ws_tput, ↓wp_slN, tupQ_tup, keyTD_tup, ↓wp_dcT, ↓wp_newS, ↓wp_skin, ↓wp_skadd, tsQ_ts, isTs_ts, box_row, box_at, box_put, box_merge, insQ_ins, mkQ_io, rlQ_list, roQ_some, if_true, if_false, Bool.not_true, Bool.not_false, decide_eq_true_eq, true_and, and_true])
local macro_rules | `(tactic| walk_at "dls") => `(tactic| simp only [setV_eq, setVo_val, setVo_un, setVo_own, List.getElem?_cons_succ, List.getElem?_cons_zero, List.set_cons_succ, List.set_cons_zero])

variable [Wd]
def VU (c : Cell) : Prop := c = .un ∨ ∃ d, c = .val d
theorem VU.u : VU .un := .inl rfl
theorem VU.v (d : PyData) : VU (.val d) := .inr ⟨d, rfl⟩
theorem setV_vu {i : Nat} {ρ : DEnv} {c : Cell} (d : PyData) (hi : ρ[i]? = some c) (h : VU c) : setV i d ρ = some (ρ.set i (.val d)) := by
  rw [setV_eq, hi]
  rcases h with rfl | ⟨d0, rfl⟩
  · rfl
  · rfl
theorem small_line1 {n : Nat} (h : n < 1000000) : n < sizeLine := by show n < 2 ^ 24; omega
theorem append_all {α : Type} {p : α → Prop} {l : List α} {x : α} (h : ∀ y ∈ l, p y) (hx : p x) : ∀ y ∈ l ++ [x], p y := fun y hy => (List.mem_append.mp hy).elim (h y) fun e => by rw [List.mem_singleton.mp e]; exact hx
theorem take_map_succ {α : Type} {f : Nat → α} {ws : List Nat} {i l : Nat} (q : ws[i]? = some l) : (ws.take (i + 1)).map f = (ws.take i).map f ++ [f l] := by
  rw [List.take_add_one, q, List.map_append]
  rfl
theorem get_snoc {vs : List Nat} {v i : Nat} {F : Nat → Nat} (hl : vs.length = i) (h : ∀ x, x < i → vs.getD x 0 = F x) (hv : v = F i) : ∀ x, x < i + 1 → (vs ++ [v]).getD x 0 = F x := fun x hx => by
  rw [List.getD_eq_getElem?_getD]
  by_cases hi : x < i
  · rw [List.getElem?_append_left (by omega), ← List.getD_eq_getElem?_getD]
    exact h x hi
  · have : x = i := by omega
    subst this
    rw [List.getElem?_append_right (by omega), hl, Nat.sub_self]
    exact hv
theorem lefts_ok {count e n : Nat} {ls acc : List Nat} {m : Nat → Nat → Nat} (R : RdOk count e ls n m acc) {ws : List Nat} (hw : ∀ l ∈ ws, l < count) (hz : ws.length ≤ 1000) {a : Nat} (ha : a < n) {Q : PyData → DEnv → Prop}
    (k : ∀ vs : List Nat, vs.length = ws.length → (∀ v ∈ vs, v < n) → (∀ x, x < ws.length → vs.getD x 0 = ((ws.take x).map fun l => ls.getD l 0).foldl m a) → Q (.list (vs.map nI)) [.val (enRd e ls n m acc), .val (.list (ws.map nI)), .val (nI a)]) :
    WpX Zn (denvalues_to_the_left [.val (enRd e ls n m acc), .val (.list (ws.map nI)), .val (nI a)]) Q := by
  refine wpdvalues_to_the_left _ _ _ _ ?_
  unfold bodyvalues_to_the_left enRd
  walk_at "dl"
  have un : gTupD 4 (gConsD (setV 3) (gConsD (setV 4) (gConsD (setV 5) (gConsD (setV 3) gNilD)))) (.tuple [nI e, .tuple (ls.map nI), enMul n m, .tuple (acc.map nI)]) [.val (.tuple [nI e, .tuple (ls.map nI), enMul n m, .tuple (acc.map nI)]), .val (.list (ws.map nI)), .val (nI a), .un, .un, .un, .un, .un, .un] =
    some [.val (.tuple [nI e, .tuple (ls.map nI), enMul n m, .tuple (acc.map nI)]), .val (.list (ws.map nI)), .val (nI a), .val (.tuple (acc.map nI)), .val (.tuple (ls.map nI)), .val (enMul n m), .un, .un, .un] := rfl
  rw [un]
  walk_at "dl"
  refine wp_forL (fun i ρ => ∃ (v : Nat) (vs : List Nat) (c3 : Cell), v < n ∧ v = ((ws.take i).map fun l => ls.getD l 0).foldl m a ∧ vs.length = i ∧ (∀ v ∈ vs, v < n) ∧ (∀ x, x < i → vs.getD x 0 = ((ws.take x).map fun l => ls.getD l 0).foldl m a) ∧ VU c3 ∧ ρ = [.val (enRd e ls n m acc), .val (.list (ws.map nI)), .val (nI a), .val (.tuple (acc.map nI)), .val (.tuple (ls.map nI)), .val (enMul n m), .val (nI v), .own (.lst (vs.map nI)), c3]) ⟨a, [], .un, ha, rfl, rfl, (fun v (h : v ∈ []) => nomatch h), fun x h => absurd h (Nat.not_lt_zero _), .u, rfl⟩ (fun i d ρ hd hI => ?_) fun ρ hI => ?_
  · obtain ⟨v, vs, c3, hv, hve, hl, hvs, hx, h3, rfl⟩ := hI
    rw [List.getElem?_map] at hd
    cases q : ws[i]? with
    | none => rw [q] at hd; cases hd
    | some l =>
      rw [q] at hd
      obtain rfl : nI l = d := Option.some.inj hd
      obtain ⟨a1, a2⟩ := letter_at R (hw l (List.mem_of_getElem? q))
      have hi := (List.getElem?_eq_some_iff.mp q).1
      refine ⟨_, setV_vu _ rfl h3, ?_⟩
      unfold nI
      walk_at "dl"
      refine ⟨small_line1 (by rw [List.length_map]; omega), ?_⟩
      rw [(mul_at hv a2).1]
      walk_at "dl"
      rw [atI_map (f := fun n : Nat => PyData.int (n : Nat)) a1]
      walk_at "dl"
      rw [← oIx_tup, (mul_at hv a2).2]
      walk_at "dl"
      exact ⟨_, vs ++ [v], .val (nI l), R.lt _ _ hv a2, by rw [take_map_succ q, List.foldl_append, ← hve]; rfl, by rw [List.length_append, hl]; rfl, append_all hvs hv, get_snoc hl hx hve, .v _, by rw [List.map_append]; rfl⟩
  · obtain ⟨v, vs, c3, hv, hve, hl, hvs, hx, h3, rfl⟩ := hI
    rw [List.length_map] at hl hx
    walk_at "dl"
    exact k vs hl hvs hx
theorem right_eq {m : Nat → Nat → Nat} {a : Nat} {F : Nat → Nat} {ws vs : List Nat} (hl : vs.length = ws.length) (hx : ∀ x, x < ws.length → vs.getD x 0 = ((ws.reverse.take x).map F).foldl (fun v x => m x v) a) :
    ∀ x, x < ws.length → vs.reverse.getD x 0 = ((ws.drop (x + 1)).map F).foldr m a := fun x h => by
  have e1 : vs.reverse.getD x 0 = vs.getD (ws.length - 1 - x) 0 := by
    rw [List.getD_eq_getElem?_getD, List.getElem?_reverse (by omega), ← List.getD_eq_getElem?_getD, hl]
  rw [e1, hx _ (by omega), List.take_reverse, List.map_reverse, List.foldl_reverse]
  congr 3
  omega
theorem rights_ok {count e n : Nat} {ls acc : List Nat} {m : Nat → Nat → Nat} (R : RdOk count e ls n m acc) {ws : List Nat} (hw : ∀ l ∈ ws, l < count) (hz : ws.length ≤ 1000) {a : Nat} (ha : a < n) {Q : PyData → DEnv → Prop}
    (k : ∀ vs : List Nat, vs.length = ws.length → (∀ v ∈ vs, v < n) → (∀ x, x < ws.length → vs.getD x 0 = ((ws.drop (x + 1)).map fun l => ls.getD l 0).foldr m a) → Q (.list (vs.map nI)) [.val (enRd e ls n m acc), .val (.list (ws.map nI)), .val (nI a)]) :
    WpX Zn (denvalues_to_the_right [.val (enRd e ls n m acc), .val (.list (ws.map nI)), .val (nI a)]) Q := by
  refine wpdvalues_to_the_right _ _ _ _ ?_
  unfold bodyvalues_to_the_right enRd
  walk_at "dl"
  have un : gTupD 4 (gConsD (setV 3) (gConsD (setV 4) (gConsD (setV 5) (gConsD (setV 3) gNilD)))) (.tuple [nI e, .tuple (ls.map nI), enMul n m, .tuple (acc.map nI)]) [.val (.tuple [nI e, .tuple (ls.map nI), enMul n m, .tuple (acc.map nI)]), .val (.list (ws.map nI)), .val (nI a), .un, .un, .un, .un, .un, .un] =
    some [.val (.tuple [nI e, .tuple (ls.map nI), enMul n m, .tuple (acc.map nI)]), .val (.list (ws.map nI)), .val (nI a), .val (.tuple (acc.map nI)), .val (.tuple (ls.map nI)), .val (enMul n m), .un, .un, .un] := rfl
  rw [un]
  walk_at "dl"
  rw [← List.map_reverse]
  refine wp_forL (fun i ρ => ∃ (v : Nat) (vs : List Nat) (c3 : Cell), v < n ∧ v = ((ws.reverse.take i).map fun l => ls.getD l 0).foldl (fun v x => m x v) a ∧ vs.length = i ∧ (∀ v ∈ vs, v < n) ∧ (∀ x, x < i → vs.getD x 0 = ((ws.reverse.take x).map fun l => ls.getD l 0).foldl (fun v x => m x v) a) ∧ VU c3 ∧ ρ = [.val (enRd e ls n m acc), .val (.list (ws.map nI)), .val (nI a), .val (.tuple (acc.map nI)), .val (.tuple (ls.map nI)), .val (enMul n m), .val (nI v), .own (.lst (vs.map nI)), c3]) ⟨a, [], .un, ha, rfl, rfl, (fun v (h : v ∈ []) => nomatch h), fun x h => absurd h (Nat.not_lt_zero _), .u, rfl⟩ (fun i d ρ hd hI => ?_) fun ρ hI => ?_
  · obtain ⟨v, vs, c3, hv, hve, hl, hvs, hx, h3, rfl⟩ := hI
    rw [List.getElem?_map] at hd
    cases q : ws.reverse[i]? with
    | none => rw [q] at hd; cases hd
    | some l =>
      rw [q] at hd
      obtain rfl : nI l = d := Option.some.inj hd
      obtain ⟨a1, a2⟩ := letter_at R (hw l (List.mem_reverse.mp (List.mem_of_getElem? q)))
      have hi := (List.getElem?_eq_some_iff.mp q).1
      rw [List.length_reverse] at hi
      refine ⟨_, setV_vu _ rfl h3, ?_⟩
      unfold nI
      walk_at "dl"
      refine ⟨small_line1 (by rw [List.length_map]; omega), ?_⟩
      rw [atI_map (f := fun n : Nat => PyData.int (n : Nat)) a1]
      walk_at "dl"
      rw [(mul_at a2 hv).1]
      walk_at "dl"
      rw [← oIx_tup, (mul_at a2 hv).2]
      walk_at "dl"
      exact ⟨_, vs ++ [v], .val (nI l), R.lt _ _ a2 hv, by rw [take_map_succ q, List.foldl_append, ← hve]; rfl, by rw [List.length_append, hl]; rfl, append_all hvs hv, get_snoc hl hx hve, .v _, by rw [List.map_append]; rfl⟩
  · obtain ⟨v, vs, c3, hv, hve, hl, hvs, hx, h3, rfl⟩ := hI
    rw [List.length_map, List.length_reverse] at hl hx
    walk_at "dl"
    rw [← List.map_reverse]
    exact k vs.reverse (by rw [List.length_reverse]; exact hl) (fun v hv => hvs v (List.mem_reverse.mp hv)) (right_eq hl hx)

theorem left_val {count e n : Nat} {ls acc : List Nat} {m : Nat → Nat → Nat} (R : RdOk count e ls n m acc) {ws : List Nat} (hw : ∀ l ∈ ws, l < count) {a : Nat} (ha : a < n) : (ws.map fun l => ls.getD l 0).foldl m a = m a (valN m ls e ws) := by
  rw [List.foldl_map]
  exact valN_mul R ws a ha hw
theorem right_val {count e n : Nat} {ls acc : List Nat} {m : Nat → Nat → Nat} (R : RdOk count e ls n m acc) {a : Nat} (ha : a < n) : ∀ (ws : List Nat), (∀ l ∈ ws, l < count) → (ws.map fun l => ls.getD l 0).foldr m a = m (valN m ls e ws) a
  | [], _ => (R.l0 a ha).symm
  | l :: ws, hw => by
    have hl := (letter_at R (hw l List.mem_cons_self)).2
    have hw' : ∀ x ∈ ws, x < count := fun x hx => hw x (List.mem_cons_of_mem _ hx)
    show m (ls.getD l 0) ((ws.map fun l => ls.getD l 0).foldr m a) = m (valN m ls (m e (ls.getD l 0)) ws) a
    rw [right_val R ha ws hw', R.l0 _ hl, valN_mul R ws _ hl hw', R.assoc _ _ _ hl (valN_lt R ws e R.eu hw') ha]
/-! ### the deeds by what is seen -/
def keyS (s : MStep) : List Key := [.inl (s.p : Nat), .inl (s.u : Nat), .inl (s.a : Nat), .inl (s.v : Nat)]
def tailS (s : MStep) : PyData := .tuple [.str s.mv, nI s.q, .tuple (s.pc.map nI)]
def keyN (st u a v : Nat) : List Key := [.inl (st : Nat), .inl (u : Nat), .inl (a : Nat), .inl (v : Nat)]
def deedsD (ss : List MStep) : List (List Key × PyData) := mergeD [] (ss.map fun s => (keyS s, tailS s))
def tableD (ss : List MStep) : List (List Key × PyData) := mergeD [] (ss.map fun s => (keyS s, enStep s))
theorem cut4a (a b c d e f g : PyData) : cutD [a, b, c, d, e, f, g] none (some 4) = [a, b, c, d] := rfl
theorem cut4b (a b c d e f g : PyData) : cutD [a, b, c, d, e, f, g] (some 4) none = [e, f, g] := rfl
theorem keysD_nI (st u a v : Nat) : keysD [nI st, nI u, nI a, nI v] = some (keyN st u a v) := by
  unfold nI
  simp only [keysD_int, keysD_nil, Option.map_some]
  rfl
theorem at5 {L S e width n : Nat} {ls outs : List Nat} {m : Nat → Nat → Nat} {ss : List MStep} : oIx (enM L S e ls n m width outs ss) (.int 5) = some (.tuple (ss.map enStep)) := rfl
theorem deeds_ok {L S e width n : Nat} {ls outs : List Nat} {m : Nat → Nat → Nat} {ss : List MStep} (hl : ss.length ≤ 135) {O : OD → DEnv → Prop} (k : O (.dt (deedsD ss)) [.val (enM L S e ls n m width outs ss)]) : WpX Zn (dendeeds_by_sight [.val (enM L S e ls n m width outs ss)]) O := by
  refine wpddeeds_by_sight _ _ ?_
  unfold bodydeeds_by_sight
  walk_at "dl"
  rw [at5]
  walk_at "dl"
  refine wp_dcTMap (ss.map fun s => (keyS s, tailS s)) (by rw [List.length_map, List.length_map]) (small_line (by rw [List.length_map]; omega)) (fun i d kv hd hkv => ?_) ?_
  · rw [List.getElem?_map] at hd hkv
    cases q : ss[i]? with
    | none => rw [q] at hd; cases hd
    | some s =>
      rw [q] at hd hkv
      obtain rfl : enStep s = d := Option.some.inj hd
      obtain rfl : (keyS s, tailS s) = kv := Option.some.inj hkv
      refine ⟨_, rfl, ?_⟩
      unfold enStep
      walk_at "dl"
      rw [cut4a, cut4b, keysD_nI]
      exact ⟨by show ¬ (HT.sIx 7 0 none = 0 ∧ HT.sIx 7 7 (some 4) = 7); decide, rfl, rfl⟩
  · walk_at "dl"
    exact k

end M

set_option Elab.async false
set_option linter.all false
set_option maxRecDepth 100000
set_option maxHeartbeats 4000000
namespace M
open PySem PySem.Spec PyProof.Rows L2 DL

local macro_rules | `(tactic| walk_at "dl") => `(tactic| try simp only [↓ws_seq, ↓ws_nx, ↓ws_bk, ↓ws_ct, ↓ws_ret, ↓ws_retN, ↓ws_drop, ↓ws_if, ↓ws_asg, ↓ws_new, ↓ws_nxOf, ↓ws_frz, ↓ws_for, ↓ws_app, ↓ws_setH, ↓wp_C, ↓wp_vr, ↓wp_op, ↓wp_un, ↓wp_nil, ↓wp_cons, ↓wp_call, ↓wp_tup, ↓wp_lst, ↓wp_frz, ↓wp_tof, ↓wp_tru, ↓wp_tnot, ↓wp_tand, ↓wp_tor, ↓wp_and, ↓wp_or, ↓wp_not, ↓wp_if, ↓wp_chain, ↓wp_len, ↓wp_tupleOf, ↓wp_listOf, ↓wp_lof, ↓wp_lname, ↓wp_ixN, ↓wp_inN, ↓wp_indexN, ↓wp_popAt, ↓wp_tupRg, ↓wp_lstRg, ↓wp_sl, ↓wp_noPart, ↓wp_part, ↓wp_callV, ↓wp_callI, ↓wp_iseq, ↓wp_irng, ↓wp_lc, ↓wp_of_some, ↓wp_dget, ↓wp_dgetT, ↓ws_dput, ↓ws_dputT, ↓wp_newT, ↓wp_newK, ↓wp_disp, ↓wp_callF, ↓wf_seq, ↓wf_frz, ↓wp_ienums, ↓wp_izip, ↓ws_aug, ↓wp_sorted, ↓ws_augH, ↓wp_rep, ↓wp_sortD, ↓wp_sortSet, ↓wp_dc, ↓wp_keys, ↓wp_inK, ↓wp_lenK, ↓ws_ext, ↓wp_fLcH, ↓wp_fLc2, ↓wp_kget, ↓ws_frzK, ↓wp_fld, ↓ws_fset, ↓wp_meth, ↓wp_make, ↓wp_rev, ↓wp_sortDr, ↓wp_lstRev, ↓wp_irevRg, frzKO_own, frzKO_val, undk_dk, lstQ_lst, Int.reduceBEq,
  onNx_nx, onNx_rt, onNx_bk, onNx_ct, boolQ_bool, intQ_int, frzQ_lst, retQ_rt, retQ_nx, cellQ_val, heldQ_some, ixQ_some, atI_0, ixN_0, atI_1, ixN_1, atI_2, ixN_2, atI_3, ixN_3, atI_4, ixN_4, atI_5, ixN_5, atI_6, ixN_6, atI_7, ixN_7, len_0, len_1, len_2, len_3, len_4, len_5, len_6, len_7, len_8, wp_of_ite, List.getElem?_cons_succ, List.getElem?_cons_zero, setV_eq, setVo_val, setVo_un, setVo_own, setO_eq, setOo_val, setOo_un, setOo_own, nameD_eq, nameO_val, nameO_own, nameO_io, heldL_eq, heldO_own, heldO_io, isHeld_eq, setHeld_eq, setHeldO_own, setHeldO_io, frzC_eq, frzO_own, frzO_val, frzO_io, frzO_un, List.set_cons_succ, List.set_cons_zero, Option.bind_some, Option.isSome_some, Option.getD_some, Option.map_some, own_own, own_io, isLst_some, List.map_cons, List.map_nil,
  oAdd_int, oAdd_tup, oSub_int, oMul_int, oDiv_int, oMod_int, oPow_int, oNeg_int, oLt_int, oLe_int, oGt_int, oGe_int, oIx_lst, oIx_tup, oInt_int, oInt_bool, oMax2_int, oMin2_int, oEq_int, oNe_int, oEq_bool, oNe_bool, oIsN_none, oNotN_none, isNone_none, isNone_int, isNone_tup, isNone_lst, isNone_str, tru_bool, tru_int, tru_none, tru_lst, tru_tup, seqOf_lst, seqOf_tup, slOf_lst, slOf_tup, rng1_int, rng2_int, wipeC_nil, wipeC_cons, backIO_nil, backIO_io', backIO_val, isi_int_int, isi_bool_int, isi_bool_bool, isi_int_bool, Bool.false_eq_true, reduceCtorEq, unwipe_one, loopQ_nx, loopQ_ct, loopQ_bk, loopQ_rt, wp_tTrue,  augQ_val, oAddI_int, oSubI_int, isi_int_str, isi_int_tup, isi_tup_tup, isi_tup_int, isi_tup_str, oShl_int, oShr_int, oOr_int, oAnd_int, oXor_int, someQ_some, someQ_ite, repOf_int, isi_lst_lst, nxF_nx, retF_eq, dkQ_dk, dtQ_dt, keyQ_some, hobj_eq, hobjO_own, hobjO_io, keyD_int, keyD_str, keysD_nil, keysD_int, frzO_dk, frzO_dt, eq_self, ↓wp_cat, catQ_list, unwipe_nil, unwipe_cons, wp_callFI, wp_retOwn, ownQ_own, wp_chain3, wp_newN, wp_dgetN, ws_dputN, dnQ_dn, ↓wp_tget, ↓wp_tin, ↓wp_tget1, isDt_dt, ↓ws_tput, ↓wp_slN, tupQ_tup, keyTD_tup, ↓wp_dcT, ↓wp_newS, ↓wp_skin, ↓wp_skadd, tsQ_ts, isTs_ts, c_STOP, c_LEFT, c_RIGHT, box_row, box_at, box_put, box_merge, insQ_ins, mkQ_io, rlQ_list, roQ_some, if_true, if_false, Bool.not_true, Bool.not_false, decide_eq_true_eq, true_and, and_true])
local macro_rules | `(tactic| walk_at "dls") => `(tactic| simp only [setV_eq, setVo_val, setVo_un, setVo_own, List.getElem?_cons_succ, List.getElem?_cons_zero, List.set_cons_succ, List.set_cons_zero])

variable [Wd]
/-! ### trail -/
def nxS (ss : List MStep) (m : Nat → Nat → Nat) (ls : List Nat) (e : Nat) (ws : List Nat) (left right : Nat) (p st : Nat) : Option MStep :=
  lastK keyS ss (keyN st (m left (valN m ls e (ws.take p))) (ws.getD p 0) (m (valN m ls e (ws.drop (p + 1))) right))
def enT (t : Nat × Nat × MStep) : PyData := .tuple [nI t.1, nI t.2.1, .tuple (t.2.2.pc.map nI)]
def trD : Option (Endd × Trk) → PyData
  | none => .none
  | some (.stop q, l) => .tuple [.str "stop", nI q, .list (l.map enT)]
  | some (.out mv q, l) => .tuple [.str mv, nI q, .list (l.map enT)]
def kp (c : Nat × Nat) : List Key := [.inl (c.1 : Nat), .inl (c.2 : Nat)]
theorem kp_inj {a b : Nat × Nat} (h : kp a = kp b) : a = b := by
  unfold kp at h
  simp only [List.cons.injEq, Sum.inl.injEq, and_true] at h
  exact Prod.ext (by omega) (by omega)
theorem hasK_kp (V : List (Nat × Nat)) (c : Nat × Nat) : hasK (V.map kp) (kp c) = decide (c ∈ V) := by
  by_cases h : c ∈ V
  · rw [decide_eq_true h]
    exact hasK_iff.mpr (List.mem_map.mpr ⟨c, h, rfl⟩)
  · rw [decide_eq_false h]
    exact hasK_not fun z => by obtain ⟨d, h1, h2⟩ := List.mem_map.mp z; exact h (kp_inj h2 ▸ h1)
theorem keysD_kp (p st : Nat) : keysD [nI p, nI st] = some (kp (p, st)) := by
  unfold nI
  simp only [keysD_int, keysD_nil, Option.map_some]
  rfl
theorem go_some {nx : Nat → Nat → Option MStep} {N f p st : Nat} {s : MStep} (h : nx p st = some s) : go nx N (f + 1) p st = if s.mv = "stop" then some (.stop s.q, [(p, st, s)]) else if s.mv = "left" then (if p = 0 then some (.out "left" s.q, [(p, st, s)]) else (go nx N f (p - 1) s.q).map fun r => (r.1, (p, st, s) :: r.2))
      else (if p + 1 = N then some (.out "right" s.q, [(p, st, s)]) else (go nx N f (p + 1) s.q).map fun r => (r.1, (p, st, s) :: r.2)) := by
  rw [go, h]
theorem trail_ok {L S e width n : Nat} {ls outs : List Nat} {m : Nat → Nat → Nat} {ss : List MStep} (M : MOk L S e ls n m ss) {ws : List Nat} (hw : ∀ l ∈ ws, l < L + 2) (hl6 : ws.length ≤ 6) {left right : Nat} (h1 : left < n) (h2 : right < n) {p0 st0 : Nat} (hp0 : p0 < ws.length) (hst0 : st0 < S) {Q : PyData → DEnv → Prop}
    (k : Q (trD (go (nxS ss m ls e ws left right) ws.length (S * ws.length + 1) p0 st0)) [.val (enM L S e ls n m width outs ss), .val (.list (ws.map nI)), .val (.tuple [nI left, nI right]), .val (nI p0), .val (nI st0)]) :
    WpX Zn (dentrail [.val (enM L S e ls n m width outs ss), .val (.list (ws.map nI)), .val (.tuple [nI left, nI right]), .val (nI p0), .val (nI st0)]) Q := by
  refine wpdtrail _ _ _ _ _ _ ?_
  unfold bodytrail
  have g2 : oIx (enM L S e ls n m width outs ss) (.int 2) = some (enRd e ls n m []) := rfl
  walk_at "dl"
  rw [g2]
  walk_at "dl"
  refine deeds_ok M.len ?_
  walk_at "dl"
  refine lefts_ok M.rd hw (by omega) h1 fun lv lv1 lv2 lv3 => ?_
  walk_at "dl"
  refine rights_ok M.rd hw (by omega) h2 fun rv rv1 rv2 rv3 => ?_
  walk_at "dl"
  generalize hM : Cell.val (enM L S e ls n m width outs ss) = cM
  generalize hA : Cell.val (PyData.tuple [nI left, nI right]) = cA
  generalize hR : Cell.val (enRd e ls n m []) = cR
  have seen : ∀ p, p < ws.length → lv.getD p 0 = m left (valN m ls e (ws.take p)) ∧ rv.getD p 0 = m (valN m ls e (ws.drop (p + 1))) right := fun p hp => by
    rw [lv3 p hp, rv3 p hp]
    exact ⟨left_val M.rd (fun l hl => hw l (List.mem_of_mem_take hl)) h1, right_val M.rd h2 _ fun l hl => hw l (List.mem_of_mem_drop hl)⟩
  have ixL : ∀ (l : List Nat) (p : Nat), p < l.length → oIx (.list (l.map nI)) (nI p) = some (nI (l.getD p 0)) := fun l p hp => by
    rw [List.getD_eq_getElem?_getD, List.getElem?_eq_getElem hp]
    exact atI_map (f := nI) (List.getElem?_eq_getElem hp)
  generalize hnx : nxS ss m ls e ws left right = nx at k
  refine wp_while (fun k ρ => ∃ (l : Trk) (z : Int) (st : Nat) (c11 c12 c13 c14 : Cell), VU c11 ∧ VU c12 ∧ VU c13 ∧ VU c14 ∧
      ρ = [cM, .val (.list (ws.map nI)), cA, .val (.int z), .val (nI st), cR, .own (.dt (deedsD ss)), .val (.list (lv.map nI)), .val (.list (rv.map nI)), .own (.lst (l.map enT)), .own (.ts Wd.P Wd.w ((spots l).map kp)), c11, c12, c13, c14] ∧
      ((∃ p, z = (p : Nat) ∧ p < ws.length ∧ st < S ∧ Path nx ws.length p0 st0 l p st ∧ (spots l).Nodup ∧ (∀ c ∈ spots l, c.1 < ws.length ∧ c.2 < S) ∧ k + l.length = S * ws.length + 1) ∨
        ∃ mv : Str, (z = -1 ∧ mv = "left" ∨ z = (ws.length : Nat) ∧ mv = "right") ∧ k = 0 ∧ go nx ws.length (S * ws.length + 1) p0 st0 = some (.out mv st, l)))
    (S * ws.length + 1) ?_ ⟨[], (p0 : Nat), st0, .un, .un, .un, .un, .u, .u, .u, .u, rfl, .inl ⟨p0, rfl, hp0, hst0, .nil _ _, List.nodup_nil, fun c hc => (by cases hc), rfl⟩⟩ fun k0 ρ hI => ?_
  · have : S * ws.length ≤ 3 * 6 := Nat.mul_le_mul M.s3 hl6
    show _ < 2 ^ 40
    omega
  obtain ⟨l, z, st, c11, c12, c13, c14, v11, v12, v13, v14, rfl, hI⟩ := hI
  rcases hI with ⟨p, rfl, hp, hst, path, nd, bd, hk⟩ | ⟨mv, hz, rfl, hgo⟩
  · walk_at "dl"
    rw [if_pos (show (0 : Int) ≤ (p : Nat) by omega), List.length_map, if_pos (show ((p : Nat) : Int) < (ws.length : Nat) by omega)]
    have ixA : ∀ (l : List Nat), p < l.length → atI (l.map nI) (p : Nat) = some (nI (l.getD p 0)) := fun l h => ixL l p h
    rw [ixA lv (by omega)]
    walk_at "dl"
    rw [ixA ws (by omega)]
    walk_at "dl"
    rw [ixA rv (by omega)]
    walk_at "dl"
    rw [setVo_loose v11]
    walk_at "dl"
    have hk0 : go nx ws.length (S * ws.length + 1) p0 st0 = (go nx ws.length (S * ws.length + 1 - l.length) p st).map fun r => (r.1, l ++ r.2) := go_path path _
    have sz : S * ws.length ≤ 3 * 6 := Nat.mul_le_mul M.s3 hl6
    have tab : valD (deedsD ss) (keyN st (lv.getD p 0) (ws.getD p 0) (rv.getD p 0)) = (nx p st).map tailS := by
      rw [← hnx, (seen p hp).1, (seen p hp).2]
      exact valD_merge keyS tailS ss _
    rw [keysD_nI]
    walk_at "dl"
    rw [tab]
    cases hs : nx p st with
    | none =>
      rw [Option.map_none, Option.isSome_none, Bool.not_false, if_pos rfl]
      have : go nx ws.length (S * ws.length + 1) p0 st0 = none := by
        rw [hk0]
        cases S * ws.length + 1 - l.length with
        | zero => rfl
        | succ f => rw [go, hs]; rfl
      rw [this] at k
      subst hM hA hR
      walk_at "dl"
      exact k
    | some s =>
      rw [Option.map_some, Option.isSome_some, Bool.not_true, if_neg Bool.false_ne_true]
      rw [show keysD [nI st] = some [Sum.inl ((st : Nat) : Int)] from rfl, Option.map_some, show ((Sum.inl ((p : Nat) : Int) : Key) :: [Sum.inl ((st : Nat) : Int)]) = kp (p, st) from rfl]
      walk_at "dl"
      rw [hasK_kp]
      by_cases hm : (p, st) ∈ spots l
      · rw [decide_eq_true hm, if_pos rfl]
        obtain ⟨l2, hl2, path2⟩ := path_mem path hm
        have : go nx ws.length (S * ws.length + 1) p0 st0 = none := by
          rw [hk0, go_cycle path2 hl2]
          rfl
        rw [this] at k
        subst hM hA hR
        walk_at "dl"
        exact k
      · rw [decide_eq_false hm, if_neg Bool.false_ne_true]
        have nd' : (spots (l ++ [(p, st, s)])).Nodup := by
          unfold spots
          rw [List.map_append]
          exact List.nodup_append.mpr ⟨nd, List.nodup_cons.mpr ⟨by simp, List.nodup_nil⟩, fun a ha b hb e => hm ((show a = (p, st) from e.trans (List.mem_singleton.mp hb)) ▸ ha)⟩
        have bd' : ∀ c ∈ spots (l ++ [(p, st, s)]), c.1 < ws.length ∧ c.2 < S := fun c hc => by
          unfold spots at hc
          rw [List.map_append] at hc
          rcases List.mem_append.mp hc with z | z
          · exact bd c z
          · rw [List.mem_singleton.mp z]; exact ⟨hp, hst⟩
        have len' := spots_len nd' bd'
        rw [List.length_append, List.length_singleton] at len'
        have addk : addK ((spots l).map kp) (kp (p, st)) = (spots (l ++ [(p, st, s)])).map kp := by
          unfold addK
          rw [hasK_kp, decide_eq_false hm, if_neg Bool.false_ne_true]
          unfold spots
          rw [List.map_append, List.map_append]
          rfl
        rw [addk]
        have sOK := M.st s (by rw [← hnx] at hs; exact (lastK_mem hs).1)
        refine ⟨by rw [List.length_map]; unfold spots; rw [List.length_map]; omega, ?_⟩
        walk_at "dl"
        have un : gTupD 3 (gConsD (setV 12) (gConsD (setV 13) (gConsD (setV 14) gNilD))) (tailS s) [cM, .val (.list (ws.map nI)), cA, .val (.int (p : Nat)), .val (nI st), cR, .own (.dt (deedsD ss)), .val (.list (lv.map nI)), .val (.list (rv.map nI)), .own (.lst (l.map enT)), .own (.ts Wd.P Wd.w ((spots (l ++ [(p, st, s)])).map kp)), .val (.tuple [nI st, nI (lv.getD p 0), nI (ws.getD p 0), nI (rv.getD p 0)]), c12, c13, c14] = some [cM, .val (.list (ws.map nI)), cA, .val (.int (p : Nat)), .val (nI st), cR, .own (.dt (deedsD ss)), .val (.list (lv.map nI)), .val (.list (rv.map nI)), .own (.lst (l.map enT)), .own (.ts Wd.P Wd.w ((spots (l ++ [(p, st, s)])).map kp)), .val (.tuple [nI st, nI (lv.getD p 0), nI (ws.getD p 0), nI (rv.getD p 0)]), .val (.str s.mv), .val (nI s.q), .val (.tuple (s.pc.map nI))] := by
          rcases v12 with rfl | ⟨_, rfl⟩ <;> rcases v13 with rfl | ⟨_, rfl⟩ <;> rcases v14 with rfl | ⟨_, rfl⟩ <;> rfl
        rw [un]
        walk_at "dl"
        refine ⟨small_line1 (by rw [List.length_map]; omega), ?_⟩
        rw [show (l.map enT ++ [PyData.tuple [.int (p : Nat), nI st, .tuple (s.pc.map nI)]]) = (l ++ [(p, st, s)]).map enT by rw [List.map_append]; rfl]
        have mok := sOk s.mv (by rcases sOK.mv with e | e | e <;> simp [e])
        have f1 : S * ws.length + 1 - l.length = (S * ws.length - l.length) + 1 := by omega
        rw [f1, go_some hs] at hk0
        rw [oEq_str mok (by decide +kernel)]
        have ql := sOK.q
        rcases sOK.mv with e | e | e
        · -- to the right
          rw [show (s.mv == ("stop" : Str)) = false by rw [e]; decide +kernel]
          rw [if_neg (by rw [e]; decide), if_neg (by rw [e]; decide)] at hk0
          walk_at "dl"
          rw [oEq_str mok (by decide +kernel), show (s.mv == ("right" : Str)) = true by rw [e]; decide +kernel]
          walk_at "dl"
          by_cases hN : p + 1 = ws.length
          · rw [if_pos hN] at hk0
            refine ⟨0, by omega, l ++ [(p, st, s)], (p : Nat) + 1, s.q, _, _, _, _, .v _, .v _, .v _, .v _, rfl, .inr ⟨"right", .inr ⟨by omega, rfl⟩, rfl, hk0⟩⟩
          · rw [if_neg hN] at hk0
            refine ⟨k0 - 1, by omega, l ++ [(p, st, s)], (p : Nat) + 1, s.q, _, _, _, _, .v _, .v _, .v _, .v _, rfl, .inl ⟨p + 1, by push_cast; rfl, by omega, ql, path.app (.right hs e hN (.nil _ _)), nd', bd', ?_⟩⟩
            rw [List.length_append, List.length_singleton]
            omega
        · -- to the left
          rw [show (s.mv == ("stop" : Str)) = false by rw [e]; decide +kernel]
          rw [if_neg (by rw [e]; decide), if_pos e] at hk0
          walk_at "dl"
          rw [oEq_str mok (by decide +kernel), show (s.mv == ("right" : Str)) = false by rw [e]; decide +kernel]
          walk_at "dl"
          by_cases hN : p = 0
          · rw [if_pos hN] at hk0
            refine ⟨0, by omega, l ++ [(p, st, s)], (p : Nat) + -1, s.q, _, _, _, _, .v _, .v _, .v _, .v _, rfl, .inr ⟨"left", .inl ⟨by omega, rfl⟩, rfl, hk0⟩⟩
          · rw [if_neg hN] at hk0
            refine ⟨k0 - 1, by omega, l ++ [(p, st, s)], (p : Nat) + -1, s.q, _, _, _, _, .v _, .v _, .v _, .v _, rfl, .inl ⟨p - 1, by omega, by omega, ql, path.app (.left hs e hN (.nil _ _)), nd', bd', ?_⟩⟩
            rw [List.length_append, List.length_singleton]
            omega
        · -- stop
          rw [show (s.mv == ("stop" : Str)) = true by rw [e]; decide +kernel]
          rw [if_pos e] at hk0
          rw [hk0] at k
          subst hM hA hR
          walk_at "dl"
          exact k
  · -- behind the row
    rw [hgo] at k
    subst hM hA hR
    rcases hz with ⟨rfl, rfl⟩ | ⟨rfl, rfl⟩
    · walk_at "dl"
      rw [if_neg (show ¬ (0 : Int) ≤ -1 by decide)]
      walk_at "dl"
      rw [if_pos (show (-1 : Int) < 0 by decide)]
      exact k
    · walk_at "dl"
      rw [if_pos (show (0 : Int) ≤ (ws.length : Nat) by omega), List.length_map, if_neg (Int.lt_irrefl _)]
      walk_at "dl"
      rw [if_neg (show ¬ ((ws.length : Nat) : Int) < 0 by omega)]
      exact k
theorem trail_none {L S e width n : Nat} {ls outs : List Nat} {m : Nat → Nat → Nat} {ss : List MStep} (M : MOk L S e ls n m ss) {left right : Nat} (h1 : left < n) (h2 : right < n) {z : Int} (hz : z = 0 ∨ z = -1) {st0 : Nat} {Q : PyData → DEnv → Prop}
    (k : Q (trD (some (.out (if z = 0 then "right" else "left") st0, []))) [.val (enM L S e ls n m width outs ss), .val (.list []), .val (.tuple [nI left, nI right]), .val (.int z), .val (nI st0)]) :
    WpX Zn (dentrail [.val (enM L S e ls n m width outs ss), .val (.list []), .val (.tuple [nI left, nI right]), .val (.int z), .val (nI st0)]) Q := by
  refine wpdtrail _ _ _ _ _ _ ?_
  unfold bodytrail
  have g2 : oIx (enM L S e ls n m width outs ss) (.int 2) = some (enRd e ls n m []) := rfl
  walk_at "dl"
  rw [g2]
  walk_at "dl"
  refine deeds_ok M.len ?_
  walk_at "dl"
  refine lefts_ok (ws := []) M.rd (fun l hl => by cases hl) (by simp) h1 fun lv lv1 lv2 lv3 => ?_
  walk_at "dl"
  refine rights_ok (ws := []) M.rd (fun l hl => by cases hl) (by simp) h2 fun rv rv1 rv2 rv3 => ?_
  walk_at "dl"
  refine wp_while (fun k ρ => k = 0 ∧ ρ = [.val (enM L S e ls n m width outs ss), .val (.list []), .val (.tuple [nI left, nI right]), .val (.int z), .val (nI st0), .val (enRd e ls n m []), .own (.dt (deedsD ss)), .val (.list (lv.map nI)), .val (.list (rv.map nI)), .own (.lst []), .own (.ts Wd.P Wd.w []), .un, .un, .un, .un]) 0 (by decide) ⟨rfl, rfl⟩ fun k0 ρ hI => ?_
  obtain ⟨rfl, rfl⟩ := hI
  rcases hz with rfl | rfl
  · walk_at "dl"
    rw [if_pos (show (0 : Int) ≤ 0 by decide), if_neg (show ¬ (0 : Int) < (([] : List PyData).length : Nat) by decide)]
    walk_at "dl"
    rw [if_neg (show ¬ (0 : Int) < 0 by decide)]
    rw [if_pos rfl] at k
    exact k
  · walk_at "dl"
    rw [if_neg (show ¬ (0 : Int) ≤ -1 by decide)]
    walk_at "dl"
    rw [if_pos (show (-1 : Int) < 0 by decide)]
    rw [if_neg (by decide)] at k
    exact k

end M

set_option Elab.async false
set_option linter.all false
set_option maxRecDepth 100000
set_option maxHeartbeats 4000000
namespace M
open PySem PySem.Spec PyProof.Rows L2 DL

local macro_rules | `(tactic| walk_at "dl") => `(tactic| try simp only [↓ws_seq, ↓ws_nx, ↓ws_bk, ↓ws_ct, ↓ws_ret, ↓ws_retN, ↓ws_drop, ↓ws_if, ↓ws_asg, ↓ws_new, ↓ws_nxOf, ↓ws_frz, ↓ws_for, ↓ws_app, ↓ws_setH, ↓wp_C, ↓wp_vr, ↓wp_op, ↓wp_un, ↓wp_nil, ↓wp_cons, ↓wp_call, ↓wp_tup, ↓wp_lst, ↓wp_frz, ↓wp_tof, ↓wp_tru, ↓wp_tnot, ↓wp_tand, ↓wp_tor, ↓wp_and, ↓wp_or, ↓wp_not, ↓wp_if, ↓wp_chain, ↓wp_len, ↓wp_tupleOf, ↓wp_listOf, ↓wp_lof, ↓wp_lname, ↓wp_ixN, ↓wp_inN, ↓wp_indexN, ↓wp_popAt, ↓wp_tupRg, ↓wp_lstRg, ↓wp_sl, ↓wp_noPart, ↓wp_part, ↓wp_callV, ↓wp_callI, ↓wp_iseq, ↓wp_irng, ↓wp_lc, ↓wp_of_some, ↓wp_dget, ↓wp_dgetT, ↓ws_dput, ↓ws_dputT, ↓wp_newT, ↓wp_newK, ↓wp_disp, ↓wp_callF, ↓wf_seq, ↓wf_frz, ↓wp_ienums, ↓wp_izip, ↓ws_aug, ↓wp_sorted, ↓ws_augH, ↓wp_rep, ↓wp_sortD, ↓wp_sortSet, ↓wp_dc, ↓wp_keys, ↓wp_inK, ↓wp_lenK, ↓ws_ext, ↓wp_fLcH, ↓wp_fLc2, ↓wp_kget, ↓ws_frzK, ↓wp_fld, ↓ws_fset, ↓wp_meth, ↓wp_make, ↓wp_rev, ↓wp_sortDr, ↓wp_lstRev, ↓wp_irevRg, frzKO_own, frzKO_val, undk_dk, lstQ_lst, Int.reduceBEq,
  onNx_nx, onNx_rt, onNx_bk, onNx_ct, boolQ_bool, intQ_int, frzQ_lst, retQ_rt, retQ_nx, cellQ_val, heldQ_some, ixQ_some, atI_0, ixN_0, atI_1, ixN_1, atI_2, ixN_2, atI_3, ixN_3, atI_4, ixN_4, atI_5, ixN_5, atI_6, ixN_6, atI_7, ixN_7, len_0, len_1, len_2, len_3, len_4, len_5, len_6, len_7, len_8, wp_of_ite, List.getElem?_cons_succ, List.getElem?_cons_zero, setV_eq, setVo_val, setVo_un, setVo_own, setO_eq, setOo_val, setOo_un, setOo_own, nameD_eq, nameO_val, nameO_own, nameO_io, heldL_eq, heldO_own, heldO_io, isHeld_eq, setHeld_eq, setHeldO_own, setHeldO_io, frzC_eq, frzO_own, frzO_val, frzO_io, frzO_un, List.set_cons_succ, List.set_cons_zero, Option.bind_some, Option.isSome_some, Option.getD_some, Option.map_some, own_own, own_io, isLst_some, List.map_cons, List.map_nil,
  oAdd_int, oAdd_tup, oSub_int, oMul_int, oDiv_int, oMod_int, oPow_int, oNeg_int, oLt_int, oLe_int, oGt_int, oGe_int, oIx_lst, oIx_tup, oInt_int, oInt_bool, oMax2_int, oMin2_int, oEq_int, oNe_int, oEq_bool, oNe_bool, oIsN_none, oNotN_none, isNone_none, isNone_int, isNone_tup, isNone_lst, isNone_str, tru_bool, tru_int, tru_none, tru_lst, tru_tup, seqOf_lst, seqOf_tup, slOf_lst, slOf_tup, rng1_int, rng2_int, wipeC_nil, wipeC_cons, backIO_nil, backIO_io', backIO_val, isi_int_int, isi_bool_int, isi_bool_bool, isi_int_bool, Bool.false_eq_true, reduceCtorEq, unwipe_one, loopQ_nx, loopQ_ct, loopQ_bk, loopQ_rt, wp_tTrue,  augQ_val, oAddI_int, oSubI_int, isi_int_str, isi_int_tup, isi_tup_tup, isi_tup_int, isi_tup_str, oShl_int, oShr_int, oOr_int, oAnd_int, oXor_int, someQ_some, someQ_ite, repOf_int, isi_lst_lst, nxF_nx, retF_eq, dkQ_dk, dtQ_dt, keyQ_some, hobj_eq, hobjO_own, hobjO_io, keyD_int, keyD_str, keysD_nil, keysD_int, frzO_dk, frzO_dt, eq_self, ↓wp_cat, catQ_list, unwipe_nil, unwipe_cons, wp_callFI, wp_retOwn, ownQ_own, wp_chain3, wp_newN, wp_dgetN, ws_dputN, dnQ_dn, ↓wp_tget, ↓wp_tin, ↓wp_tget1, isDt_dt, ↓ws_tput, ↓wp_slN, tupQ_tup, keyTD_tup, ↓wp_dcT, ↓wp_newS, ↓wp_skin, ↓wp_skadd, tsQ_ts, isTs_ts, c_STOP, c_LEFT, c_RIGHT, box_row, box_at, box_put, box_merge, insQ_ins, mkQ_io, rlQ_list, roQ_some, if_true, if_false, Bool.not_true, Bool.not_false, decide_eq_true_eq, true_and, and_true])
local macro_rules | `(tactic| walk_at "dls") => `(tactic| simp only [setV_eq, setVo_val, setVo_un, setVo_own, List.getElem?_cons_succ, List.getElem?_cons_zero, List.set_cons_succ, List.set_cons_zero])

variable [Wd]
/-! ### the law's walk -/
noncomputable section
def gR : DEnv → Res Out := sSeq (sAsg (dVar 5) (setV 10)) (sSeq (sAsg (dFrz (fLst (dNil))) (setV 11)) (sSeq (sFor (iRng rng1 (dCons (dOp oAdd (dOp oMul (dIxN 0 (dC (.int 1))) (dLen (lName 1))) (dC (.int 1))) (dNil))) (setV 12) (sSeq (sAsg (dOp oIx (dOp oIx (dIxN 6 (dC (.int 2))) (dVar 2)) (dCallV den_law_worth (dCons (dVar 6) (dCons (dSl (dVar 1) (oNoPart) (oPart (dVar 9))) (dNil))))) (setV 13)) (sSeq (sAsg (dOp oIx (dOp oIx (dIxN 6 (dC (.int 2))) (dCallV den_law_worth (dCons (dVar 6) (dCons (dSl (dVar 1) (oPart (dOp oAdd (dVar 9) (dC (.int 1)))) (oNoPart)) (dNil))))) (dVar 3)) (setV 14)) (sSeq (sAsg (dTGet1 7 (dTup (dCons (dVar 10) (dCons (dVar 13) (dCons (dIxN 1 (dVar 9)) (dCons (dVar 14) (dNil))))))) (setV 8)) (sSeq (sIf (tOf (dOp oIsN (dVar 8) (dC .none))) (sRet (dFrz (fLst (dCons (dC .none) (dCons (dFrz (fLst (dNil))) (dNil)))))) (sNx)) (sSeq (sAsg (dOp oAdd (dVar 11) (dFrz (fLc [15] (iRng rng1 (dCons (dLen (lOf (dIxN 8 (dC (.int 6))))) (dNil))) (setV 15) (tTrue) (dTup (dCons (dVar 9) (dCons (dVar 10) (dCons (dVar 15) (dCons (dOp oIx (dIxN 8 (dC (.int 6))) (dVar 15)) (dNil))))))))) (setV 11)) (sSeq (sIf (tOf (dOp oEq (dIxN 8 (dC (.int 4))) (dC (.str "stop")))) (sRet (dFrz (fLst (dCons (dTup (dCons (dC (.str "stop")) (dNil))) (dCons (dVar 11) (dNil)))))) (sNx)) (sSeq (sAsg (dIxN 8 (dC (.int 5))) (setV 10)) (sSeq (sIf (tOf (dOp oEq (dIxN 8 (dC (.int 4))) (dC (.str "left")))) (sAsg (dOp oSub (dVar 9) (dC (.int 1))) (setV 9)) (sAsg (dOp oAdd (dVar 9) (dC (.int 1))) (setV 9))) (sIf (tOrD (tOf (dOp oLt (dVar 9) (dC (.int 0)))) (tOf (dOp oEq (dVar 9) (dLen (lName 1))))) (sRet (dFrz (fLst (dCons (dTup (dCons (dC (.str "out")) (dCons (dIxN 8 (dC (.int 4))) (dCons (dVar 10) (dNil))))) (dCons (dVar 11) (dNil)))))) (sNx))))))))))) (sRet (dFrz (fLst (dCons (dC .none) (dCons (dFrz (fLst (dNil))) (dNil))))))))
theorem gR_eq : body_law_goes = sSeq (sAsg (dIxN 0 (dC (.int 2))) (setV 6)) (sSeq (sNew 7 (fNewT)) (sSeq (sFor (iSeq (dIxN 0 (dC (.int 5)))) (setV 8) (sTPut 7 (dVar 8) (dSlN (dVar 8) (oNoPart) (oPart (dC (.int 4)))))) (sSeq (sIf (tOf (dOp oEq (dLen (lName 1)) (dC (.int 0)))) (sRet (dFrz (fLst (dCons (dTup (dCons (dC (.str "out")) (dCons (dOp oIx (dFrz (fLst (dCons (dC (.str "left")) (dCons (dC (.str "right")) (dNil))))) (dCall oInt (dCons (dOp oEq (dVar 4) (dC (.str "left"))) (dNil)))) (dCons (dVar 5) (dNil))))) (dCons (dFrz (fLst (dNil))) (dNil)))))) (sNx)) (sSeq (sAsg (dC (.int 0)) (setV 9)) (sSeq (sIf (tOf (dOp oEq (dVar 4) (dC (.str "right")))) (sAsg (dOp oSub (dLen (lName 1)) (dC (.int 1))) (setV 9)) (sNx)) (gR)))))) := rfl
end

def toldS (l : Trk) : List PyData := l.flatMap fun t => (List.range t.2.2.pc.length).map fun j => .tuple [nI t.1, nI t.2.1, nI j, nI (t.2.2.pc.getD j 0)]
def lawD : Option (Endd × Trk) → PyData
  | none => .list [.none, .list []]
  | some (.stop _, l) => .list [.tuple [.str "stop"], .list (toldS l)]
  | some (.out mv q, l) => .list [.tuple [.str "out", .str mv, nI q], .list (toldS l)]
theorem toldS_len : ∀ (l : Trk), (∀ t ∈ l, t.2.2.pc.length ≤ 2) → (toldS l).length ≤ 2 * l.length
  | [], _ => Nat.le_refl _
  | t :: l, h => by
    have h1 := toldS_len l fun x hx => h x (List.mem_cons_of_mem _ hx)
    have h2 := h t List.mem_cons_self
    unfold toldS at h1 ⊢
    rw [List.flatMap_cons, List.length_append, List.length_map, List.length_range, List.length_cons]
    omega
theorem toldS_snoc (l : Trk) (t : Nat × Nat × MStep) : toldS (l ++ [t]) = toldS l ++ (List.range t.2.2.pc.length).map fun j => .tuple [nI t.1, nI t.2.1, nI j, nI (t.2.2.pc.getD j 0)] := by
  unfold toldS
  rw [List.flatMap_append, List.flatMap_cons, List.flatMap_nil, List.append_nil]
theorem toldS_bd {S : Nat} {l : Trk} (h : ∀ t ∈ l, StepOk S t.2.2) : (toldS l).length ≤ 2 * l.length := toldS_len l fun t ht => (h t ht).pc
theorem path_steps {nx : Nat → Nat → Option MStep} {N S p st p' st' : Nat} {l : Trk} (hS : ∀ p st s, nx p st = some s → StepOk S s) (h : Path nx N p st l p' st') : ∀ t ∈ l, StepOk S t.2.2 := by
  induction h with
  | nil => exact fun t ht => by cases ht
  | left a _ _ _ ih => exact fun t ht => (List.mem_cons.mp ht).elim (fun e => by rw [e]; exact hS _ _ _ a) fun ht => ih t ht
  | right a _ _ _ ih => exact fun t ht => (List.mem_cons.mp ht).elim (fun e => by rw [e]; exact hS _ _ _ a) fun ht => ih t ht
theorem mulI {n : Nat} {m : Nat → Nat → Nat} {x : Nat} (hx : x < n) : oIx (enMul n m) (nI x) = some (.tuple (enRow n (m x))) := (mul_at hx hx).1
theorem rowI {n : Nat} {r : Nat → Nat} {y : Nat} (hy : y < n) : oIx (.tuple (enRow n r)) (nI y) = some (nI (r y)) := row_at hy
theorem goes_rest {L S e width n : Nat} {ls outs : List Nat} {m : Nat → Nat → Nat} {ss : List MStep} (M : MOk L S e ls n m ss) {ws : List Nat} (hw : ∀ l ∈ ws, l < L + 2) (hl6 : ws.length ≤ 6) {left right : Nat} (h1 : left < n) (h2 : right < n) {p0 st0 : Nat} (hp0 : p0 < ws.length) (hst0 : st0 < S) {cS c8 : Cell} (v8 : VU c8) {Z : Out → DEnv → Prop}
    (k : ∀ ρ, Z (.rt (lawD (go (nxS ss m ls e ws left right) ws.length (S * ws.length + 1) p0 st0))) (.val (enM L S e ls n m width outs ss) :: .val (.list (ws.map nI)) :: .val (nI left) :: .val (nI right) :: cS :: .val (nI st0) :: ρ)) :
    WpX Zn (gR [.val (enM L S e ls n m width outs ss), .val (.list (ws.map nI)), .val (nI left), .val (nI right), cS, .val (nI st0), .val (enRd e ls n m []), .own (.dt (tableD ss)), c8, .val (nI p0), .un, .un, .un, .un, .un, .un]) Z := by
  unfold gR
  have g1 : oIx (enM L S e ls n m width outs ss) (.int 1) = some (nI S) := rfl
  have gm : oIx (enRd e ls n m []) (.int 2) = some (enMul n m) := rfl
  have sz : S * ws.length ≤ 3 * 6 := Nat.mul_le_mul M.s3 hl6
  walk_at "dl"
  rw [g1]
  unfold nI
  walk_at "dl"
  rw [List.length_map]
  refine ⟨.inr (by omega), ?_⟩
  rw [show ((S : Nat) : Int) * (ws.length : Nat) + 1 = ((S * ws.length + 1 : Nat) : Int) by push_cast; rfl]
  refine ⟨inR_nat (by omega), ?_⟩
  rw [Int.toNat_natCast, intsD_nI]
  generalize hM : Cell.val (enM L S e ls n m width outs ss) = cM at k ⊢
  have hnS : ∀ p st s, nxS ss m ls e ws left right p st = some s → StepOk S s := fun p st s h => M.st s (lastK_mem h).1
  have hnx0 : ∀ p st, nxS ss m ls e ws left right p st = lastK keyS ss (keyN st (m left (valN m ls e (ws.take p))) (ws.getD p 0) (m (valN m ls e (ws.drop (p + 1))) right)) := fun _ _ => rfl
  generalize hnx : nxS ss m ls e ws left right = nx at k hnS hnx0
  refine wp_forL (fun i ρ => ∃ (p st : Nat) (l : Trk) (c8 c12 c13 c14 : Cell), VU c8 ∧ VU c12 ∧ VU c13 ∧ VU c14 ∧ p < ws.length ∧ st < S ∧ l.length = i ∧ Path nx ws.length p0 st0 l p st ∧
    ρ = [cM, .val (.list (ws.map nI)), .val (nI left), .val (nI right), cS, .val (nI st0), .val (enRd e ls n m []), .own (.dt (tableD ss)), c8, .val (.int (p : Nat)), .val (nI st), .val (.list (toldS l)), c12, c13, c14, .un])
    ⟨p0, st0, [], c8, .un, .un, .un, v8, .u, .u, .u, hp0, hst0, rfl, .nil _ _, rfl⟩ (fun i d ρ hd hI => ?_) fun ρ hI => ?_
  · obtain ⟨p, st, l, c8, c12, c13, c14, v8, v12, v13, v14, hp, hst, hl, path, rfl⟩ := hI
    obtain ⟨rfl, hi⟩ := range_at hd
    refine ⟨_, setV_vu _ rfl v12, ?_⟩
    walk_at "dl"
    have wt : ∀ l ∈ ws.take p, l < L + 2 := fun l hl => hw l (List.mem_of_mem_take hl)
    have wd : ∀ l ∈ ws.drop (p + 1), l < L + 2 := fun l hl => hw l (List.mem_of_mem_drop hl)
    have vt := valN_lt M.rd (ws.take p) e M.rd.eu wt
    have vd := valN_lt M.rd (ws.drop (p + 1)) e M.rd.eu wd
    rw [gm]
    walk_at "dl"
    rw [mulI h1]
    walk_at "dl"
    rw [cutD_to _ p (by rw [List.length_map]; omega), ← List.map_take]
    refine worth_ok M.rd wt ?_
    rw [rowI vt]
    walk_at "dl"
    rw [setVo_loose v13]
    walk_at "dl"
    rw [gm]
    walk_at "dl"
    rw [show ((p : Nat) : Int) + 1 = ((p + 1 : Nat) : Int) by push_cast; rfl, cutD_from _ (p + 1) (by rw [List.length_map]; omega), ← List.map_drop]
    refine worth_ok M.rd wd ?_
    rw [mulI vd]
    walk_at "dl"
    rw [rowI h2]
    walk_at "dl"
    rw [setVo_loose v14]
    walk_at "dl"
    rw [show atI (ws.map nI) (p : Nat) = some (nI (ws.getD p 0)) from by rw [List.getD_eq_getElem?_getD, List.getElem?_eq_getElem hp]; exact atI_map (List.getElem?_eq_getElem hp)]
    walk_at "dl"
    rw [keysD_nI]
    walk_at "dl"
    rw [show valD (tableD ss) (keyN st (m left (valN m ls e (ws.take p))) (ws.getD p 0) (m (valN m ls e (ws.drop (p + 1))) right)) = (nx p st).map enStep by rw [hnx0]; exact valD_merge keyS enStep ss _]
    rw [setVo_loose v8]
    walk_at "dl"
    have hk0 : go nx ws.length (S * ws.length + 1) p0 st0 = (go nx ws.length (S * ws.length + 1 - l.length) p st).map fun r => (r.1, l ++ r.2) := go_path path _
    have f1 : S * ws.length + 1 - l.length = (S * ws.length - l.length) + 1 := by omega
    cases hs : nx p st with
    | none =>
      walk_at "dl"
      have : go nx ws.length (S * ws.length + 1) p0 st0 = none := by
        rw [hk0, f1, go, hs]
        rfl
      rw [this] at k
      rw [Option.map_none, Option.getD_none, isNone_none, if_pos rfl]
      exact k _
    | some s =>
      rw [f1, go_some hs] at hk0
      have sOK := hnS _ _ _ hs
      have mok := sOk s.mv (by rcases sOK.mv with e | e | e <;> simp [e])
      have ql := sOK.q
      have pcl := sOK.pc
      have tl := toldS_bd (path_steps hnS path)
      rw [Option.map_some, Option.getD_some]
      unfold enStep
      walk_at "dl"
      rw [List.length_map]
      refine ⟨inR_nat (by omega), ?_⟩
      rw [Int.toNat_natCast, intsD_nI]
      refine wp_lcMapOf (fun j => .tuple [nI p, nI st, nI j, nI (s.pc.getD j 0)]) (by rw [List.length_range]; omega) (fun j hj => ⟨_, rfl, ?_⟩) ?_
      · have hj : j < s.pc.length := List.mem_range.mp hj
        walk_at "dl"
        rw [show oIx (.tuple (s.pc.map nI)) (nI j) = some (nI (s.pc.getD j 0)) from by rw [List.getD_eq_getElem?_getD, List.getElem?_eq_getElem hj]; exact atI_map (f := nI) (List.getElem?_eq_getElem hj)]
        walk_at "dl"
        rfl
      · walk_at "dl"
        rw [oAdd_lst]
        walk_at "dl"
        refine ⟨small_line (by rw [List.length_map, List.length_range]; omega), ?_⟩
        rw [show toldS l ++ (List.range s.pc.length).map (fun j => PyData.tuple [nI p, nI st, nI j, nI (s.pc.getD j 0)]) = toldS (l ++ [(p, st, s)]) from (toldS_snoc l (p, st, s)).symm]
        rw [oEq_str mok (by decide +kernel)]
        walk_at "dl"
        rcases sOK.mv with e | e | e
        · -- to the right
          rw [show (s.mv == ("stop" : Str)) = false by rw [e]; decide +kernel]
          rw [if_neg (by rw [e]; decide), if_neg (by rw [e]; decide)] at hk0
          walk_at "dl"
          rw [oEq_str mok (by decide +kernel), show (s.mv == ("left" : Str)) = false by rw [e]; decide +kernel]
          walk_at "dl"
          rw [if_neg (show ¬ ((p : Nat) : Int) + 1 < 0 by omega), List.length_map]
          by_cases hN : p + 1 = ws.length
          · rw [if_pos hN] at hk0
            rw [hk0] at k
            rw [if_pos (show (((p : Nat) : Int) + 1 == ((ws.length : Nat) : Int)) = true by rw [beq_iff_eq]; omega), e]
            exact k _
          · rw [if_neg hN] at hk0
            rw [if_neg (show ¬ (((p : Nat) : Int) + 1 == ((ws.length : Nat) : Int)) = true by rw [beq_iff_eq]; omega)]
            exact ⟨p + 1, s.q, l ++ [(p, st, s)], _, _, _, _, .v _, .v _, .v _, .v _, by omega, ql, by rw [List.length_append, hl]; rfl, path.app (.right hs e hN (.nil _ _)), rfl⟩
        · -- to the left
          rw [show (s.mv == ("stop" : Str)) = false by rw [e]; decide +kernel]
          rw [if_neg (by rw [e]; decide), if_pos e] at hk0
          walk_at "dl"
          rw [oEq_str mok (by decide +kernel), show (s.mv == ("left" : Str)) = true by rw [e]; decide +kernel]
          walk_at "dl"
          by_cases hN : p = 0
          · rw [if_pos hN] at hk0
            rw [hk0] at k
            rw [if_pos (show ((p : Nat) : Int) - 1 < 0 by omega), e]
            exact k _
          · rw [if_neg hN] at hk0
            rw [if_neg (show ¬ ((p : Nat) : Int) - 1 < 0 by omega), List.length_map, if_neg (show ¬ (((p : Nat) : Int) - 1 == ((ws.length : Nat) : Int)) = true by rw [beq_iff_eq]; omega)]
            rw [show ((p : Nat) : Int) - 1 = ((p - 1 : Nat) : Int) by omega]
            exact ⟨p - 1, s.q, l ++ [(p, st, s)], _, _, _, _, .v _, .v _, .v _, .v _, by omega, ql, by rw [List.length_append, hl]; rfl, path.app (.left hs e hN (.nil _ _)), rfl⟩
        · -- stop
          rw [show (s.mv == ("stop" : Str)) = true by rw [e]; decide +kernel]
          rw [if_pos e] at hk0
          rw [hk0] at k
          walk_at "dl"
          exact k _
  · obtain ⟨p, st, l, c8, c12, c13, c14, v8, v12, v13, v14, hp, hst, hl, path, rfl⟩ := hI
    rw [List.length_map, List.length_range] at hl
    have hk0 : go nx ws.length (S * ws.length + 1) p0 st0 = none := by
      rw [go_path path, hl, Nat.sub_self]
      rfl
    rw [hk0] at k
    walk_at "dl"
    exact k _
theorem goes_ok {L S e width n : Nat} {ls outs : List Nat} {m : Nat → Nat → Nat} {ss : List MStep} (M : MOk L S e ls n m ss) {ws : List Nat} (hw : ∀ l ∈ ws, l < L + 2) (hl6 : ws.length ≤ 6) {left right : Nat} (h1 : left < n) (h2 : right < n) {side : Str} (hside : side = "left" ∨ side = "right") {st0 : Nat} (hst0 : st0 < S) {Q : PyData → DEnv → Prop}
    (k : Q (lawD (if ws = [] then some (.out (if side = "left" then "right" else "left") st0, []) else go (nxS ss m ls e ws left right) ws.length (S * ws.length + 1) (if side = "left" then 0 else ws.length - 1) st0)) [.val (enM L S e ls n m width outs ss), .val (.list (ws.map nI)), .val (nI left), .val (nI right), .val (.str side), .val (nI st0)]) :
    WpX Zn (den_law_goes [.val (enM L S e ls n m width outs ss), .val (.list (ws.map nI)), .val (nI left), .val (nI right), .val (.str side), .val (nI st0)]) Q := by
  refine wpd_law_goes _ _ _ _ _ _ _ ?_
  rw [gR_eq]
  have g2 : oIx (enM L S e ls n m width outs ss) (.int 2) = some (enRd e ls n m []) := rfl
  have g1 : oIx (enM L S e ls n m width outs ss) (.int 1) = some (nI S) := rfl
  have sok : PySem.PyData.strOk side = true := by rcases hside with e | e <;> (rw [e]; decide +kernel)
  walk_at "dl"
  rw [g2]
  walk_at "dl"
  rw [at5]
  walk_at "dl"
  generalize hM : Cell.val (enM L S e ls n m width outs ss) = cM
  refine wp_forL (fun i ρ => ∃ c8 : Cell, VU c8 ∧ ρ = [cM, .val (.list (ws.map nI)), .val (nI left), .val (nI right), .val (.str side), .val (nI st0), .val (enRd e ls n m []), .own (.dt (tableD (ss.take i))), c8, .un, .un, .un, .un, .un, .un, .un]) ⟨.un, .u, rfl⟩ (fun i d ρ hd hI => ?_) fun ρ hI => ?_
  · obtain ⟨c8, v8, rfl⟩ := hI
    rw [List.getElem?_map] at hd
    cases q : ss[i]? with
    | none => rw [q] at hd; cases hd
    | some s =>
      rw [q] at hd
      obtain rfl : enStep s = d := Option.some.inj hd
      have hi := (List.getElem?_eq_some_iff.mp q).1
      have hM5 := M.len
      refine ⟨_, setV_vu _ rfl v8, ?_⟩
      unfold enStep
      walk_at "dl"
      rw [cut4a, keysD_nI]
      walk_at "dl"
      refine ⟨by show ¬ (HT.sIx 7 0 none = 0 ∧ HT.sIx 7 7 (some 4) = 7); decide, ?_, .val (enStep s), .v _, ?_⟩
      · have := mergeDT_length ((ss.take i).map fun s => (keyS s, enStep s)) []
        rw [List.length_map, List.length_take] at this
        refine small_line1 ?_
        show (mergeD [] _).length < 1000000
        have h0 : ([] : List (List Key × PyData)).length = 0 := rfl
        omega
      · have : tableD (ss.take (i + 1)) = putD (tableD (ss.take i)) (keyN s.p s.u s.a s.v) (enStep s) := by
          unfold tableD
          rw [List.take_add_one, q, List.map_append]
          exact mergeDT_snoc _ _ _
        rw [this]
        rfl
  · obtain ⟨c8, v8, rfl⟩ := hI
    rw [List.length_map, List.take_length]
    walk_at "dl"
    rw [List.length_map]
    by_cases h0 : ws = []
    · subst h0
      rw [if_pos (show ((([] : List Nat).length : Nat) : Int) == 0 by rfl), oEq_str sok (by decide +kernel)]
      walk_at "dl"
      rw [if_pos rfl] at k
      subst hM
      rcases hside with e | e
      · rw [show (side == ("left" : Str)) = true by rw [e]; decide +kernel, if_pos rfl]
        rw [if_pos e] at k
        walk_at "dl"
        exact k
      · rw [show (side == ("left" : Str)) = false by rw [e]; decide +kernel, if_neg Bool.false_ne_true]
        rw [if_neg (by rw [e]; decide)] at k
        walk_at "dl"
        exact k
    · have h0' : 0 < ws.length := List.length_pos_iff.mpr h0
      rw [if_neg (show ¬ (((ws.length : Nat) : Int) == 0) = true by rw [beq_iff_eq]; omega)]
      rw [if_neg h0] at k
      walk_at "dl"
      rw [oEq_str sok (by decide +kernel)]
      walk_at "dl"
      subst hM
      rcases hside with e | e
      · rw [show (side == ("right" : Str)) = false by rw [e]; decide +kernel]
        rw [if_pos e] at k
        walk_at "dl"
        exact goes_rest M hw hl6 h1 h2 (p0 := 0) h0' hst0 v8 fun ρ => by
          walk_at "dl"
          exact k
      · rw [show (side == ("right" : Str)) = true by rw [e]; decide +kernel]
        rw [if_neg (by rw [e]; decide)] at k
        walk_at "dl"
        rw [List.length_map, show ((ws.length : Nat) : Int) - 1 = ((ws.length - 1 : Nat) : Int) by omega]
        exact goes_rest M hw hl6 h1 h2 (p0 := ws.length - 1) (by omega) hst0 v8 fun ρ => by
          walk_at "dl"
          exact k

end M

set_option Elab.async false
set_option linter.all false
set_option maxRecDepth 100000
set_option maxHeartbeats 4000000
namespace M
open PySem PySem.Spec PyProof.Rows L2 DL

local macro_rules | `(tactic| walk_at "dl") => `(tactic| try simp only [↓ws_seq, ↓ws_nx, ↓ws_bk, ↓ws_ct, ↓ws_ret, ↓ws_retN, ↓ws_drop, ↓ws_if, ↓ws_asg, ↓ws_new, ↓ws_nxOf, ↓ws_frz, ↓ws_for, ↓ws_app, ↓ws_setH, ↓wp_C, ↓wp_vr, ↓wp_op, ↓wp_un, ↓wp_nil, ↓wp_cons, ↓wp_call, ↓wp_tup, ↓wp_lst, ↓wp_frz, ↓wp_tof, ↓wp_tru, ↓wp_tnot, ↓wp_tand, ↓wp_tor, ↓wp_and, ↓wp_or, ↓wp_not, ↓wp_if, ↓wp_chain, ↓wp_len, ↓wp_tupleOf, ↓wp_listOf, ↓wp_lof, ↓wp_lname, ↓wp_ixN, ↓wp_inN, ↓wp_indexN, ↓wp_popAt, ↓wp_tupRg, ↓wp_lstRg, ↓wp_sl, ↓wp_noPart, ↓wp_part, ↓wp_callV, ↓wp_callI, ↓wp_iseq, ↓wp_irng, ↓wp_lc, ↓wp_of_some, ↓wp_dget, ↓wp_dgetT, ↓ws_dput, ↓ws_dputT, ↓wp_newT, ↓wp_newK, ↓wp_disp, ↓wp_callF, ↓wf_seq, ↓wf_frz, ↓wp_ienums, ↓wp_izip, ↓ws_aug, ↓wp_sorted, ↓ws_augH, ↓wp_rep, ↓wp_sortD, ↓wp_sortSet, ↓wp_dc, ↓wp_keys, ↓wp_inK, ↓wp_lenK, ↓ws_ext, ↓wp_fLcH, ↓wp_fLc2, ↓wp_kget, ↓ws_frzK, ↓wp_fld, ↓ws_fset, ↓wp_meth, ↓wp_make, ↓wp_rev, ↓wp_sortDr, ↓wp_lstRev, ↓wp_irevRg, frzKO_own, frzKO_val, undk_dk, lstQ_lst, Int.reduceBEq,
  onNx_nx, onNx_rt, onNx_bk, onNx_ct, boolQ_bool, intQ_int, frzQ_lst, retQ_rt, retQ_nx, cellQ_val, heldQ_some, ixQ_some, atI_0, ixN_0, atI_1, ixN_1, atI_2, ixN_2, atI_3, ixN_3, atI_4, ixN_4, atI_5, ixN_5, atI_6, ixN_6, atI_7, ixN_7, len_0, len_1, len_2, len_3, len_4, len_5, len_6, len_7, len_8, wp_of_ite, List.getElem?_cons_succ, List.getElem?_cons_zero, setV_eq, setVo_val, setVo_un, setVo_own, setO_eq, setOo_val, setOo_un, setOo_own, nameD_eq, nameO_val, nameO_own, nameO_io, heldL_eq, heldO_own, heldO_io, isHeld_eq, setHeld_eq, setHeldO_own, setHeldO_io, frzC_eq, frzO_own, frzO_val, frzO_io, frzO_un, List.set_cons_succ, List.set_cons_zero, Option.bind_some, Option.isSome_some, Option.getD_some, Option.map_some, own_own, own_io, isLst_some, List.map_cons, List.map_nil,
  oAdd_int, oAdd_tup, oSub_int, oMul_int, oDiv_int, oMod_int, oPow_int, oNeg_int, oLt_int, oLe_int, oGt_int, oGe_int, oIx_lst, oIx_tup, oInt_int, oInt_bool, oMax2_int, oMin2_int, oEq_int, oNe_int, oEq_bool, oNe_bool, oIsN_none, oNotN_none, isNone_none, isNone_int, isNone_tup, isNone_lst, isNone_str, tru_bool, tru_int, tru_none, tru_lst, tru_tup, seqOf_lst, seqOf_tup, slOf_lst, slOf_tup, rng1_int, rng2_int, wipeC_nil, wipeC_cons, backIO_nil, backIO_io', backIO_val, isi_int_int, isi_bool_int, isi_bool_bool, isi_int_bool, Bool.false_eq_true, reduceCtorEq, unwipe_one, loopQ_nx, loopQ_ct, loopQ_bk, loopQ_rt, wp_tTrue,  augQ_val, oAddI_int, oSubI_int, isi_int_str, isi_int_tup, isi_tup_tup, isi_tup_int, isi_tup_str, oShl_int, oShr_int, oOr_int, oAnd_int, oXor_int, someQ_some, someQ_ite, repOf_int, isi_lst_lst, nxF_nx, retF_eq, dkQ_dk, dtQ_dt, keyQ_some, hobj_eq, hobjO_own, hobjO_io, keyD_int, keyD_str, keysD_nil, keysD_int, frzO_dk, frzO_dt, eq_self, ↓wp_cat, catQ_list, unwipe_nil, unwipe_cons, wp_callFI, wp_retOwn, ownQ_own, wp_chain3, wp_newN, wp_dgetN, ws_dputN, dnQ_dn, ↓wp_tget, ↓wp_tin, ↓wp_tget1, isDt_dt, ↓ws_tput, ↓wp_slN, tupQ_tup, keyTD_tup, ↓wp_dcT, ↓wp_newS, ↓wp_skin, ↓wp_skadd, tsQ_ts, isTs_ts, c_STOP, c_LEFT, c_RIGHT, c_OUT, box_row, box_at, box_put, box_merge, insQ_ins, mkQ_io, rlQ_list, roQ_some, if_true, if_false, Bool.not_true, Bool.not_false, decide_eq_true_eq, true_and, and_true])
local macro_rules | `(tactic| walk_at "dls") => `(tactic| simp only [setV_eq, setVo_val, setVo_un, setVo_own, List.getElem?_cons_succ, List.getElem?_cons_zero, List.set_cons_succ, List.set_cons_zero])

variable [Wd]
/-! ### deeds -/
noncomputable section
def dR : DEnv → Res Out := sSeq (sIf (tOf (dOp oIsN (dVar 7) (dC .none))) (sRet (dC .none)) (sNx)) (sSeq (sAsg (dVar 7) (gTupD 3 (gConsD (setV 8) (gConsD (setV 9) (gConsD (setV 10) (gNilD)))))) (sSeq (sAsg (dTupleOf (lOf (dFrz (fLc2 [12, 13, 14] [14] (iSeq (dVar 10)) (gTupD 3 (gConsD (setV 12) (gConsD (setV 12) (gConsD (setV 13) (gNilD))))) (tTrue) (iSeq (dVar 13)) (setV 14) (tTrue) (dVar 14))))) (setV 11)) (sRet (dIf (tOf (dOp oEq (dVar 8) (dC c_STOP))) (dTup (dCons (dC c_STOP) (dCons (dVar 11) (dNil)))) (dTup (dCons (dC c_OUT) (dCons (dVar 8) (dCons (dVar 9) (dCons (dVar 11) (dNil))))))))))
theorem dR_eq : bodydeed = sSeq (sAsg (dIf (tOf (dOp oEq (dVar 4) (dC c_LEFT))) (dC (.int 0)) (dOp oSub (dLen (lName 1)) (dC (.int 1)))) (setV 6)) (sSeq (sAsg (dCallV dentrail (dCons (dVar 0) (dCons (dVar 1) (dCons (dTup (dCons (dVar 2) (dCons (dVar 3) (dNil)))) (dCons (dVar 6) (dCons (dVar 5) (dNil))))))) (setV 7)) (dR)) := rfl
end

def wr (l : Trk) : List Nat := l.flatMap fun t => t.2.2.pc
def deedD : Option (Endd × Trk) → PyData
  | none => .none
  | some (.stop _, l) => .tuple [.str "stop", .tuple ((wr l).map nI)]
  | some (.out mv q, l) => .tuple [.str "out", .str mv, nI q, .tuple ((wr l).map nI)]
/-- what the machine does in a row -/
def runR (S e : Nat) (ls : List Nat) (m : Nat → Nat → Nat) (ss : List MStep) (ws : List Nat) (left right : Nat) (side : Str) (st0 : Nat) : Option (Endd × Trk) :=
  if ws = [] then some (.out (if side = "left" then "right" else "left") st0, []) else go (nxS ss m ls e ws left right) ws.length (S * ws.length + 1) (if side = "left" then 0 else ws.length - 1) st0
theorem go_bd {nx : Nat → Nat → Option MStep} {N S : Nat} (hS : ∀ p st s, nx p st = some s → StepOk S s) : ∀ (f p st : Nat) (r : Endd) (l : Trk), go nx N f p st = some (r, l) → l.length ≤ f ∧ (∀ t ∈ l, StepOk S t.2.2) ∧ ∀ mv q, r = .out mv q → mv = "left" ∨ mv = "right"
  | 0, p, st, r, l, h => by cases h
  | f + 1, p, st, r, l, h => by
    cases hs : nx p st with
    | none => rw [go, hs] at h; cases h
    | some s =>
      rw [go_some hs] at h
      have one : ∀ t ∈ [(p, st, s)], StepOk S t.2.2 := fun t ht => by rw [List.mem_singleton.mp ht]; exact hS _ _ _ hs
      have step : ∀ (p' : Nat), ((go nx N f p' s.q).map fun r => (r.1, (p, st, s) :: r.2)) = some (r, l) → l.length ≤ f + 1 ∧ (∀ t ∈ l, StepOk S t.2.2) ∧ ∀ mv q, r = .out mv q → mv = "left" ∨ mv = "right" := fun p' h => by
        cases hg : go nx N f p' s.q with
        | none => rw [hg] at h; cases h
        | some x =>
          obtain ⟨r', l'⟩ := x
          obtain ⟨a1, a2, a3⟩ := go_bd hS f p' s.q r' l' hg
          rw [hg] at h
          cases h
          refine ⟨by show ((p, st, s) :: l').length ≤ f + 1; rw [List.length_cons]; omega, fun t ht => (List.mem_cons.mp ht).elim (fun e => by rw [e]; exact hS _ _ _ hs) fun ht => a2 t ht, a3⟩
      by_cases h1 : s.mv = "stop"
      · rw [if_pos h1] at h
        cases h
        exact ⟨by simp, one, fun mv q e => nomatch e⟩
      · rw [if_neg h1] at h
        by_cases h2 : s.mv = "left"
        · rw [if_pos h2] at h
          by_cases h3 : p = 0
          · rw [if_pos h3] at h
            cases h
            exact ⟨by simp, one, fun mv q e => by cases e; exact .inl rfl⟩
          · rw [if_neg h3] at h
            exact step _ h
        · rw [if_neg h2] at h
          by_cases h3 : p + 1 = N
          · rw [if_pos h3] at h
            cases h
            exact ⟨by simp, one, fun mv q e => by cases e; exact .inr rfl⟩
          · rw [if_neg h3] at h
            exact step _ h
theorem runR_bd {L S e n : Nat} {ls : List Nat} {m : Nat → Nat → Nat} {ss : List MStep} (M : MOk L S e ls n m ss) {ws : List Nat} (hl6 : ws.length ≤ 6) {left right : Nat} {side : Str} {st0 : Nat} {r : Endd} {l : Trk} (h : runR S e ls m ss ws left right side st0 = some (r, l)) :
    l.length ≤ 19 ∧ (∀ t ∈ l, StepOk S t.2.2) ∧ ∀ mv q, r = .out mv q → mv = "left" ∨ mv = "right" := by
  unfold runR at h
  by_cases h0 : ws = []
  · rw [if_pos h0] at h
    cases h
    refine ⟨by simp, fun t ht => (by cases ht), fun mv q e => ?_⟩
    cases e
    split
    · exact .inr rfl
    · exact .inl rfl
  · rw [if_neg h0] at h
    have sz : S * ws.length ≤ 3 * 6 := Nat.mul_le_mul M.s3 hl6
    obtain ⟨a1, a2, a3⟩ := go_bd (S := S) (fun p st s hs => M.st s (lastK_mem hs).1) _ _ _ _ _ h
    exact ⟨by omega, a2, a3⟩
theorem wr_len : ∀ (l : Trk), (∀ t ∈ l, t.2.2.pc.length ≤ 2) → (wr l).length ≤ 2 * l.length
  | [], _ => Nat.le_refl _
  | t :: l, h => by
    have h1 := wr_len l fun x hx => h x (List.mem_cons_of_mem _ hx)
    have h2 := h t List.mem_cons_self
    unfold wr at h1 ⊢
    rw [List.flatMap_cons, List.length_append, List.length_cons]
    omega
theorem wr_map (l : Trk) : (l.flatMap fun t => (t.2.2.pc.filter fun _ => true).map nI) = (wr l).map nI := by
  unfold wr
  rw [List.map_flatMap]
  congr 1
  funext t
  rw [List.filter_eq_self.mpr fun _ _ => rfl]
theorem written_comp {l : Trk} (hl : l.length ≤ 19) (hs : ∀ t ∈ l, t.2.2.pc.length ≤ 2) {a b c d e f g h i j k u : Cell} {Lc : List PyData → DEnv → Prop} (fin : Lc ((wr l).map nI) [a, b, c, d, e, f, g, h, i, j, k, u, .un, .un, .un]) :
    WpX Zn (lc2 [12, 13, 14] [14] (gTupD 3 (gConsD (setV 12) (gConsD (setV 12) (gConsD (setV 13) gNilD)))) tTrue (iSeq (dVar 13)) (setV 14) tTrue (dVar 14) (l.map enT) [] [a, b, c, d, e, f, g, h, i, j, k, u, .un, .un, .un]) Lc := by
  refine wp_lc2Fil (xs := l) (e := enT) (fun t => t.2.2.pc) (fun _ y => nI y) (fun _ _ => true) (fun _ y => nI y) ?_ (fun t ht => ⟨_, rfl, ?_⟩) ?_
  · have := wr_len l hs
    unfold wr at this
    omega
  · walk_at "dl"
    refine fun y hy => ⟨_, rfl, ?_⟩
    walk_at "dl"
  · rw [wr_map]
    exact fin
theorem un8 {a b c : PyData} {ca cb cc cd ce cf cg ch : Cell} : gTupD 3 (gConsD (setV 8) (gConsD (setV 9) (gConsD (setV 10) gNilD))) (.tuple [a, b, c]) [ca, cb, cc, cd, ce, cf, cg, ch, .un, .un, .un, .un, .un, .un, .un] = some [ca, cb, cc, cd, ce, cf, cg, ch, .val a, .val b, .val c, .un, .un, .un, .un] := rfl
theorem deed_ok {L S e width n : Nat} {ls outs : List Nat} {m : Nat → Nat → Nat} {ss : List MStep} (M : MOk L S e ls n m ss) {ws : List Nat} (hw : ∀ l ∈ ws, l < L + 2) (hl6 : ws.length ≤ 6) {left right : Nat} (h1 : left < n) (h2 : right < n) {side : Str} (hside : side = "left" ∨ side = "right") {st0 : Nat} (hst0 : st0 < S) {Q : PyData → DEnv → Prop}
    (k : Q (deedD (runR S e ls m ss ws left right side st0)) [.val (enM L S e ls n m width outs ss), .val (.list (ws.map nI)), .val (nI left), .val (nI right), .val (.str side), .val (nI st0)]) :
    WpX Zn (dendeed [.val (enM L S e ls n m width outs ss), .val (.list (ws.map nI)), .val (nI left), .val (nI right), .val (.str side), .val (nI st0)]) Q := by
  refine wpddeed _ _ _ _ _ _ _ ?_
  rw [dR_eq]
  have sok : PySem.PyData.strOk side = true := by rcases hside with e | e <;> (rw [e]; decide +kernel)
  have rest : ∀ z : Int, WpX Zn (dR [.val (enM L S e ls n m width outs ss), .val (.list (ws.map nI)), .val (nI left), .val (nI right), .val (.str side), .val (nI st0), .val (.int z), .val (trD (runR S e ls m ss ws left right side st0)), .un, .un, .un, .un, .un, .un, .un]) (retQ [.val (enM L S e ls n m width outs ss), .val (.list (ws.map nI)), .val (nI left), .val (nI right), .val (.str side), .val (nI st0)] Q) := fun z => by
    unfold dR
    cases hr : runR S e ls m ss ws left right side st0 with
    | none =>
      rw [hr] at k
      unfold trD
      walk_at "dl"
      exact k
    | some x =>
      obtain ⟨r, l⟩ := x
      obtain ⟨b1, b2, b3⟩ := runR_bd M hl6 hr
      have b4 : ∀ t ∈ l, t.2.2.pc.length ≤ 2 := fun t ht => (b2 t ht).pc
      have b5 := wr_len l b4
      rw [hr] at k
      cases r with
      | stop q =>
        unfold trD
        walk_at "dl"
        rw [un8]
        walk_at "dl"
        refine written_comp b1 b4 ?_
        walk_at "dl"
        rw [oEq_str (by decide +kernel) (by decide +kernel)]
        walk_at "dl"
        rw [if_pos (by decide +kernel)]
        exact k
      | out mv q =>
        have hmv := b3 mv q rfl
        have mok : PySem.PyData.strOk mv = true := by rcases hmv with e | e <;> (rw [e]; decide +kernel)
        have mne : (mv == ("stop" : Str)) = false := by rcases hmv with e | e <;> (rw [e]; decide +kernel)
        unfold trD
        walk_at "dl"
        rw [un8]
        walk_at "dl"
        refine written_comp b1 b4 ?_
        walk_at "dl"
        rw [oEq_str mok (by decide +kernel), mne]
        walk_at "dl"
        exact k
  walk_at "dl"
  rw [oEq_str sok (by decide +kernel)]
  walk_at "dl"
  rw [List.length_map]
  by_cases h0 : ws = []
  · subst h0
    rcases hside with e | e
    · rw [show (side == ("left" : Str)) = true by rw [e]; decide +kernel, if_pos rfl]
      refine trail_none M h1 h2 (.inl rfl) ?_
      have := rest 0
      unfold runR at this
      rw [if_pos rfl, if_pos e] at this
      rw [if_pos rfl]
      exact this
    · rw [show (side == ("left" : Str)) = false by rw [e]; decide +kernel, if_neg Bool.false_ne_true]
      refine trail_none M h1 h2 (.inr rfl) ?_
      have := rest (-1)
      unfold runR at this
      rw [if_pos rfl, if_neg (by rw [e]; decide)] at this
      rw [if_neg (by decide)]
      exact this
  · have h0' : 0 < ws.length := List.length_pos_iff.mpr h0
    rcases hside with e | e
    · rw [show (side == ("left" : Str)) = true by rw [e]; decide +kernel, if_pos rfl]
      refine trail_ok (p0 := 0) M hw hl6 h1 h2 h0' hst0 ?_
      have := rest 0
      unfold runR at this
      rw [if_neg h0, if_pos e] at this
      exact this
    · rw [show (side == ("left" : Str)) = false by rw [e]; decide +kernel, if_neg Bool.false_ne_true]
      rw [show ((ws.length : Nat) : Int) - 1 = ((ws.length - 1 : Nat) : Int) by omega]
      refine trail_ok (p0 := ws.length - 1) M hw hl6 h1 h2 (by omega) hst0 ?_
      have := rest ((ws.length - 1 : Nat) : Int)
      unfold runR at this
      rw [if_neg h0, if_neg (by rw [e]; decide)] at this
      exact this
/-! ### the law's deed -/
theorem told_wr (l : Trk) : (toldS l).map (fun d => (oIx d (.int 3)).getD .none) = (wr l).map nI := by
  unfold toldS wr
  rw [List.map_flatMap, List.map_flatMap]
  congr 1
  funext t
  rw [List.map_map]
  apply List.ext_getElem?
  intro i
  rw [List.getElem?_map, List.getElem?_map]
  by_cases hi : i < t.2.2.pc.length
  · rw [List.getElem?_range hi, List.getElem?_eq_getElem hi]
    show some (nI (t.2.2.pc.getD i 0)) = some (nI _)
    rw [List.getD_eq_getElem?_getD, List.getElem?_eq_getElem hi]
    rfl
  · rw [List.getElem?_eq_none (by rw [List.length_range]; omega), List.getElem?_eq_none (by omega)]
    rfl
theorem told_mem {l : Trk} {d : PyData} (h : d ∈ toldS l) : ∃ a b c x : Nat, d = .tuple [nI a, nI b, nI c, nI x] := by
  unfold toldS at h
  obtain ⟨t, _, h⟩ := List.mem_flatMap.mp h
  obtain ⟨j, _, rfl⟩ := List.mem_map.mp h
  exact ⟨_, _, _, _, rfl⟩
theorem lawdeed_ok {L S e width n : Nat} {ls outs : List Nat} {m : Nat → Nat → Nat} {ss : List MStep} (M : MOk L S e ls n m ss) {ws : List Nat} (hw : ∀ l ∈ ws, l < L + 2) (hl6 : ws.length ≤ 6) {left right : Nat} (h1 : left < n) (h2 : right < n) {side : Str} (hside : side = "left" ∨ side = "right") {st0 : Nat} (hst0 : st0 < S) {Q : PyData → DEnv → Prop}
    (k : Q (deedD (runR S e ls m ss ws left right side st0)) [.val (enM L S e ls n m width outs ss), .val (.list (ws.map nI)), .val (nI left), .val (nI right), .val (.str side), .val (nI st0)]) :
    WpX Zn (den_law_deed [.val (enM L S e ls n m width outs ss), .val (.list (ws.map nI)), .val (nI left), .val (nI right), .val (.str side), .val (nI st0)]) Q := by
  refine wpd_law_deed _ _ _ _ _ _ _ ?_
  unfold body_law_deed
  walk_at "dl"
  refine goes_ok M hw hl6 h1 h2 hside hst0 ?_
  rw [show (if ws = [] then some (Endd.out (if side = "left" then "right" else "left") st0, []) else go (nxS ss m ls e ws left right) ws.length (S * ws.length + 1) (if side = "left" then 0 else ws.length - 1) st0) = runR S e ls m ss ws left right side st0 from rfl]
  have un : ∀ (a b : PyData) (ca cb cc cd ce cf : Cell), gUnD 2 (gConsD (setV 6) (gConsD (setV 7) gNilD)) (.list [a, b]) [ca, cb, cc, cd, ce, cf, .un, .un, .un] = some [ca, cb, cc, cd, ce, cf, .val a, .val b, .un] := fun _ _ _ _ _ _ _ _ => rfl
  cases hr : runR S e ls m ss ws left right side st0 with
  | none =>
    rw [hr] at k
    unfold lawD
    rw [un]
    walk_at "dl"
    exact k
  | some x =>
    obtain ⟨r, l⟩ := x
    obtain ⟨b1, b2, b3⟩ := runR_bd M hl6 hr
    have b6 := toldS_bd b2
    have comp : ∀ (ca cb cc cd ce cf cg : Cell) (Lc : List PyData → DEnv → Prop), Lc ((wr l).map nI) [ca, cb, cc, cd, ce, cf, cg, .val (.list (toldS l)), .un] → WpX Zn (lcL [8] (setV 8) tTrue (dIxN 8 (dC (.int 3))) (toldS l) [] [ca, cb, cc, cd, ce, cf, cg, .val (.list (toldS l)), .un]) Lc := fun ca cb cc cd ce cf cg Lc fin => by
      refine wp_lcMap (fun d => (oIx d (.int 3)).getD .none) (small_line (by omega)) (fun d hd => ⟨_, rfl, ?_⟩) (by rw [told_wr]; exact fin)
      obtain ⟨a, b, c, x, rfl⟩ := told_mem hd
      walk_at "dl"
    rw [hr] at k
    cases r with
    | stop q =>
      unfold lawD
      rw [un]
      walk_at "dl"
      refine comp _ _ _ _ _ _ _ _ ?_
      walk_at "dl"
      exact ⟨small_line (by show 1 + 1 ≤ 1000000; omega), k⟩
    | out mv q =>
      unfold lawD
      rw [un]
      walk_at "dl"
      refine comp _ _ _ _ _ _ _ _ ?_
      walk_at "dl"
      exact ⟨small_line (by show 3 + 1 ≤ 1000000; omega), k⟩

end M

set_option Elab.async false
set_option linter.all false
set_option maxRecDepth 100000
set_option maxHeartbeats 4000000
namespace M
open PySem PySem.Spec PyProof.Rows L2 DL

local macro_rules | `(tactic| walk_at "dl") => `(tactic| try simp only [↓ws_seq, ↓ws_nx, ↓ws_bk, ↓ws_ct, ↓ws_ret, ↓ws_retN, ↓ws_drop, ↓ws_if, ↓ws_asg, ↓ws_new, ↓ws_nxOf, ↓ws_frz, ↓ws_for, ↓ws_app, ↓ws_setH, ↓wp_C, ↓wp_vr, ↓wp_op, ↓wp_un, ↓wp_nil, ↓wp_cons, ↓wp_call, ↓wp_tup, ↓wp_lst, ↓wp_frz, ↓wp_tof, ↓wp_tru, ↓wp_tnot, ↓wp_tand, ↓wp_tor, ↓wp_and, ↓wp_or, ↓wp_not, ↓wp_if, ↓wp_chain, ↓wp_len, ↓wp_tupleOf, ↓wp_listOf, ↓wp_lof, ↓wp_lname, ↓wp_ixN, ↓wp_inN, ↓wp_indexN, ↓wp_popAt, ↓wp_tupRg, ↓wp_lstRg, ↓wp_sl, ↓wp_noPart, ↓wp_part, ↓wp_callV, ↓wp_callI, ↓wp_iseq, ↓wp_irng, ↓wp_lc, ↓wp_of_some, ↓wp_dget, ↓wp_dgetT, ↓ws_dput, ↓ws_dputT, ↓wp_newT, ↓wp_newK, ↓wp_disp, ↓wp_callF, ↓wf_seq, ↓wf_frz, ↓wp_ienums, ↓wp_izip, ↓ws_aug, ↓wp_sorted, ↓ws_augH, ↓wp_rep, ↓wp_sortD, ↓wp_sortSet, ↓wp_dc, ↓wp_keys, ↓wp_inK, ↓wp_lenK, ↓ws_ext, ↓wp_fLcH, ↓wp_fLc2, ↓wp_kget, ↓ws_frzK, ↓wp_fld, ↓ws_fset, ↓wp_meth, ↓wp_make, ↓wp_rev, ↓wp_sortDr, ↓wp_lstRev, ↓wp_irevRg, frzKO_own, frzKO_val, undk_dk, lstQ_lst, Int.reduceBEq,
  onNx_nx, onNx_rt, onNx_bk, onNx_ct, boolQ_bool, intQ_int, frzQ_lst, retQ_rt, retQ_nx, cellQ_val, heldQ_some, ixQ_some, atI_0, ixN_0, atI_1, ixN_1, atI_2, ixN_2, atI_3, ixN_3, atI_4, ixN_4, atI_5, ixN_5, atI_6, ixN_6, atI_7, ixN_7, len_0, len_1, len_2, len_3, len_4, len_5, len_6, len_7, len_8, wp_of_ite, List.getElem?_cons_succ, List.getElem?_cons_zero, setV_eq, setVo_val, setVo_un, setVo_own, setO_eq, setOo_val, setOo_un, setOo_own, nameD_eq, nameO_val, nameO_own, nameO_io, heldL_eq, heldO_own, heldO_io, isHeld_eq, setHeld_eq, setHeldO_own, setHeldO_io, frzC_eq, frzO_own, frzO_val, frzO_io, frzO_un, List.set_cons_succ, List.set_cons_zero, Option.bind_some, Option.isSome_some, Option.getD_some, Option.map_some, own_own, own_io, isLst_some, List.map_cons, List.map_nil,
  oAdd_int, oAdd_tup, oSub_int, oMul_int, oDiv_int, oMod_int, oPow_int, oNeg_int, oLt_int, oLe_int, oGt_int, oGe_int, oIx_lst, oIx_tup, oInt_int, oInt_bool, oMax2_int, oMin2_int, oEq_int, oNe_int, oEq_bool, oNe_bool, oIsN_none, oNotN_none, isNone_none, isNone_int, isNone_tup, isNone_lst, isNone_str, tru_bool, tru_int, tru_none, tru_lst, tru_tup, seqOf_lst, seqOf_tup, slOf_lst, slOf_tup, rng1_int, rng2_int, wipeC_nil, wipeC_cons, backIO_nil, backIO_io', backIO_val, isi_int_int, isi_bool_int, isi_bool_bool, isi_int_bool, Bool.false_eq_true, reduceCtorEq, unwipe_one, loopQ_nx, loopQ_ct, loopQ_bk, loopQ_rt, wp_tTrue,  augQ_val, oAddI_int, oSubI_int, isi_int_str, isi_int_tup, isi_tup_tup, isi_tup_int, isi_tup_str, oShl_int, oShr_int, oOr_int, oAnd_int, oXor_int, someQ_some, someQ_ite, repOf_int, isi_lst_lst, nxF_nx, retF_eq, dkQ_dk, dtQ_dt, keyQ_some, hobj_eq, hobjO_own, hobjO_io, keyD_int, keyD_str, keysD_nil, keysD_int, frzO_dk, frzO_dt, eq_self, ↓wp_cat, catQ_list, unwipe_nil, unwipe_cons, wp_callFI, wp_retOwn, ownQ_own, wp_chain3, wp_newN, wp_dgetN, ws_dputN, dnQ_dn, ↓wp_tget, ↓wp_tin, ↓wp_tget1, isDt_dt, ↓ws_tput, ↓wp_slN, tupQ_tup, keyTD_tup, ↓wp_dcT, ↓wp_newS, ↓wp_skin, ↓wp_skadd, tsQ_ts, isTs_ts, c_STOP, c_LEFT, c_RIGHT, c_OUT, box_row, box_at, box_put, box_merge, insQ_ins, mkQ_io, rlQ_list, roQ_some, if_true, if_false, Bool.not_true, Bool.not_false, decide_eq_true_eq, true_and, and_true])
local macro_rules | `(tactic| walk_at "dls") => `(tactic| simp only [setV_eq, setVo_val, setVo_un, setVo_own, List.getElem?_cons_succ, List.getElem?_cons_zero, List.set_cons_succ, List.set_cons_zero])

variable [Wd]
theorem ne_same {d : PyData} (hd : Shp 60 d) : oNe d d = some (.bool false) := by
  show (if okEq d = true ∧ okEq d = true then some (PyData.bool (!PyData.eqv d d)) else none) = _
  rw [if_pos ⟨hd.ok, hd.ok⟩, PySem.SeqAt.eqv_refl d hd.1]
  rfl
theorem row_shp (ws : List Nat) : Shp 60 (.list (ws.map nI)) := Shp.mono (j := 1) (.list (Shp.mapN ws)) (by decide)
theorem deed_shp {L S e n : Nat} {ls : List Nat} {m : Nat → Nat → Nat} {ss : List MStep} (M : MOk L S e ls n m ss) {ws : List Nat} (hl6 : ws.length ≤ 6) {left right : Nat} {side : Str} {st0 : Nat} : Shp 60 (deedD (runR S e ls m ss ws left right side st0)) := by
  cases hr : runR S e ls m ss ws left right side st0 with
  | none => exact Shp.mono (j := 0) .none (by decide)
  | some x =>
    obtain ⟨r, l⟩ := x
    obtain ⟨_, _, b3⟩ := runR_bd M hl6 hr
    have wints : Shp 1 (.tuple ((wr l).map nI)) := .tuple (Shp.mapN (wr l))
    cases r with
    | stop q =>
      refine Shp.mono (j := 2) (.tuple fun d hd => ?_) (by decide)
      simp only [List.mem_cons, List.not_mem_nil, or_false] at hd
      rcases hd with rfl | rfl
      · exact .str (by decide +kernel)
      · exact wints
    | out mv q =>
      have hmv := b3 mv q rfl
      refine Shp.mono (j := 2) (.tuple fun d hd => ?_) (by decide)
      simp only [List.mem_cons, List.not_mem_nil, or_false] at hd
      rcases hd with rfl | rfl | rfl | rfl
      · exact .str (by decide +kernel)
      · exact .str (by rcases hmv with e | e <;> (rw [e]; decide +kernel))
      · exact .nI _
      · exact wints
theorem sides_at {j : Nat} (h : j < 2) : ∃ side : Str, (side = "left" ∨ side = "right") ∧ atI [PyData.str "left", .str "right"] (j : Nat) = some (.str side) := by
  have : j = 0 ∨ j = 1 := by omega
  rcases this with rfl | rfl <;> exact ⟨_, by simp, rfl⟩
theorem lawTrue : LawTrue := by
  intro ns hns
  have key : WpX Zn (denlaw [.val (scrD ns)]) fun d cs => d = .bool true := by
    refine wpdlaw _ _ ?_
    unfold bodylaw
    walk_at "dl"
    rw [seqOf_scr]
    walk_at "dl"
    refine wp_callIO_own _ _ _ _ _ _ rfl (machine_ok (o := .lst [.int 0, .int 0, .list (ns.map .int), .int 1]) ⟨0, 0, 1, ns, rfl, by omega⟩ fun o1 L S e ls n m width outs ss hs1 M => ⟨o1, _, rfl, ?_⟩)
    have g2 : oIx (enM L S e ls n m width outs ss) (.int 2) = some (enRd e ls n m []) := rfl
    have g0 : oIx (enM L S e ls n m width outs ss) (.int 0) = some (nI L) := rfl
    have g1 : oIx (enM L S e ls n m width outs ss) (.int 1) = some (nI S) := rfl
    have gm : oIx (enRd e ls n m []) (.int 2) = some (enMul n m) := rfl
    have sq : seqOf (enMul n m) = some (.T, (List.range n).map fun x => .tuple (enRow n (m x))) := rfl
    have n1 := M.rd.pos
    have n3 := M.n3
    have s1 := M.s1
    have s3 := M.s3
    have l3 := M.l3
    walk_at "dl"
    rw [g2]
    walk_at "dl"
    rw [gm]
    walk_at "dl"
    rw [sq]
    walk_at "dl"
    rw [List.length_map, List.length_range]
    refine ⟨by decide, ?_⟩
    refine wp_forL (fun i ρ => ∃ (o' : OD) (c4 c5 c6 c7 c8 c9 c10 c11 c12 : Cell), ρ = [.val (scrD ns), .own o', .val (enM L S e ls n m width outs ss), .val (.int (n : Nat)), c4, c5, c6, c7, c8, c9, c10, c11, c12] ∧ StOk o' ∧ VU c4 ∧ VU c5 ∧ VU c6 ∧ VU c7 ∧ VU c8 ∧ VU c9 ∧ VU c10 ∧ VU c11 ∧ VU c12)
      ⟨o1, .un, .un, .un, .un, .un, .un, .un, .un, .un, rfl, hs1, .u, .u, .u, .u, .u, .u, .u, .u, .u⟩ (fun i d ρ hd hI => ?_) fun ρ hI => ?_
    · obtain ⟨o', c4, c5, c6, c7, c8, c9, c10, c11, c12, rfl, hs, v4, v5, v6, v7, v8, v9, v10, v11, v12⟩ := hI
      refine ⟨_, setV_vu _ rfl v4, ?_⟩
      walk_at "dl"
      rw [g0]
      unfold nI
      walk_at "dl"
      rw [show ((L : Nat) : Int) + 2 = ((L + 2 : Nat) : Int) by push_cast; rfl]
      refine wp_callIO_own _ _ _ _ _ _ rfl (word_ok (count := L + 2) (most := 6) hs (by omega) (by omega) (by omega) fun o2 ws hs2 hw hl => ⟨o2, _, rfl, ?_⟩)
      walk_at "dl"
      rw [setVo_loose v5]
      walk_at "dl"
      refine ⟨by decide, ?_⟩
      refine wp_forL (fun j ρ => ∃ (o' : OD) (c6 c7 c8 c9 c10 c11 c12 : Cell), ρ = [.val (scrD ns), .own o', .val (enM L S e ls n m width outs ss), .val (.int (n : Nat)), .val d, .val (.list (ws.map nI)), c6, c7, c8, c9, c10, c11, c12] ∧ StOk o' ∧ VU c6 ∧ VU c7 ∧ VU c8 ∧ VU c9 ∧ VU c10 ∧ VU c11 ∧ VU c12)
        ⟨o2, c6, c7, c8, c9, c10, c11, c12, rfl, hs2, v6, v7, v8, v9, v10, v11, v12⟩ (fun j d2 ρ hd hI => ?_) fun ρ hI => ?_
      · clear v6 v7 v8 v9 v10 v11 v12
        obtain ⟨o', c6, c7, c8, c9, c10, c11, c12, rfl, hs, v6, v7, v8, v9, v10, v11, v12⟩ := hI
        refine ⟨_, setV_vu _ rfl v6, ?_⟩
        walk_at "dl"
        refine draw_own rfl hs (by omega) (by omega) fun o3 d3 hs3 p3 q3 => ?_
        obtain ⟨u, rfl⟩ := Int.eq_ofNat_of_zero_le p3
        walk_at "dl"
        rw [setVo_loose v7]
        walk_at "dl"
        refine draw_own rfl hs3 (by omega) (by omega) fun o4 d4 hs4 p4 q4 => ?_
        obtain ⟨v, rfl⟩ := Int.eq_ofNat_of_zero_le p4
        walk_at "dl"
        rw [setVo_loose v8]
        walk_at "dl"
        refine draw_own rfl hs4 (by omega) (by omega) fun o5 d5 hs5 p5 q5 => ?_
        obtain ⟨sj, rfl⟩ := Int.eq_ofNat_of_zero_le p5
        obtain ⟨side, hside, es⟩ := sides_at (j := sj) (by omega)
        walk_at "dl"
        rw [es]
        walk_at "dl"
        rw [setVo_loose v9]
        walk_at "dl"
        rw [g1]
        unfold nI
        walk_at "dl"
        refine draw_own rfl hs5 (by omega) (by omega) fun o6 d6 hs6 p6 q6 => ?_
        obtain ⟨p, rfl⟩ := Int.eq_ofNat_of_zero_le p6
        walk_at "dl"
        rw [setVo_loose v10]
        walk_at "dl"
        rw [setVo_loose v11]
        walk_at "dl"
        refine deed_ok M hw hl (left := u) (right := v) (by omega) (by omega) hside (st0 := p) (by omega) ?_
        rw [setVo_loose v12]
        walk_at "dl"
        rw [show oNe (PyData.list (ws.map fun n => PyData.int (n : Nat))) (PyData.list (ws.map fun n => PyData.int (n : Nat))) = some (.bool false) from ne_same (row_shp ws)]
        walk_at "dl"
        refine lawdeed_ok M hw hl (left := u) (right := v) (by omega) (by omega) hside (st0 := p) (by omega) ?_
        rw [ne_same (deed_shp M hl)]
        walk_at "dl"
        exact ⟨o6, _, _, _, _, _, _, _, rfl, hs6, .v _, .v _, .v _, .v _, .v _, .v _, .v _⟩
      · obtain ⟨o', c6, c7, c8, c9, c10, c11, c12, rfl, hs, v6, v7, v8, v9, v10, v11, v12⟩ := hI
        walk_at "dl"
        exact ⟨o', .val d, .val (.list (ws.map nI)), c6, c7, c8, c9, c10, c11, c12, rfl, hs, .v _, .v _, v6, v7, v8, v9, v10, v11, v12⟩
    · obtain ⟨o', c4, c5, c6, c7, c8, c9, c10, c11, c12, rfl, hs, v4, v5, v6, v7, v8, v9, v10, v11, v12⟩ := hI
      walk_at "dl"
  obtain ⟨d, cs, e, rfl⟩ := key.get
  exact ⟨cs, e⟩

end M

set_option Elab.async false
open PySem PySem.W PyProof.Rows in
set_option maxRecDepth 100000 in
set_option maxHeartbeats 0 in
theorem PySem.Challenge.cw_twoways_k34_deeds_in_stretches_holds : PySem.Challenge.rw_twoways_k34_deeds_in_stretches.Holds := by
  w_on; o_law; k_head; (case hw => w_witness2)
  k_fill
  refine L2.walk_of (l := PySem.Challenge.rw_twoways_k34_deeds_in_stretches) (n := 63) (k := 4) (x := "script") (CX := fun _ => L2.CX0) (sp := fun w => DL.spLaw _) rfl (by decide) rfl ⟨rfl, by decide, by decide⟩ (fun w h Y => PySem.W.kIn_of Y) ?F (fun _ _ a ns hl _ hS => ⟨a, ns, rfl, hS, hl, fun _ => rfl⟩) (fun _ _ _ _ _ h => h)
  case F =>
    intro w mg fa h KX G hmg
    letI : DL.Wd := ⟨PySem.Challenge.rw_twoways_k34_deeds_in_stretches.prog, w⟩; refine' M.all_mk M.lawTrue ⟨rfl, rfl⟩ KX G hmg ?a0 ?l0 ?c0 ?k0 ?a1 ?l1 ?c1 ?k1 ?a2 ?l2 ?c2 ?k2 ?a3 ?l3 ?c3 ?k3 ?a4 ?l4 ?c4 ?k4 ?a5 ?l5 ?c5 ?k5 ?a6 ?l6 ?c6 ?k6 ?a7 ?l7 ?c7 ?k7 ?a8 ?l8 ?c8 ?k8 ?a9 ?l9 ?c9 ?k9 ?a10 ?l10 ?c10 ?k10 ?a11 ?l11 ?c11 ?k11 ?a12 ?l12 ?c12 ?k12 ?a13 ?l13 ?c13 ?k13 ?z_len ?z_range ?z_tuple ?z_list ?z_int ?z_max ?z_set ?q_STOP ?q_LEFT ?q_RIGHT ?q_OUT
    (case a0 => k_is)
    (case l0 => k_is)
    (case c0 => k_is)
    (case k0 => k_is)
    (case a1 => k_is)
    (case l1 => k_is)
    (case c1 => k_is)
    (case k1 => k_is)
    (case a2 => k_is)
    (case l2 => k_is)
    (case c2 => k_is)
    (case k2 => k_is)
    (case a3 => k_is)
    (case l3 => k_is)
    (case c3 => k_is)
    (case k3 => k_is)
    (case a4 => k_is)
    (case l4 => k_is)
    (case c4 => k_is)
    (case k4 => k_is)
    (case a5 => k_is)
    (case l5 => k_is)
    (case c5 => k_is)
    (case k5 => k_is)
    (case a6 => k_is)
    (case l6 => k_is)
    (case c6 => k_is)
    (case k6 => k_is)
    (case a7 => k_is)
    (case l7 => k_is)
    (case c7 => k_is)
    (case k7 => k_is)
    (case a8 => k_is)
    (case l8 => k_is)
    (case c8 => k_is)
    (case k8 => k_is)
    (case a9 => k_is)
    (case l9 => k_is)
    (case c9 => k_is)
    (case k9 => k_is)
    (case a10 => k_is)
    (case l10 => k_is)
    (case c10 => k_is)
    (case k10 => k_is)
    (case a11 => k_is)
    (case l11 => k_is)
    (case c11 => k_is)
    (case k11 => k_is)
    (case a12 => k_is)
    (case l12 => k_is)
    (case c12 => k_is)
    (case k12 => k_is)
    (case a13 => k_is)
    (case l13 => k_is)
    (case c13 => k_is)
    (case k13 => k_is)
    (case z_len => k_is)
    (case z_range => k_is)
    (case z_tuple => k_is)
    (case z_list => k_is)
    (case z_int => k_is)
    (case z_max => k_is)
    (case z_set => k_is)
    (case q_STOP => k_is)
    (case q_LEFT => k_is)
    (case q_RIGHT => k_is)
    (case q_OUT => k_is)

