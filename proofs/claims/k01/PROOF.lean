import PyProof.Rows.All
import Wide.All
import OpenK.AllK
import Wide.FinOn
import HandS.ForMost
import HandS.Deep
import HandS.ForExc
import HandS.TupSets
import HandS.Nested
import HandS.SetBool
import HandS.ExcInit
import HandS.ExcValue
import KE.KeyNested
import HandS.Zip
import HandS.TupAny
import HandS.TupMul
import HandS.IsInst
import HandS.SortInts
import HandS.Conv
import HandS.DictTup
import HandS.Small
import HandS.ExcIs
import HandS.ExcField
import HandS.Iter
import KE.GoesEnum
import PyProof.WalksEnum
import PyProof.EnumMake
import HandS.Strs
import KE.SortData
import HandS.SetFor
import HandS.DictComp
import HandS.WordsDict
import HandS.Style
import HandS.SortKw
import HandS.RevRange
import PyProof.CollectIter
import HandS.NoneIn
import HandS.DeepEq
import KE.KUnpackStar
import HandS.Star
import PyProof.IsRules
import HandS.More
import KE.GoesMore
import HandS.Head0
import HandS.Head1
import HandS.Head2
import HandS.HeadEnd
import HandS.HeadHook1
import HandS.HeadHook2
import HandS.HeadHook3
import HandS.EndTab
import KE.DatumOrd
import KE.KDictZip
import PyProof.Rows.TupDisplay
import HandS.FStr
import KE.KExcSuper
import KE.KSuper
import HandS.ExcSuper
import HandS.HeadWalk
import KE.KExcIs
import HandS.Text
import PyProof.StrBlock2
import PyProof.ListStr
import PySem.Challenge.RW_twoways_k01_words_and_tapes
set_option Elab.async false
set_option linter.all false
set_option maxRecDepth 100000
set_option maxHeartbeats 4000000
namespace DL
open PySem PySem.Spec PyProof.Rows L2
abbrev St := L2.St
/-- what an owned object holds: a list of frozen data, a dict -/
inductive OD where
  | lst (ds : List PyData)
  | dk (kvs : List (Key × PyData))
  | dt (kvs : List (List Key × PyData))
  | ins (c : Str) (fs : List (Str × PyData))
  | dn (kvs : List (NestedKey × PyData × PyData))
  | ts (P : Program) (w : World) (ks : List (List Key))
  | db (kvs : List (Bool × PyData))
/-- a slot: unknown, frozen data, an object that this def alone holds, an object that the caller lent -/
inductive Cell where
  | un
  | val (d : PyData)
  | own (o : OD)
  | io (o : OD)
  | fn (k : Nat) (f : List PyData → Option PyData)
  | nd (mk : Addr → NdefX.NF)
abbrev DEnv := List Cell
/-- an exception: its class's name, its fields -/
structure Exn where
  cls : Str
  fs : List (Str × PyData)
inductive Res (α : Type) where
  | ok (a : α) (ρ : DEnv)
  | err (x : Exn) (ρ : DEnv)
  | bad
def Res.bind {α β : Type} (r : Res α) (f : α → DEnv → Res β) : Res β := match r with
  | .ok a ρ => f a ρ
  | .err x ρ => .err x ρ
  | .bad => .bad
@[simp] theorem Res.bind_ok {α β : Type} (a : α) (ρ : DEnv) (f : α → DEnv → Res β) : (Res.ok a ρ).bind f = f a ρ := rfl
@[simp] theorem Res.bind_err {α β : Type} (x : Exn) (ρ : DEnv) (f : α → DEnv → Res β) : (Res.err x ρ : Res α).bind f = .err x ρ := rfl
@[simp] theorem Res.bind_bad {α β : Type} (f : α → DEnv → Res β) : (Res.bad : Res α).bind f = .bad := rfl
/-- the script, and any other list of ints that is only read: no list that may be added to -/
def keyDat : Key → PyData
  | .inl i => .int i
  | .inr x => .str x
/-- a frozen dict; the first pair is a mark -/
def dkD (kvs : List (Key × PyData)) : PyData := .dict ((.bool true, .none) :: kvs.map fun kv => (keyDat kv.1, kv.2))
/-- a frozen dict with tuple keys; a range -/
def dtD (kvs : List (List Key × PyData)) : PyData := .dict ((.bool false, .none) :: kvs.map fun kv => (.tuple (kv.1.map keyDat), kv.2))
def rngD (lo hi : Int) : PyData := .dict [(.bool false, .bool false), (.int lo, .int hi)]
/-- a tuple that was freshly made: the first pair is a mark -/
def ftD (ds : List PyData) : PyData := .dict [(.bool true, .bool true), (.tuple ds, .none)]
/-- an exception as a value: its class's name, with the one field that it has; one without fields -/
def exnD (c f : Str) (d : PyData) : PyData := .dict [(.bool false, .bool true), (.str c, .str f), (.none, d)]
def exzD (c : Str) : PyData := .dict [(.bool false, .bool true), (.str c, .none)]
def scrD (ns : List Int) : PyData := .dict ((.none, .none) :: ns.map fun i => (.int i, .none))
mutual
/-- v is the data d in the heap G -/
inductive Rp (K : PySem.W.Frag) (G : Hp) : V → PyData → Prop where
  | non : Rp K G .non .none
  | bl (b : Bool) : Rp K G (.bl b) (.bool b)
  | int (i : Int) : Rp K G (.int i) (.int i)
  | str (x : Str) : Rp K G (.str x) (.str x)
  | lst {a : Addr} {xs : List V} {ds : List PyData} : G a = some (.lst xs) → RpAll K G xs ds → Rp K G (.ref a) (.list ds)
  | tup {a : Addr} {xs : List V} {ds : List PyData} : SqT K G a xs → RpAll K G xs ds → Rp K G (.ref a) (.tuple ds)
  | scr {a : Addr} {ns : List Int} : SqL K G a (ns.map V.int) → Rp K G (.ref a) (scrD ns)
  | dic {a : Addr} {ks : List Key} {vs : List V} {ds : List PyData} : G a = some (.dK (ks.zip vs)) → ks.length = vs.length → RpAll K G vs ds → Rp K G (.ref a) (dkD (ks.zip ds))
  | dit {a : Addr} {ks : List (List Key)} {vs : List V} {ds : List PyData} : G a = some (.dT (ks.zip vs)) → ks.length = vs.length → RpAll K G vs ds → Rp K G (.ref a) (dtD (ks.zip ds))
  | rng {a : Addr} {lo hi : Int} : G a = some (.rng lo hi) → Rp K G (.ref a) (rngD lo hi)
  | fup {a : Addr} {xs : List V} {ds : List PyData} : G a = some (.tup xs) → RpAll K G xs ds → Rp K G (.ref a) (ftD ds)
  | exn {a dx C : Addr} {c f : Str} {v : V} {d : PyData} : PySem.W.nsIn K mainGlobals c = some (some (.ref C)) → G a = some (exo a C (some dx)) → G dx = some (exd dx [(f, v)]) → Rp K G v d → Rp K G (.ref a) (exnD c f d)
  | exz {a C : Addr} {c : Str} : PySem.W.nsIn K mainGlobals c = some (some (.ref C)) → G a = some (ExO (.ref C) a) → Rp K G (.ref a) (exzD c)
inductive RpAll (K : PySem.W.Frag) (G : Hp) : List V → List PyData → Prop where
  | nil : RpAll K G [] []
  | cons {v : V} {vs : List V} {d : PyData} {ds : List PyData} : Rp K G v d → RpAll K G vs ds → RpAll K G (v :: vs) (d :: ds)
end
def OwnL (σ : St) (ρ : DEnv) (b : Addr) : Prop := ∃ (i : Nat) (o : OD), ρ[i]? = some (Cell.own o) ∧ σ[i]? = some (some (V.ref b))
/-- the tables of code objects that the program's defs write, each with the names of its code objects by place -/
class Td where
  T : List (Addr × (Nat → Nat → Str))
  P : Program
  w : World
  mg : Str → Option Value
  base : Heap
variable [Td]
/-- the object at b is lent to this def; or it is a table of code objects -/
def OwnI (σ : St) (ρ : DEnv) (b : Addr) : Prop := (∃ (i : Nat) (o : OD), ρ[i]? = some (Cell.io o) ∧ σ[i]? = some (some (V.ref b))) ∨ ∃ t ∈ Td.T, t.1 = b
structure CTab (G H : Hp) : Prop where
  at_ : ∀ t ∈ Td.T, G t.1 = none ∧ ∃ ps : Array Value, H t.1 = some (.tbl ps) ∧ TriplesOk ps.toList ∧ ∀ (pos : Pos) (cv : Value), codeAmong pos ps.toList = some cv → ∃ c, cv = .ref c ∧ G c = some (LamX.CodeO c (t.2 pos.line pos.col))
/-- the heap has grown: what a call of a function that is a value leaves -/
structure Grw (G H G' H' : Hp) : Prop where
  same : Same G G'
  frame : ∀ b o, H b = some o → (∀ t ∈ Td.T, t.1 ≠ b) → H' b = some o
  keep : ∀ b, H' b = none → H b = none
  fresh : ∀ b o, G' b = some o → G b = some o ∨ H b = none
/-- x is a function; called with data it answers as f says -/
structure ClM (K : PySem.W.Frag) (G : Hp) (x : V) (k : Nat) (f : List PyData → Option PyData) : Prop where
  ex : ∃ a, x = .ref a ∧ (∀ (h : Heap) (H : Hp), K.In h → HOk Td.P Td.w H h → Same G H → PySem.W.FnAt a h) ∧
    ∀ (A : Around) (outer : List Env) (s : Shared) (H : Hp) (us : List Value) (vs : List V) (G1 : Hp) (ds : List PyData) (d : PyData) (Q : VK), Room k A → Env0 Td.P Td.w K Td.mg Td.base A outer s H → Vals vs us → Same G G1 → Same G1 H → CTab G1 H → RpAll K G1 vs ds → f ds = some d →
      (∀ G' H' v, Same G' H' → CTab G' H' → Grw G1 H G' H' → Rp K G' v d → Q v H') → codeAny (model Td.P Td.w) A (.call (.ref a) ⟨us, []⟩) (CR (fun _ _ _ _ _ _ => False) outer Td.P Td.w H s Q fun _ _ _ => False) s
theorem ClM.mono {K : PySem.W.Frag} {G G' : Hp} (e : Same G G') {x : V} {k : Nat} {f : List PyData → Option PyData} (c : ClM K G x k f) : ClM K G' x k f := by
  obtain ⟨a, e1, c1, c2⟩ := c
  exact ⟨a, e1, fun h H i o q => c1 h H i o (e.trans q), fun A outer s H us vs G1 ds d Q hr e0 r q => c2 A outer s H us vs G1 ds d Q hr e0 r (e.trans q)⟩
/-- x is a function that this def has made by a def of its own -/
structure NdM (K : PySem.W.Frag) (G : Hp) (x : V) (mk : Addr → NdefX.NF) : Prop where
  ex : ∃ f c', x = .ref f ∧ G f = some (NdefX.FnO f (mk c')) ∧ G c' = some (LamX.CodeO c' (mk c').qual) ∧ (mk c').c = c'
theorem NdM.mono {K : PySem.W.Frag} {G G' : Hp} (e : Same G G') {x : V} {mk : Addr → NdefX.NF} (n : NdM K G x mk) : NdM K G' x mk := by
  obtain ⟨f, c', e1, e2, e3, e4⟩ := n
  exact ⟨f, c', e1, e _ _ e2, e _ _ e3, e4⟩
def KvAll {κ : Type} (K : PySem.W.Frag) (G : Hp) : List (κ × V) → List (κ × PyData) → Prop := Paired fun a b => a.1 = b.1 ∧ Rp K G a.2 b.2
/-- the value x is the key k -/
inductive KeyX (K : PySem.W.Frag) (G : Hp) : NestedKey → V → Prop where
  | non : KeyX K G .none .non
  | bl (b : Bool) : KeyX K G (.num (if b = true then 1 else 0)) (.bl b)
  | int (i : Int) : KeyX K G (.num i) (.int i)
  | str (x : Str) : KeyX K G (.text x) (.str x)
  | tup {a : Addr} {xs : List V} {ks : List NestedKey} : SqT K G a xs → ks.length = xs.length → (∀ (i : Nat) (k : NestedKey) (x : V), ks[i]? = some k → xs[i]? = some x → KeyX K G k x) → KeyX K G (.tup ks) (.ref a)
/-- a row of a dict whose keys are of any depth -/
def NEnt (w : World) (e : DictEntry) (x : NestedKey × V × V) : Prop := e.hash = x.1.hash w ∧ L2.RelV x.2.1 e.key ∧ L2.RelV x.2.2 e.val
def NXR (w : World) (h : Heap) (a : Addr) (L : List (NestedKey × V × V)) : Prop := (L.length ≤ sizeLine ∧ (a == sysModules) = false ∧ (L.map (·.1)).Nodup ∧ ∀ x ∈ L, x.1.depth ≤ 8) ∧ ∃ o es ep, h.get? a = some o ∧ o.ExactDict ∧ o.data = .dict es ep ∧ Paired (NEnt w) es.toList L
def NXO (a : Addr) (L : List (NestedKey × V × V)) : HO := .ext fun h => NXR Td.w h a L
/-- the rows as data: the key, its data, the value -/
def NRow (K : PySem.W.Frag) (G : Hp) (x : NestedKey × V × V) (kv : NestedKey × PyData × PyData) : Prop := x.1 = kv.1 ∧ KeyX K G x.1 x.2.1 ∧ Rp K G x.2.1 kv.2.1 ∧ Rp K G x.2.2 kv.2.2
/-- a set of tuples of ints and texts at a: the rows in the order of the table -/
abbrev khash (P : Program) (w : World) (k : List Key) : Int := tupleKeyHash (mixKind P w) k
def krows (P : Program) (w : World) (L : List (Addr × List Key)) : List (Int × Value) := L.map fun p => (khash P w p.2, Value.ref p.1)
structure SK0 (P : Program) (w : World) (h : Heap) (a : Addr) (L : List (Addr × List Key)) (o : Obj) (es : Array (Int × Value)) (ep : Nat) (t : SetTable) : Prop where
  at_ : h.get? a = some o
  exact_ : o.ExactSet
  dat : o.data = .set es ep t
  rows : es.toList = krows P w L
  tab : TabOk t (L.map fun p => khash P w p.2)
  nd : (L.map (·.2)).Nodup
  led : w.params.followText "set-order" = true ∨ t.led = true
  room : L.length * 5 < t.mask * 3
  few : L.length < 64
def SKO (P : Program) (w : World) (a : Addr) (L : List (Addr × List Key)) : HO := .ext fun h => ∃ o es ep t, SK0 P w h a L o es ep t
/-- a dict with truths as keys -/
def DBO (p : Addr) (vs : List (Bool × V)) : HO := .ext fun h => vs.length ≤ sizeLine ∧ (p == sysModules) = false ∧ ∃ us, L2.KV vs us ∧ h.DictOf (PpSet.boolK Td.P Td.w) p us
def OwnAt (K : PySem.W.Frag) (G H : Hp) (p : Addr) : OD → Prop
  | .lst ds => ∃ vs, H p = some (.lst vs) ∧ RpAll K G vs ds
  | .dk kvs => ∃ vs, H p = some (.dK vs) ∧ KvAll K G vs kvs
  | .dt kvs => ∃ vs, H p = some (.dT vs) ∧ KvAll K G vs kvs
  | .ins c fs => ∃ (C dx : Addr) (vs : List (Str × V)), PySem.W.nsIn K mainGlobals c = some (some (.ref C)) ∧ H p = some (.ins C dx vs) ∧ KvAll K G vs fs
  | .dn kvs => ∃ L : List (NestedKey × V × V), H p = some (NXO p L) ∧ Paired (NRow K G) L kvs
  | .db kvs => ∃ vs : List (Bool × V), H p = some (DBO p vs) ∧ KvAll K G vs kvs
  | .ts P w ks => ∃ L : List (Addr × List Key), H p = some (SKO P w p L) ∧ (L.map (·.2)).Perm ks ∧ ∀ x ∈ L, SqT K G x.1 (x.2.map kV)
def CellOk (K : PySem.W.Frag) (G H : Hp) (v : Option V) : Cell → Prop
  | .un => True
  | .val d => ∃ x, v = some x ∧ Rp K G x d
  | .own o => ∃ p, v = some (.ref p) ∧ G p = none ∧ OwnAt K G H p o
  | .io o => ∃ p, v = some (.ref p) ∧ G p = none ∧ OwnAt K G H p o
  | .fn k f => ∃ x, v = some x ∧ ClM K G x k f
  | .nd mk => ∃ x, v = some x ∧ NdM K G x mk
theorem OwnAt.notbl {K : PySem.W.Frag} {G H : Hp} {p : Addr} {o : OD} (q : OwnAt K G H p o) (ps : Array Value) : H p ≠ some (.tbl ps) := fun e => by
  cases o with
  | lst ds => obtain ⟨vs, a, _⟩ := q; rw [a] at e; cases e
  | dk kvs => obtain ⟨vs, a, _⟩ := q; rw [a] at e; cases e
  | dt kvs => obtain ⟨vs, a, _⟩ := q; rw [a] at e; cases e
  | ins c fs => obtain ⟨C, dx, vs, _, a, _⟩ := q; rw [a] at e; cases e
  | dn kvs => obtain ⟨L, a, _⟩ := q; rw [a] at e; cases e
  | ts P w ks => obtain ⟨L, a, _⟩ := q; rw [a] at e; cases e
  | db kvs => obtain ⟨vs, a, _⟩ := q; rw [a] at e; cases e
section
variable {G H G' H' : Hp}
theorem CTab.ext (t : CTab G H) (g : ∀ b o, G b = some o → G' b = some o) (h : ∀ b o, H b = some o → H' b = some o) (n : ∀ t ∈ Td.T, G' t.1 = none) : CTab G' H' :=
  ⟨fun p hp => by
    obtain ⟨_, ps, a, b, c⟩ := t.at_ p hp
    exact ⟨n p hp, ps, h _ _ a, b, fun pos cv e => by
      obtain ⟨x, e1, e2⟩ := c pos cv e
      exact ⟨x, e1, g _ _ e2⟩⟩⟩
theorem CTab.ne {p : Addr} (t : CTab G H) (hp : ∀ ps, H p ≠ some (.tbl ps)) : ∀ q ∈ Td.T, q.1 ≠ p := fun q hq e => by
  obtain ⟨_, ps, a, _⟩ := t.at_ q hq
  rw [e] at a
  exact hp ps a
theorem CTab.alloc {p : Addr} {o : HO} (t : CTab G H) (hp : H p = none) (gp : G p = none) : CTab (upd G p o) (upd H p o) := by
  have ne := t.ne (p := p) fun ps e => by rw [hp] at e; cases e
  exact t.ext (fun b x e => by rw [upd_ne (ne_of_none e gp)]; exact e) (fun b x e => by rw [upd_ne (ne_of_none e hp)]; exact e) fun q hq => by
    rw [upd_ne (ne q hq)]
    exact (t.at_ q hq).1
theorem CTab.put {p : Addr} {o : HO} (t : CTab G H) (hp : ∀ q ∈ Td.T, q.1 ≠ p) : CTab G (upd H p o) :=
  ⟨fun q hq => by
    obtain ⟨g, ps, a, b, c⟩ := t.at_ q hq
    exact ⟨g, ps, by rw [upd_ne (hp q hq)]; exact a, b, c⟩⟩
theorem CTab.frz {p : Addr} {o : HO} (t : CTab G H) (gp : G p = none) (hp : ∀ q ∈ Td.T, q.1 ≠ p) : CTab (upd G p o) H :=
  ⟨fun q hq => by
    obtain ⟨g, ps, a, b, c⟩ := t.at_ q hq
    refine ⟨by rw [upd_ne (hp q hq)]; exact g, ps, a, b, fun pos cv e => ?_⟩
    obtain ⟨x, e1, e2⟩ := c pos cv e
    exact ⟨x, e1, by rw [upd_ne (ne_of_none e2 gp)]; exact e2⟩⟩
end
def Cell.isOwn : Cell → Bool
  | .own _ => true
  | .io _ => true
  | _ => false
def At (σ : St) (ρ : DEnv) (i : Nat) (p : Addr) : Prop := σ[i]? = some (some (.ref p)) ∧ ∃ c, ρ[i]? = some c ∧ c.isOwn = true
section
structure Rel (K : PySem.W.Frag) (G : Hp) (σ : St) (H : Hp) (ρ : DEnv) : Prop where
  gh : Same G H
  len : σ.length = ρ.length
  cell : ∀ (i : Nat) (c : Cell), ρ[i]? = some c → ∃ v, σ[i]? = some v ∧ CellOk K G H v c
  sep : ∀ (i j : Nat) (p : Addr), i ≠ j → At σ ρ i p → At σ ρ j p → False
  tab : CTab G H
/-- what a step leaves as it was -/
structure Stp (G H : Hp) (σ : St) (ρ : DEnv) (G' H' : Hp) (σ' : St) (ρ' : DEnv) : Prop where
  same : Same G G'
  frame : ∀ b o, H b = some o → ¬ OwnL σ ρ b → ¬ OwnI σ ρ b → H' b = some o
  keep : ∀ b, H' b = none → H b = none
  fresh : ∀ b o, G' b = some o → G b = some o ∨ H b = none ∨ OwnL σ ρ b
  ownl : ∀ b, OwnL σ' ρ' b → OwnL σ ρ b ∨ H b = none
  io : ∀ (i : Nat) (o : OD), ρ[i]? = some (.io o) → σ'[i]? = σ[i]? ∧ ∃ o', ρ'[i]? = some (.io o')
  oi : ∀ (i : Nat) (o : OD), ρ'[i]? = some (.io o) → ∃ o', ρ[i]? = some (.io o')
  len : σ'.length = σ.length
theorem Stp.owni {G H G' H' : Hp} {σ σ' : St} {ρ ρ' : DEnv} (s : Stp G H σ ρ G' H' σ' ρ') (b : Addr) : OwnI σ' ρ' b ↔ OwnI σ ρ b := by
  constructor
  · rintro (⟨i, o, h1, h2⟩ | z)
    · obtain ⟨o', h3⟩ := s.oi i o h1
      obtain ⟨e, _⟩ := s.io i o' h3
      exact .inl ⟨i, o', h3, e ▸ h2⟩
    · exact .inr z
  · rintro (⟨i, o, h1, h2⟩ | z)
    · obtain ⟨e, o', h3⟩ := s.io i o h1
      exact .inl ⟨i, o', h3, e.trans h2⟩
    · exact .inr z
theorem Stp.refl {G H : Hp} {σ : St} {ρ : DEnv} : Stp G H σ ρ G H σ ρ :=
  ⟨Same.refl _, fun _ _ h _ _ => h, fun _ h => h, fun _ _ h => .inl h, fun _ h => .inl h, fun _ o h => ⟨rfl, o, h⟩, fun _ o h => ⟨o, h⟩, rfl⟩
theorem Stp.trans {G H G1 H1 G2 H2 : Hp} {σ σ1 σ2 : St} {ρ ρ1 ρ2 : DEnv} (a : Stp G H σ ρ G1 H1 σ1 ρ1) (b : Stp G1 H1 σ1 ρ1 G2 H2 σ2 ρ2) : Stp G H σ ρ G2 H2 σ2 ρ2 where
  same := a.same.trans b.same
  frame := fun c o h n1 n2 => b.frame c o (a.frame c o h n1 n2) (fun z => (a.ownl c z).elim n1 fun q => by rw [h] at q; cases q) fun z => n2 ((a.owni c).mp z)
  keep := fun c h => a.keep c (b.keep c h)
  fresh := fun c o h => (b.fresh c o h).elim (fun h1 => a.fresh c o h1) fun h1 => h1.elim (fun h2 => .inr (.inl (a.keep c h2))) fun h2 => (a.ownl c h2).elim (fun z => .inr (.inr z)) fun z => .inr (.inl z)
  ownl := fun c h => (b.ownl c h).elim (fun h1 => a.ownl c h1) fun h1 => .inr (a.keep c h1)
  io := fun i o h => by
    obtain ⟨e1, o1, h1⟩ := a.io i o h
    obtain ⟨e2, o2, h2⟩ := b.io i o1 h1
    exact ⟨e2.trans e1, o2, h2⟩
  oi := fun i o h => by
    obtain ⟨o1, h1⟩ := b.oi i o h
    exact a.oi i o1 h1
  len := b.len.trans a.len
theorem Same.seqT {K : PySem.W.Frag} {H H' : Hp} {a : Addr} {xs : List V} (e : Same H H') (h : SqT K H a xs) : SqT K H' a xs := by
  rcases h with (h | ⟨o, h⟩) | h
  · exact .inl (.inl (e _ _ h))
  · exact .inl (.inr ⟨o, e _ _ h⟩)
  · exact .inr h
mutual
theorem Rp.mono {K : PySem.W.Frag} {G G' : Hp} (e : Same G G') : ∀ {v : V} {d : PyData}, Rp K G v d → Rp K G' v d
  | _, _, .non => .non
  | _, _, .bl b => .bl b
  | _, _, .int i => .int i
  | _, _, .str x => .str x
  | _, _, .lst h a => .lst (e _ _ h) (RpAll.mono e a)
  | _, _, .tup h a => .tup (Same.seqT e h) (RpAll.mono e a)
  | _, _, .scr h => .scr (e.seq h)
  | _, _, .dic h n a => .dic (e _ _ h) n (RpAll.mono e a)
  | _, _, .dit h n a => .dit (e _ _ h) n (RpAll.mono e a)
  | _, _, .rng h => .rng (e _ _ h)
  | _, _, .fup h a => .fup (e _ _ h) (RpAll.mono e a)
  | _, _, .exn n h1 h2 a => .exn n (e _ _ h1) (e _ _ h2) (Rp.mono e a)
  | _, _, .exz n h => .exz n (e _ _ h)
theorem RpAll.mono {K : PySem.W.Frag} {G G' : Hp} (e : Same G G') : ∀ {vs : List V} {ds : List PyData}, RpAll K G vs ds → RpAll K G' vs ds
  | _, _, .nil => .nil
  | _, _, .cons h t => .cons (Rp.mono e h) (RpAll.mono e t)
end
mutual
theorem Rp.toDp {K : PySem.W.Frag} {G : Hp} : ∀ {v : V} {d : PyData}, Rp K G v d → d.canLay0 = true → Dp K G v d
  | _, _, .non, _ => .non
  | _, _, .bl b, _ => .bl b
  | _, _, .int i, _ => .int i
  | _, _, .str x, _ => .str x
  | _, _, .lst h a, c => .lst (SqL.of h) (RpAll.toDp a c)
  | _, _, .tup h a, c => .tup h (RpAll.toDp a c)
  | _, _, .scr h, c => nomatch (show false = true from c)
  | _, _, .dic h n a, c => nomatch (show false = true from c)
  | _, _, .dit h n a, c => nomatch (show false = true from c)
  | _, _, .rng h, c => nomatch (show false = true from c)
  | _, _, .fup h a, c => nomatch (show false = true from c)
  | _, _, .exn _ _ _ _, c => nomatch (show false = true from c)
  | _, _, .exz _ _, c => nomatch (show false = true from c)
theorem RpAll.toDp {K : PySem.W.Frag} {G : Hp} : ∀ {vs : List V} {ds : List PyData}, RpAll K G vs ds → PyData.canLayAll0 ds = true → DpAll K G vs ds
  | _, _, .nil, _ => .nil
  | _, _, .cons h t, c => by
    have c' : (PyData.canLay0 _ && PyData.canLayAll0 _) = true := c
    exact .cons (Rp.toDp h (Bool.and_eq_true_iff.mp c').1) (RpAll.toDp t (Bool.and_eq_true_iff.mp c').2)
end
theorem RpAll.len {K : PySem.W.Frag} {G : Hp} : ∀ {vs : List V} {ds : List PyData}, RpAll K G vs ds → vs.length = ds.length
  | _, _, .nil => rfl
  | _, _, .cons _ t => congrArg (· + 1) (RpAll.len t)
theorem RpAll.get {K : PySem.W.Frag} {G : Hp} : ∀ {vs : List V} {ds : List PyData} {i : Nat} {d : PyData}, RpAll K G vs ds → ds[i]? = some d → ∃ v, vs[i]? = some v ∧ Rp K G v d
  | _, _, _, _, .nil, h => by simp at h
  | _, _, 0, _, .cons h _, e => by simp at e; subst e; exact ⟨_, rfl, h⟩
  | _, _, i + 1, _, .cons _ t, e => by
    obtain ⟨v, h1, h2⟩ := RpAll.get (i := i) t (by simpa using e)
    exact ⟨v, by simpa using h1, h2⟩
theorem RpAll.app {K : PySem.W.Frag} {G : Hp} : ∀ {vs : List V} {ds : List PyData} {ws : List V} {es : List PyData}, RpAll K G vs ds → RpAll K G ws es → RpAll K G (vs ++ ws) (ds ++ es)
  | _, _, _, _, .nil, h => h
  | _, _, _, _, .cons h t, h' => .cons h (RpAll.app t h')
theorem RpAll.drop {K : PySem.W.Frag} {G : Hp} : ∀ {vs : List V} {ds : List PyData} (n : Nat), RpAll K G vs ds → RpAll K G (vs.drop n) (ds.drop n)
  | _, _, 0, h => h
  | _, _, _ + 1, .nil => .nil
  | _, _, n + 1, .cons _ t => RpAll.drop n t
theorem RpAll.take {K : PySem.W.Frag} {G : Hp} : ∀ {vs : List V} {ds : List PyData} (n : Nat), RpAll K G vs ds → RpAll K G (vs.take n) (ds.take n)
  | _, _, 0, _ => .nil
  | _, _, _ + 1, .nil => .nil
  | _, _, n + 1, .cons h t => .cons h (RpAll.take n t)
theorem RpAll.set {K : PySem.W.Frag} {G : Hp} {v : V} {d : PyData} (q : Rp K G v d) : ∀ {vs : List V} {ds : List PyData} (n : Nat), RpAll K G vs ds → RpAll K G (vs.set n v) (ds.set n d)
  | _, _, _, .nil => .nil
  | _, _, 0, .cons _ t => .cons q t
  | _, _, n + 1, .cons h t => .cons h (RpAll.set q n t)
theorem KvAll.mono {κ : Type} {K : PySem.W.Frag} {G G' : Hp} (e : Same G G') {xs : List (κ × V)} {ys : List (κ × PyData)} (h : KvAll K G xs ys) : KvAll K G' xs ys :=
  Paired.mapP h fun _ _ q => ⟨q.1, Rp.mono e q.2⟩
theorem KeyX.mono {K : PySem.W.Frag} {G G' : Hp} (e : Same G G') {k : NestedKey} {x : V} (h : KeyX K G k x) : KeyX K G' k x := by
  induction h with
  | non => exact .non
  | bl b => exact .bl b
  | int i => exact .int i
  | str x => exact .str x
  | tup g hl _ ih => exact .tup (Same.seqT e g) hl ih
theorem NRow.mono {K : PySem.W.Frag} {G G' : Hp} (e : Same G G') {x : NestedKey × V × V} {kv : NestedKey × PyData × PyData} (h : NRow K G x kv) : NRow K G' x kv := ⟨h.1, h.2.1.mono e, Rp.mono e h.2.2.1, Rp.mono e h.2.2.2⟩
theorem OwnAt.mono {K : PySem.W.Frag} {G G' H H' : Hp} {p : Addr} {o : OD} (e : Same G G') (h : ∀ u, H p = some u → H' p = some u) (q : OwnAt K G H p o) : OwnAt K G' H' p o := by
  cases o with
  | lst ds => obtain ⟨vs, a, b⟩ := q; exact ⟨vs, h _ a, RpAll.mono e b⟩
  | dk kvs => obtain ⟨vs, a, b⟩ := q; exact ⟨vs, h _ a, KvAll.mono e b⟩
  | dt kvs => obtain ⟨vs, a, b⟩ := q; exact ⟨vs, h _ a, KvAll.mono e b⟩
  | ins c fs => obtain ⟨C, dx, vs, n, a, b⟩ := q; exact ⟨C, dx, vs, n, h _ a, KvAll.mono e b⟩
  | dn kvs => obtain ⟨L, a, b⟩ := q; exact ⟨L, h _ a, Paired.mapP b fun _ _ z => NRow.mono e z⟩
  | ts P w ks => obtain ⟨L, a, b, c⟩ := q; exact ⟨L, h _ a, b, fun x hx => Same.seqT e (c x hx)⟩
  | db kvs => obtain ⟨vs, a, b⟩ := q; exact ⟨vs, h _ a, KvAll.mono e b⟩
theorem OwnAt.ex {K : PySem.W.Frag} {G H : Hp} {p : Addr} {o : OD} (q : OwnAt K G H p o) : ∃ u, H p = some u := by
  cases o with
  | lst ds => obtain ⟨vs, a, b⟩ := q; exact ⟨_, a⟩
  | dk kvs => obtain ⟨vs, a, b⟩ := q; exact ⟨_, a⟩
  | dt kvs => obtain ⟨vs, a, b⟩ := q; exact ⟨_, a⟩
  | ins c fs => obtain ⟨C, dx, vs, n, a, b⟩ := q; exact ⟨_, a⟩
  | dn kvs => obtain ⟨L, a, _⟩ := q; exact ⟨_, a⟩
  | ts P w ks => obtain ⟨L, a, _⟩ := q; exact ⟨_, a⟩
  | db kvs => obtain ⟨vs, a, _⟩ := q; exact ⟨_, a⟩
theorem same_upd {H : Hp} {p : Addr} {o : HO} (h : H p = none) : Same H (upd H p o) := fun b x e => by
  rw [upd_ne (ne_of_none e h)]
  exact e
theorem Rel.noneG {K : PySem.W.Frag} {G H : Hp} {σ : St} {ρ : DEnv} (R : Rel K G σ H ρ) {p : Addr} (h : H p = none) : G p = none := R.gh.free h
theorem Rel.ownH {K : PySem.W.Frag} {G H : Hp} {σ : St} {ρ : DEnv} (R : Rel K G σ H ρ) {b : Addr} (h : OwnL σ ρ b) : ∃ u, H b = some u := by
  obtain ⟨i, o, h1, h2⟩ := h
  obtain ⟨v, e, p, rfl, g, q⟩ := R.cell i _ h1
  rw [h2] at e
  cases e
  exact q.ex
theorem Rel.ownHI {K : PySem.W.Frag} {G H : Hp} {σ : St} {ρ : DEnv} (R : Rel K G σ H ρ) {b : Addr} (h : OwnI σ ρ b) : ∃ u, H b = some u := by
  obtain ⟨i, o, h1, h2⟩ | ⟨t, ht, rfl⟩ := h
  case inr => obtain ⟨_, ps, e, _⟩ := R.tab.at_ t ht; exact ⟨_, e⟩
  obtain ⟨v, e, p, rfl, g, q⟩ := R.cell i _ h1
  rw [h2] at e
  cases e
  exact q.ex
/-- a new frozen object -/
theorem Rel.alloc {K : PySem.W.Frag} {G H : Hp} {σ : St} {ρ : DEnv} (R : Rel K G σ H ρ) {p : Addr} (h : H p = none) (o : HO) : Rel K (upd G p o) σ (upd H p o) ρ := by
  have hg := R.noneG h
  refine ⟨fun b u e => ?_, R.len, fun i c e => ?_, R.sep, R.tab.alloc h hg⟩
  · by_cases hb : b = p
    · subst hb
      rw [upd_same] at e ⊢
      exact e
    · rw [upd_ne hb] at e ⊢
      exact R.gh b u e
  · obtain ⟨v, e1, q⟩ := R.cell i c e
    refine ⟨v, e1, ?_⟩
    cases c with
    | fn _ _ => obtain ⟨x, e2, q⟩ := q; exact ⟨x, e2, ClM.mono (same_upd hg) q⟩
    | nd _ => obtain ⟨x, e2, q⟩ := q; exact ⟨x, e2, NdM.mono (same_upd hg) q⟩
    | un => trivial
    | val d => obtain ⟨x, e2, q⟩ := q; exact ⟨x, e2, Rp.mono (same_upd hg) q⟩
    | own o' =>
      obtain ⟨b, e2, g, q⟩ := q
      have hb : b ≠ p := by
        obtain ⟨u, hu⟩ := q.ex
        exact ne_of_none hu h
      exact ⟨b, e2, by rw [upd_ne hb]; exact g, q.mono (same_upd hg) fun u hu => by rw [upd_ne hb]; exact hu⟩
    | io o' =>
      obtain ⟨b, e2, g, q⟩ := q
      have hb : b ≠ p := by
        obtain ⟨u, hu⟩ := q.ex
        exact ne_of_none hu h
      exact ⟨b, e2, by rw [upd_ne hb]; exact g, q.mono (same_upd hg) fun u hu => by rw [upd_ne hb]; exact hu⟩
theorem Stp.alloc {G H : Hp} {σ : St} {ρ : DEnv} {p : Addr} (h : H p = none) (hg : G p = none) (o : HO) : Stp G H σ ρ (upd G p o) (upd H p o) σ ρ := by
  refine ⟨same_upd hg, fun b u e _ _ => same_upd h b u e, fun b e => ?_, fun b u e => ?_, fun _ h => .inl h, fun _ o h => ⟨rfl, o, h⟩, fun _ o h => ⟨o, h⟩, rfl⟩
  · by_cases hb : b = p
    · subst hb; exact h
    · rw [upd_ne hb] at e; exact e
  · by_cases hb : b = p
    · subst hb; exact .inr (.inl h)
    · rw [upd_ne hb] at e; exact .inl e
/-- a new object beside -/
theorem Rel.beside {K : PySem.W.Frag} {G H : Hp} {σ : St} {ρ : DEnv} (R : Rel K G σ H ρ) {p : Addr} (hg : G p = none) (h1 : ¬ OwnL σ ρ p) (h2 : ¬ OwnI σ ρ p) (o : HO) : Rel K G σ (upd H p o) ρ := by
  refine ⟨fun b u e => ?_, R.len, fun i c e => ?_, R.sep, R.tab.put fun q hq z => h2 (.inr ⟨q, hq, z⟩)⟩
  · rw [upd_ne (ne_of_none e hg)]
    exact R.gh b u e
  · obtain ⟨v, e1, q⟩ := R.cell i c e
    refine ⟨v, e1, ?_⟩
    cases c with
    | fn _ _ => exact q
    | nd _ => exact q
    | un => trivial
    | val d => exact q
    | own o' =>
      obtain ⟨b, e2, g, q⟩ := q
      have hb : b ≠ p := fun z => h1 ⟨i, o', e, by rw [e1, e2, z]⟩
      exact ⟨b, e2, g, q.mono (Same.refl _) fun u hu => by rw [upd_ne hb]; exact hu⟩
    | io o' =>
      obtain ⟨b, e2, g, q⟩ := q
      have hb : b ≠ p := fun z => h2 (.inl ⟨i, o', e, by rw [e1, e2, z]⟩)
      exact ⟨b, e2, g, q.mono (Same.refl _) fun u hu => by rw [upd_ne hb]; exact hu⟩
/-- an object that a slot holds is no table -/
theorem Rel.ownNt {K : PySem.W.Frag} {G H : Hp} {σ : St} {ρ : DEnv} (R : Rel K G σ H ρ) {i : Nat} {c : Cell} {b : Addr} (e : ρ[i]? = some c) (w : c.isOwn = true) (a : σ[i]? = some (some (.ref b))) : ∀ q ∈ Td.T, q.1 ≠ b := by
  obtain ⟨v, e1, q⟩ := R.cell i c e
  rw [a] at e1
  cases e1
  cases c with
  | fn _ _ => cases w
  | nd _ => cases w
  | un => cases w
  | val _ => cases w
  | own o => obtain ⟨p, z, _, q⟩ := q; cases z; exact R.tab.ne q.notbl
  | io o => obtain ⟨p, z, _, q⟩ := q; cases z; exact R.tab.ne q.notbl
end
end DL
set_option Elab.async false
set_option linter.all false
set_option maxRecDepth 100000
set_option maxHeartbeats 4000000
namespace DL
open PySem PySem.Spec PyProof.Rows L2
variable [Td]
/-- no exception -/
abbrev W0 : WX := fun _ _ _ _ => False
/-- what a caller is told of an exception, seen in the callee -/
abbrev upE (E : XK) : WX := fun c d _ H => E c d H
def ErrAt (K : PySem.W.Frag) (mg : Str → Option Value) (G H : Hp) (x : Exn) (c : Value) (od : Option Addr) : Prop :=
  ∃ C, mg x.cls = some (.ref C) ∧ c = .ref C ∧ match x.fs with
    | [] => od = none
    | fs => ∃ d vs, od = some d ∧ H d = some (.xd vs) ∧ KvAll K G vs fs
/-- what is wanted behind an expression, told by its meaning r -/
def Post {α β : Type} (K : PySem.W.Frag) (mg : Str → Option Value) (E : WX) (rep : Hp → β → α → Prop) (σ : St) (G H : Hp) (ρ : DEnv) (Q : β → Hp → Prop) : Res α → Prop
  | .ok a ρ' => ∀ G' H' v, Rel K G' σ H' ρ' → Stp G H σ ρ G' H' σ ρ' → rep G' v a → Q v H'
  | .err x ρ' => ∀ G' H' c od, Rel K G' σ H' ρ' → Stp G H σ ρ G' H' σ ρ' → ErrAt K mg G' H' x c od → E c od σ H'
  | .bad => False
theorem Post.from {α β : Type} {K : PySem.W.Frag} {mg : Str → Option Value} {E : WX} {rep : Hp → β → α → Prop} {σ : St} {G H G1 H1 : Hp} {ρ ρ1 : DEnv} {Q : β → Hp → Prop} {r : Res α}
    (s : Stp G H σ ρ G1 H1 σ ρ1) (h : Post K mg E rep σ G H ρ Q r) : Post K mg E rep σ G1 H1 ρ1 Q r := by
  cases r with
  | ok a ρ' => exact fun G' H' v R S q => h G' H' v R (s.trans S) q
  | err x ρ' => exact fun G' H' c od R S q => h G' H' c od R (s.trans S) q
  | bad => exact h
theorem Post.bind {α β γ δ : Type} {K : PySem.W.Frag} {mg : Str → Option Value} {E : WX} {rep1 : Hp → γ → α → Prop} {rep2 : Hp → δ → β → Prop} {σ : St} {G H : Hp} {ρ : DEnv} {Q : δ → Hp → Prop} {Q1 : γ → Hp → Prop} {r : Res α} {k : α → DEnv → Res β}
    (h : Post K mg E rep2 σ G H ρ Q (r.bind k))
    (f : ∀ G1 H1 x a ρ1, Rel K G1 σ H1 ρ1 → Stp G H σ ρ G1 H1 σ ρ1 → rep1 G1 x a → Post K mg E rep2 σ G1 H1 ρ1 Q (k a ρ1) → Q1 x H1) : Post K mg E rep1 σ G H ρ Q1 r := by
  cases r with
  | ok a ρ' => exact fun G' H' v R S q => f G' H' v a ρ' R S q (Post.from S h)
  | err x ρ' => exact h
  | bad => exact h
theorem Post.done {α β : Type} {K : PySem.W.Frag} {mg : Str → Option Value} {E : WX} {rep : Hp → β → α → Prop} {σ : St} {G H : Hp} {ρ : DEnv} {Q : β → Hp → Prop} {a : α} {v : β} (R : Rel K G σ H ρ) (h : Post K mg E rep σ G H ρ Q (.ok a ρ)) (q : rep G v a) : Q v H :=
  h G H v R Stp.refl q
/-- .. with a new frozen object -/
theorem Post.new {α β : Type} {K : PySem.W.Frag} {mg : Str → Option Value} {E : WX} {rep : Hp → β → α → Prop} {σ : St} {G H : Hp} {ρ : DEnv} {Q : β → Hp → Prop} {a : α} {v : β} {p : Addr} {o : HO} (R : Rel K G σ H ρ) (h : Post K mg E rep σ G H ρ Q (.ok a ρ)) (hp : H p = none)
    (q : rep (upd G p o) v a) : Q v (upd H p o) :=
  h _ _ v (R.alloc hp o) (Stp.alloc hp (R.noneG hp) o) q
section
variable (X : Cx) (E : WX)
abbrev EPost (σ : St) (G H : Hp) (ρ : DEnv) (Q : VK) (r : Res PyData) : Prop := Post X.K X.mg E (Rp X.K) σ G H ρ Q r
abbrev TPost (σ : St) (G H : Hp) (ρ : DEnv) (Q : Bool → Hp → Prop) (r : Res Bool) : Prop := Post X.K X.mg E (fun _ b c => b = c) σ G H ρ Q r
abbrev APost (σ : St) (G H : Hp) (ρ : DEnv) (Q : List V → Hp → Prop) (r : Res (List PyData)) : Prop := Post X.K X.mg E (RpAll X.K) σ G H ρ Q r
/-- a fresh object that nobody else holds -/
def FPost (K : PySem.W.Frag) (mg : Str → Option Value) (E : WX) (σ : St) (G H : Hp) (ρ : DEnv) (Q : VK) : Res OD → Prop
  | .ok o ρ' => ∀ G' H' p, Rel K G' σ H' ρ' → Stp G H σ ρ G' H' σ ρ' → G' p = none → OwnAt K G' H' p o → H p = none → ¬ OwnL σ ρ' p → ¬ OwnI σ ρ' p → Q (.ref p) H'
  | .err x ρ' => ∀ G' H' c od, Rel K G' σ H' ρ' → Stp G H σ ρ G' H' σ ρ' → ErrAt K mg G' H' x c od → E c od σ H'
  | .bad => False
structure EJ (e : Expr) (f : DEnv → Res PyData) : Prop where
  ex : ∃ t : TE, PE X e t ∧ ∀ σ G H ρ Q, Rel X.K G σ H ρ → EPost X E σ G H ρ Q (f ρ) → t σ H Q
structure TJ (e : Expr) (f : DEnv → Res Bool) : Prop where
  ex : ∃ t : TT, PT X e t ∧ ∀ σ G H ρ Q, Rel X.K G σ H ρ → TPost X E σ G H ρ Q (f ρ) → t σ H Q
structure WJ (e : Expr) (f : DEnv → Res Bool) : Prop where
  ex : ∃ t : TT, PW X e t ∧ ∀ σ G H ρ Q, Rel X.K G σ H ρ → TPost X E σ G H ρ Q (f ρ) → t σ H Q
structure AJ (es : List Expr) (f : DEnv → Res (List PyData)) : Prop where
  len : ∀ (ρ : DEnv) (ds : List PyData) (ρ' : DEnv), f ρ = .ok ds ρ' → ds.length = es.length
  ex : ∃ t : TA, PA X es t ∧ ∀ σ G H ρ Q, Rel X.K G σ H ρ → APost X E σ G H ρ Q (f ρ) → t σ H Q
structure FJ (e : Expr) (f : DEnv → Res OD) : Prop where
  ex : ∃ t : TE, PE X e t ∧ ∀ σ G H ρ Q, Rel X.K G σ H ρ → FPost X.K X.mg E σ G H ρ Q (f ρ) → t σ H Q
/-- an operation on values and its meaning -/
def OpD (r : R2) (op : PyData → PyData → Option PyData) : Prop :=
  ∀ (σ : St) (G H : Hp) (ρ : DEnv) (x y : V) (d e c : PyData) (Q : VK), Rel X.K G σ H ρ → Rp X.K G x d → Rp X.K G y e → op d e = some c → EPost X E σ G H ρ Q (.ok c ρ) → r x y H Q
def UnD (r : V → Hp → VK → Prop) (op : PyData → Option PyData) : Prop :=
  ∀ (σ : St) (G H : Hp) (ρ : DEnv) (x : V) (d c : PyData) (Q : VK), Rel X.K G σ H ρ → Rp X.K G x d → op d = some c → EPost X E σ G H ρ Q (.ok c ρ) → r x H Q
def CaD (r : List V → Hp → VK → Prop) (op : List PyData → Option PyData) : Prop :=
  ∀ (σ : St) (G H : Hp) (ρ : DEnv) (xs : List V) (ds : List PyData) (c : PyData) (Q : VK), Rel X.K G σ H ρ → RpAll X.K G xs ds → op ds = some c → EPost X E σ G H ρ Q (.ok c ρ) → r xs H Q
end
def Res.of {α : Type} (o : Option α) (ρ : DEnv) : Res α := match o with
  | some a => .ok a ρ
  | none => .bad
@[simp] theorem Res.of_some {α : Type} (a : α) (ρ : DEnv) : Res.of (some a) ρ = .ok a ρ := rfl
@[simp] theorem Res.of_none {α : Type} (ρ : DEnv) : (Res.of none ρ : Res α) = .bad := rfl
def dC (d : PyData) : DEnv → Res PyData := fun ρ => .ok d ρ
def dVar (i : Nat) : DEnv → Res PyData := fun ρ => match ρ[i]? with
  | some (.val d) => .ok d ρ
  | _ => .bad
def dOp (op : PyData → PyData → Option PyData) (f g : DEnv → Res PyData) : DEnv → Res PyData := fun ρ => (f ρ).bind fun x ρ1 => (g ρ1).bind fun y ρ2 => Res.of (op x y) ρ2
def dUn (op : PyData → Option PyData) (f : DEnv → Res PyData) : DEnv → Res PyData := fun ρ => (f ρ).bind fun x ρ1 => Res.of (op x) ρ1
def dNil : DEnv → Res (List PyData) := fun ρ => .ok [] ρ
def dCons (f : DEnv → Res PyData) (g : DEnv → Res (List PyData)) : DEnv → Res (List PyData) := fun ρ => (f ρ).bind fun x ρ1 => (g ρ1).bind fun xs ρ2 => .ok (x :: xs) ρ2
def dCall (op : List PyData → Option PyData) (f : DEnv → Res (List PyData)) : DEnv → Res PyData := fun ρ => (f ρ).bind fun xs ρ1 => Res.of (op xs) ρ1
def oTup (xs : List PyData) : Option PyData := if xs.length ≤ sizeLine then some (.tuple xs) else none
def oLst (xs : List PyData) : Option OD := if xs.length ≤ sizeLine then some (.lst xs) else none
def dTup (f : DEnv → Res (List PyData)) : DEnv → Res PyData := fun ρ => (f ρ).bind fun xs ρ1 => Res.of (oTup xs) ρ1
def fLst (f : DEnv → Res (List PyData)) : DEnv → Res OD := fun ρ => (f ρ).bind fun xs ρ1 => Res.of (oLst xs) ρ1
def OD.frz : OD → Option PyData
  | .lst ds => some (.list ds)
  | _ => none
def dFrz (f : DEnv → Res OD) : DEnv → Res PyData := fun ρ => (f ρ).bind fun o ρ1 => Res.of o.frz ρ1
def tOf (f : DEnv → Res PyData) : DEnv → Res Bool := fun ρ => (f ρ).bind fun x ρ1 => match x with
  | .bool b => .ok b ρ1
  | _ => .bad
def tru : PyData → Option Bool
  | .none => some false
  | .bool b => some b
  | .int i => some (i != 0)
  | .list xs => some (!xs.isEmpty)
  | .tuple xs => some (!xs.isEmpty)
  | _ => none
def tTru (f : DEnv → Res PyData) : DEnv → Res Bool := fun ρ => (f ρ).bind fun x ρ1 => Res.of (tru x) ρ1
def tNotD (f : DEnv → Res Bool) : DEnv → Res Bool := fun ρ => (f ρ).bind fun b ρ1 => .ok (!b) ρ1
def tAndD (f g : DEnv → Res Bool) : DEnv → Res Bool := fun ρ => (f ρ).bind fun b ρ1 => if b = true then g ρ1 else .ok false ρ1
def tOrD (f g : DEnv → Res Bool) : DEnv → Res Bool := fun ρ => (f ρ).bind fun b ρ1 => if b = true then .ok true ρ1 else g ρ1
def dAndD (f g : DEnv → Res PyData) : DEnv → Res PyData := fun ρ => (tOf f ρ).bind fun b ρ1 => if b = true then g ρ1 else .ok (.bool false) ρ1
def dOrD (f g : DEnv → Res PyData) : DEnv → Res PyData := fun ρ => (tOf f ρ).bind fun b ρ1 => if b = true then .ok (.bool true) ρ1 else g ρ1
def dNotD (f : DEnv → Res PyData) : DEnv → Res PyData := fun ρ => (tOf f ρ).bind fun b ρ1 => .ok (.bool (!b)) ρ1
def dIf (c : DEnv → Res Bool) (f g : DEnv → Res PyData) : DEnv → Res PyData := fun ρ => (c ρ).bind fun b ρ1 => if b = true then f ρ1 else g ρ1
def dChain (op1 op2 : PyData → PyData → Option PyData) (f g h : DEnv → Res PyData) : DEnv → Res PyData := fun ρ => (f ρ).bind fun x ρ1 => (g ρ1).bind fun y ρ2 => match op1 x y with
  | some (.bool b) => if b = true then (h ρ2).bind fun z ρ3 => Res.of (op2 y z) ρ3 else .ok (.bool false) ρ2
  | _ => .bad
section
variable {X : Cx} {E : WX} {a b c : Expr} {es : List Expr} {fa fb fc : DEnv → Res PyData} {ff : DEnv → Res OD} {tA tB : DEnv → Res Bool} {fs : DEnv → Res (List PyData)} {pos : Pos}
theorem e_int {i : Int} {j : Nat} : EJ X E (.Constant (.int i) j pos) (dC (.int i)) := ⟨_, pe_int, fun _ _ _ _ _ R h => Post.done R h (.int i)⟩
theorem e_bl {v : Bool} {j : Nat} : EJ X E (.Constant (.bool v) j pos) (dC (.bool v)) := ⟨_, pe_bl, fun _ _ _ _ _ R h => Post.done R h (.bl v)⟩
theorem e_str {x : Str} {j : Nat} : EJ X E (.Constant (.str x) j pos) (dC (.str x)) := ⟨_, pe_str, fun _ _ _ _ _ R h => Post.done R h (.str x)⟩
theorem e_var {x : Str} (i : Nat) (h : PE X (.Name x pos) (tVar i)) : EJ X E (.Name x pos) (dVar i) := by
  refine ⟨_, h, fun σ G H ρ Q R h => ?_⟩
  unfold dVar at h
  cases q : ρ[i]? with
  | none => rw [q] at h; exact h.elim
  | some cl =>
    rw [q] at h
    cases cl with
    | val d =>
      obtain ⟨v, e1, x, rfl, hd⟩ := R.cell i _ q
      exact ⟨x, e1, Post.done R h hd⟩
    | fn _ _ => exact h.elim
    | nd _ => exact h.elim
    | un => exact h.elim
    | own o => exact h.elim
    | io o => exact h.elim
/-- a module's constant, a class, a def: by its value -/
theorem e_glob {x : Str} {v : V} {d : PyData} (h : PE X (.Name x pos) (tC v)) (hd : ∀ G, Rp X.K G v d) : EJ X E (.Name x pos) (dC d) := ⟨_, h, fun _ _ _ _ _ R h => Post.done R h (hd _)⟩
theorem two {ta tb : TE} {σ : St} {G H : Hp} {ρ : DEnv} {op : PyData → PyData → Option PyData} {Q : VK} {r : R2} (pa : ∀ σ G H ρ Q, Rel X.K G σ H ρ → EPost X E σ G H ρ Q (fa ρ) → ta σ H Q) (pb : ∀ σ G H ρ Q, Rel X.K G σ H ρ → EPost X E σ G H ρ Q (fb ρ) → tb σ H Q)
    (o : OpD X E r op) (R : Rel X.K G σ H ρ) (h : EPost X E σ G H ρ Q (dOp op fa fb ρ)) : tOp r ta tb σ H Q := by
  refine pa σ G H ρ _ R (Post.bind h fun G1 H1 x d ρ1 R1 S1 hx h1 => ?_)
  refine pb σ G1 H1 ρ1 _ R1 (Post.bind h1 fun G2 H2 y e ρ2 R2 S2 hy h2 => ?_)
  cases q : op d e with
  | none => rw [q] at h2; exact h2.elim
  | some cc => rw [q] at h2; exact o σ G2 H2 ρ2 x y d e cc Q R2 (Rp.mono S2.same hx) hy q h2
theorem e_op {op : Operator} {r : R2} {o : PyData → PyData → Option PyData} (ho : OpR X (binaryOp op) r) (hd : OpD X E r o) (ha : EJ X E a fa) (hb : EJ X E b fb) : EJ X E (.BinOp a op b pos) (dOp o fa fb) := by
  obtain ⟨ta, qa, pa⟩ := ha
  obtain ⟨tb, qb, pb⟩ := hb
  exact ⟨_, pe_op ho qa qb, fun σ G H ρ Q R h => two pa pb hd R h⟩
theorem e_cmp {op : CmpOp} {r : R2} {o : PyData → PyData → Option PyData} (ho : OpR X (compareOp op) r) (hd : OpD X E r o) (ha : EJ X E a fa) (hb : EJ X E b fb) (hm : behindInMarks op b = false) : EJ X E (.Compare a [op] [b] pos) (dOp o fa fb) := by
  obtain ⟨ta, qa, pa⟩ := ha
  obtain ⟨tb, qb, pb⟩ := hb
  exact ⟨_, pe_cmpR ho qa qb hm, fun σ G H ρ Q R h => two pa pb hd R h⟩
theorem t_cmp {op : CmpOp} {r : R2} {o : PyData → PyData → Option PyData} (ho : OpR X (compareOp op) r) (hd : OpD X E r o) (ha : EJ X E a fa) (hb : EJ X E b fb) (hm : behindInMarks op b = false) : TJ X E (.Compare a [op] [b] pos) (tOf (dOp o fa fb)) := by
  obtain ⟨ta, qa, pa⟩ := ha
  obtain ⟨tb, qb, pb⟩ := hb
  refine ⟨_, pt_cmpR ho qa qb hm, fun σ G H ρ Q R h => two pa pb hd R (Post.bind h fun G1 H1 x d ρ1 R1 S1 hx h1 => ?_)⟩
  cases d with
  | bool k => cases hx; exact ⟨k, rfl, Post.done R1 h1 rfl⟩
  | _ => exact h1.elim
theorem e_ix {r : R2} {o : PyData → PyData → Option PyData} (ho : IxR X r) (hd : OpD X E r o) (ha : EJ X E a fa) (hb : EJ X E b fb) (hs : PlainIx b) : EJ X E (.Subscript a b pos) (dOp o fa fb) := by
  obtain ⟨ta, qa, pa⟩ := ha
  obtain ⟨tb, qb, pb⟩ := hb
  exact ⟨_, pe_ix ho qa qb hs, fun σ G H ρ Q R h => two pa pb hd R h⟩
theorem e_un {op : UnaryOp} {r : V → Hp → VK → Prop} {o : PyData → Option PyData} (ho : UnR X (unaryOp op) r) (hd : UnD X E r o) (ha : EJ X E a fa) : EJ X E (.UnaryOp op a pos) (dUn o fa) := by
  obtain ⟨ta, qa, pa⟩ := ha
  refine ⟨_, pe_un ho qa, fun σ G H ρ Q R h => pa σ G H ρ _ R (Post.bind h fun G1 H1 x d ρ1 R1 S1 hx h1 => ?_)⟩
  cases q : o d with
  | none => rw [q] at h1; exact h1.elim
  | some cc => rw [q] at h1; exact hd σ G1 H1 ρ1 x d cc Q R1 hx q h1
theorem a_nil : AJ X E [] dNil := ⟨fun _ _ _ h => by cases h; rfl, _, pa_nil, fun _ _ _ _ _ R h => Post.done R h .nil⟩
theorem a_cons (ha : EJ X E a fa) (hr : AJ X E es fs) (hs : starEach (a :: es) X.env = (false, eval a X.env) :: starEach es X.env := by rfl) : AJ X E (a :: es) (dCons fa fs) := by
  obtain ⟨ta, qa, pa⟩ := ha
  obtain ⟨lr, tr, qr, pr⟩ := hr
  refine ⟨fun ρ ds ρ' h => ?_, _, pa_cons qa qr hs, fun σ G H ρ Q R h => ?_⟩
  · unfold dCons at h
    cases r : fa ρ with
    | bad => rw [r] at h; cases h
    | err x c => rw [r] at h; cases h
    | ok d ρ1 =>
      rw [r, Res.bind_ok] at h
      cases r2 : fs ρ1 with
      | bad => rw [r2] at h; cases h
      | err x c => rw [r2] at h; cases h
      | ok ds2 ρ2 =>
        rw [r2, Res.bind_ok] at h
        cases h
        exact congrArg (· + 1) (lr ρ1 ds2 _ r2)
  refine pa σ G H ρ _ R (Post.bind h fun G1 H1 x d ρ1 R1 S1 hx h1 => ?_)
  exact pr σ G1 H1 ρ1 _ R1 (Post.bind h1 fun G2 H2 xs ds ρ2 R2 S2 hxs h2 => Post.done R2 h2 (.cons (Rp.mono S2.same hx) hxs))
theorem e_tup {x1} (h : AJ X E es fs) : EJ X E (.Tuple es x1 pos) (dTup fs) := by
  obtain ⟨_, t, q, p⟩ := h
  refine ⟨_, pe_tup q, fun σ G H ρ Q R h => p σ G H ρ _ R (Post.bind h fun G1 H1 xs ds ρ1 R1 S1 hxs h1 => ?_)⟩
  have hl := RpAll.len hxs
  unfold oTup at h1
  by_cases hz : ds.length ≤ sizeLine
  · rw [if_pos hz] at h1
    exact ⟨by omega, fun p hp => Post.new R1 h1 hp (.tup (SqT.of upd_same) (RpAll.mono (same_upd (R1.noneG hp)) hxs))⟩
  · rw [if_neg hz] at h1
    exact h1.elim
theorem FPost.from {K : PySem.W.Frag} {mg : Str → Option Value} {E : WX} {σ : St} {G H G1 H1 : Hp} {ρ ρ1 : DEnv} {Q : VK} {r : Res OD}
    (s : Stp G H σ ρ G1 H1 σ ρ1) (h : FPost K mg E σ G H ρ Q r) : FPost K mg E σ G1 H1 ρ1 Q r := by
  cases r with
  | ok a ρ' => exact fun G' H' v R S q q1 q2 => h G' H' v R (s.trans S) q q1 (s.keep v q2)
  | err x ρ' => exact fun G' H' c od R S q => h G' H' c od R (s.trans S) q
  | bad => exact h
theorem FPost.bind {α γ : Type} {K : PySem.W.Frag} {mg : Str → Option Value} {E : WX} {rep1 : Hp → γ → α → Prop} {σ : St} {G H : Hp} {ρ : DEnv} {Q : VK} {Q1 : γ → Hp → Prop} {r : Res α} {k : α → DEnv → Res OD}
    (h : FPost K mg E σ G H ρ Q (r.bind k))
    (f : ∀ G1 H1 x a ρ1, Rel K G1 σ H1 ρ1 → Stp G H σ ρ G1 H1 σ ρ1 → rep1 G1 x a → FPost K mg E σ G1 H1 ρ1 Q (k a ρ1) → Q1 x H1) : Post K mg E rep1 σ G H ρ Q1 r := by
  cases r with
  | ok a ρ' => exact fun G' H' v R S q => f G' H' v a ρ' R S q (FPost.from S h)
  | err x ρ' => exact h
  | bad => exact h
theorem FPost.new {K : PySem.W.Frag} {mg : Str → Option Value} {E : WX} {σ : St} {G H : Hp} {ρ : DEnv} {Q : VK} {o : OD} {p : Addr} {u : HO} (R : Rel K G σ H ρ) (h : FPost K mg E σ G H ρ Q (.ok o ρ)) (hp : H p = none)
    (q : OwnAt K G (upd H p u) p o) : Q (.ref p) (upd H p u) := by
  have n1 : ¬ OwnL σ ρ p := fun z => by obtain ⟨w, e⟩ := R.ownH z; rw [hp] at e; cases e
  have n2 : ¬ OwnI σ ρ p := fun z => by obtain ⟨w, e⟩ := R.ownHI z; rw [hp] at e; cases e
  refine h G _ p (R.beside (R.noneG hp) n1 n2 u) ⟨Same.refl _, fun b w e _ _ => same_upd hp b w e, fun b e => ?_, fun b w e => .inl e, fun _ z => .inl z, fun _ o z => ⟨rfl, o, z⟩, fun _ o z => ⟨o, z⟩, rfl⟩ (R.noneG hp) q hp n1 n2
  by_cases hb : b = p
  · subst hb; exact hp
  · rw [upd_ne hb] at e; exact e
theorem f_lst (h : AJ X E es fs) : FJ X E (.List es pos) (fLst fs) := by
  obtain ⟨_, t, q, p⟩ := h
  refine ⟨_, pe_lst q, fun σ G H ρ Q R h => p σ G H ρ _ R (FPost.bind h fun G1 H1 xs ds ρ1 R1 S1 hxs h1 => ?_)⟩
  have hl := RpAll.len hxs
  unfold oLst at h1
  by_cases hz : ds.length ≤ sizeLine
  · rw [if_pos hz] at h1
    exact ⟨by omega, fun p hp => FPost.new R1 h1 hp ⟨xs, upd_same, hxs⟩⟩
  · rw [if_neg hz] at h1
    exact h1.elim
/-- a fresh list as frozen data -/
theorem e_frz (h : FJ X E a ff) : EJ X E a (dFrz ff) := by
  obtain ⟨t, q, p⟩ := h
  refine ⟨t, q, fun σ G H ρ Q R h => p σ G H ρ Q R ?_⟩
  unfold dFrz at h
  cases e : ff ρ with
  | bad => rw [e] at h; exact h
  | err x ρ' => rw [e] at h; exact h
  | ok o ρ' =>
    rw [e] at h
    intro G' H' p R1 S1 g1 o1 hp n1 n2
    cases o with
    | dk _ => exact h.elim
    | dt _ => exact h.elim
    | ins _ _ => exact h.elim
    | dn _ => exact h.elim
    | ts _ _ _ => exact h.elim
    | db _ => exact h.elim
    | lst ds =>
      obtain ⟨vs, hv, hd⟩ := o1
      have s1 : Same G' (upd G' p (.lst vs)) := same_upd g1
      refine h (upd G' p (.lst vs)) H' (.ref p) ⟨fun b u z => ?_, R1.len, fun i cl z => ?_, R1.sep, R1.tab.frz g1 fun q hq y => n2 (.inr ⟨q, hq, y⟩)⟩ ⟨S1.same.trans s1, S1.frame, S1.keep, fun b u z => ?_, S1.ownl, S1.io, S1.oi, S1.len⟩ (.lst upd_same (RpAll.mono s1 hd))
      · by_cases hb : b = p
        · subst hb; rw [upd_same] at z; cases z; exact hv
        · rw [upd_ne hb] at z; exact R1.gh b u z
      · obtain ⟨v, e1, w⟩ := R1.cell i cl z
        refine ⟨v, e1, ?_⟩
        cases cl with
        | fn _ _ => obtain ⟨x, e2, w⟩ := w; exact ⟨x, e2, ClM.mono s1 w⟩
        | nd _ => obtain ⟨x, e2, w⟩ := w; exact ⟨x, e2, NdM.mono s1 w⟩
        | un => trivial
        | val d => obtain ⟨x, e2, w⟩ := w; exact ⟨x, e2, Rp.mono s1 w⟩
        | own o =>
          obtain ⟨b, e2, g, w⟩ := w
          have hb : b ≠ p := fun y => n1 ⟨i, o, z, by rw [e1, e2, y]⟩
          exact ⟨b, e2, by rw [upd_ne hb]; exact g, w.mono s1 fun _ y => y⟩
        | io o =>
          obtain ⟨b, e2, g, w⟩ := w
          have hb : b ≠ p := fun y => n2 (.inl ⟨i, o, z, by rw [e1, e2, y]⟩)
          exact ⟨b, e2, by rw [upd_ne hb]; exact g, w.mono s1 fun _ y => y⟩
      · by_cases hb : b = p
        · subst hb; exact .inr (.inl hp)
        · rw [upd_ne hb] at z; exact S1.fresh b u z
theorem t_truth (ha : EJ X E a fa) (he : ∀ whole, isTrue a X.env whole = (do let v ← whole; standAt a.pos; holding [v] (truthy v)) := by intro _; rfl) : TJ X E a (tTru fa) := by
  obtain ⟨ta, qa, pa⟩ := ha
  refine ⟨_, pt_truth qa he, fun σ G H ρ Q R h => pa σ G H ρ _ R (Post.bind h fun G1 H1 x d ρ1 R1 S1 hx h1 => ?_)⟩
  have le : ∀ (vs : List V) (ds : List PyData), RpAll X.K G1 vs ds → (!ds.isEmpty) = !vs.isEmpty := fun vs ds w => by cases w <;> rfl
  cases hx with
  | non => exact ⟨false, rfl, Post.done R1 h1 rfl⟩
  | bl k => exact ⟨k, rfl, Post.done R1 h1 rfl⟩
  | int i => exact ⟨i != 0, rfl, Post.done R1 h1 rfl⟩
  | str _ => exact h1.elim
  | lst w1 w2 => exact ⟨_, .inl ⟨_, SqL.of (R1.gh _ _ w1), rfl⟩, Post.done R1 h1 (le _ _ w2).symm⟩
  | tup w1 w2 => exact ⟨_, .inr (.inl ⟨_, Same.seqT R1.gh w1, rfl⟩), Post.done R1 h1 (le _ _ w2).symm⟩
  | scr _ => exact h1.elim
  | dic _ _ _ => exact h1.elim
  | dit _ _ _ => exact h1.elim
  | rng _ => exact h1.elim
  | fup _ _ => exact h1.elim
  | exn _ _ _ _ => exact h1.elim
  | exz _ _ => exact h1.elim
theorem t_not (ha : TJ X E a tA) : TJ X E (.UnaryOp .Not a pos) (tNotD tA) := by
  obtain ⟨ta, qa, pa⟩ := ha
  exact ⟨_, pt_not qa, fun σ G H ρ Q R h => pa σ G H ρ _ R (Post.bind h fun G1 H1 x d ρ1 R1 S1 hx h1 => Post.done R1 h1 (by rw [hx]))⟩
theorem w_pt (h : WJ X E a tA) : TJ X E a tA := by
  obtain ⟨t, q, p⟩ := h
  exact ⟨t, q.pt, p⟩
theorem w_or1 (ha : TJ X E a tA) : WJ X E (.BoolOp .Or [a] pos) tA := by
  obtain ⟨ta, qa, pa⟩ := ha
  exact ⟨_, pw_or1 qa, pa⟩
theorem w_or (ha : TJ X E a tA) (hb : WJ X E (.BoolOp .Or (b :: es) pos) tB) : WJ X E (.BoolOp .Or (a :: b :: es) pos) (tOrD tA tB) := by
  obtain ⟨ta, qa, pa⟩ := ha
  obtain ⟨tb, qb, pb⟩ := hb
  refine ⟨_, pw_or qa qb, fun σ G H ρ Q R h => pa σ G H ρ _ R (Post.bind h fun G1 H1 x d ρ1 R1 S1 hx h1 => ?_)⟩
  subst hx
  cases x with
  | true => exact iteT (Post.done R1 h1 rfl)
  | false => exact iteF (pb σ G1 H1 ρ1 Q R1 h1)
end
end DL
set_option Elab.async false
set_option linter.all false
set_option maxRecDepth 100000
set_option maxHeartbeats 4000000
namespace DL
open PySem PySem.Spec PyProof.Rows L2
variable [Td]
inductive Out where
  | nx | bk | ct
  | rt (d : PyData)
def SPost (K : PySem.W.Frag) (mg : Str → Option Value) (E : WX) (D : Ends) (σ : St) (G H : Hp) (ρ : DEnv) : Res Out → Prop
  | .ok .nx ρ' => ∀ G' H' σ', Rel K G' σ' H' ρ' → Stp G H σ ρ G' H' σ' ρ' → D.nx σ' H'
  | .ok .bk ρ' => ∀ G' H' σ', Rel K G' σ' H' ρ' → Stp G H σ ρ G' H' σ' ρ' → D.bk σ' H'
  | .ok .ct ρ' => ∀ G' H' σ', Rel K G' σ' H' ρ' → Stp G H σ ρ G' H' σ' ρ' → D.ct σ' H'
  | .ok (.rt d) ρ' => ∀ G' H' σ' v, Rel K G' σ' H' ρ' → Stp G H σ ρ G' H' σ' ρ' → Rp K G' v d → D.rt v H'
  | .err x ρ' => ∀ G' H' σ' c od, Rel K G' σ' H' ρ' → Stp G H σ ρ G' H' σ' ρ' → ErrAt K mg G' H' x c od → E c od σ' H'
  | .bad => False
theorem SPost.from {K : PySem.W.Frag} {mg : Str → Option Value} {E : WX} {D : Ends} {σ σ1 : St} {G H G1 H1 : Hp} {ρ ρ1 : DEnv} {r : Res Out} (s : Stp G H σ ρ G1 H1 σ1 ρ1) (h : SPost K mg E D σ G H ρ r) : SPost K mg E D σ1 G1 H1 ρ1 r := by
  cases r with
  | ok a ρ' =>
    cases a with
    | nx => exact fun G' H' σ' R S => h G' H' σ' R (s.trans S)
    | bk => exact fun G' H' σ' R S => h G' H' σ' R (s.trans S)
    | ct => exact fun G' H' σ' R S => h G' H' σ' R (s.trans S)
    | rt d => exact fun G' H' σ' v R S q => h G' H' σ' v R (s.trans S) q
  | err x ρ' => exact fun G' H' σ' c od R S q => h G' H' σ' c od R (s.trans S) q
  | bad => exact h
/-- an expression, then what follows -/
theorem SPost.bind {α γ : Type} {K : PySem.W.Frag} {mg : Str → Option Value} {E : WX} {rep1 : Hp → γ → α → Prop} {D : Ends} {σ : St} {G H : Hp} {ρ : DEnv} {Q1 : γ → Hp → Prop} {r : Res α} {k : α → DEnv → Res Out}
    (h : SPost K mg E D σ G H ρ (r.bind k))
    (f : ∀ G1 H1 x a ρ1, Rel K G1 σ H1 ρ1 → Stp G H σ ρ G1 H1 σ ρ1 → rep1 G1 x a → SPost K mg E D σ G1 H1 ρ1 (k a ρ1) → Q1 x H1) : Post K mg E rep1 σ G H ρ Q1 r := by
  cases r with
  | ok a ρ' => exact fun G' H' v R S q => f G' H' v a ρ' R S q (SPost.from S h)
  | err x ρ' => exact fun G' H' c od R S q => h G' H' σ c od R S q
  | bad => exact h
section
variable (X : Cx) (E : WX)
structure SJ (st : Stmt) (f : DEnv → Res Out) : Prop where
  ex : ∃ t : TS, PS X st t ∧ ∀ (σ : St) (G H : Hp) (ρ : DEnv) (D : Ends), Rel X.K G σ H ρ → SPost X.K X.mg E D σ G H ρ (f ρ) → t D σ H
structure BJ (sts : List Stmt) (f : DEnv → Res Out) : Prop where
  ex : ∃ t : TS, PSs X sts t ∧ ∀ (σ : St) (G H : Hp) (ρ : DEnv) (D : Ends), Rel X.K G σ H ρ → SPost X.K X.mg E D σ G H ρ (f ρ) → t D σ H
/-- what is wanted behind a target's store -/
def GPost (K : PySem.W.Frag) (σ : St) (G H : Hp) (ρ : DEnv) (is : List Nat) (Q : St → Hp → Prop) : Option DEnv → Prop
  | some ρ' => ∀ G' H' σ', Rel K G' σ' H' ρ' → Stp G H σ ρ G' H' σ' ρ' → (∀ j, j ∉ is → σ'[j]? = σ[j]?) → Q σ' H'
  | none => False
structure GJ (tg : Expr) (is : List Nat) (f : PyData → DEnv → Option DEnv) : Prop where
  ex : ∃ g : TG, PG X tg g ∧ ∀ (σ : St) (G H : Hp) (ρ : DEnv) (x : V) (d : PyData) (Q : St → Hp → Prop), Rel X.K G σ H ρ → Rp X.K G x d → GPost X.K σ G H ρ is Q (f d ρ) → g x σ H Q
structure GsJ (tgs : List Expr) (is : List Nat) (f : List PyData → DEnv → Option DEnv) : Prop where
  ex : ∃ g : TGs, PGs X tgs g ∧ ∀ (σ : St) (G H : Hp) (ρ : DEnv) (xs : List V) (ds : List PyData) (Q : St → Hp → Prop), Rel X.K G σ H ρ → RpAll X.K G xs ds → GPost X.K σ G H ρ is Q (f ds ρ) → g xs σ H Q
/-- new objects alone -/
def Grow (K : PySem.W.Frag) (G H G' H' : Hp) : Prop := ∀ (σ : St) (ρ : DEnv), Rel K G σ H ρ → Rel K G' σ H' ρ ∧ Stp G H σ ρ G' H' σ ρ
def Walks (K : PySem.W.Frag) (J : It) (G : Hp) (ds : List PyData) : Prop := ∀ (i : Nat) (G1 H1 : Hp), Same G G1 → Same G1 H1 →
  (∀ d, ds[i]? = some d → J.go i H1 ∧ ∀ x H2, J.yld i H1 x H2 → ∃ G2, Grow K G1 H1 G2 H2 ∧ Rp K G2 x d) ∧ (ds.length ≤ i → J.stop i H1)
def IPost (K : PySem.W.Frag) (mg : Str → Option Value) (E : WX) (σ : St) (G H : Hp) (ρ : DEnv) (R : It → Hp → Prop) : Res (List PyData) → Prop
  | .ok ds ρ' => ∀ G' H' J, Rel K G' σ H' ρ' → Stp G H σ ρ G' H' σ ρ' → Walks K J G' ds → R J H'
  | .err x ρ' => ∀ G' H' c od, Rel K G' σ H' ρ' → Stp G H σ ρ G' H' σ ρ' → ErrAt K mg G' H' x c od → E c od σ H'
  | .bad => False
structure IJ (tg iter : Expr) (f : DEnv → Res (List PyData)) : Prop where
  ex : ∃ wi : TI, PI X tg iter wi ∧ ∀ (σ : St) (G H : Hp) (ρ : DEnv) (R : It → Hp → Prop), Rel X.K G σ H ρ → IPost X.K X.mg E σ G H ρ R (f ρ) → wi σ H R
end
theorem Grow.refl {K : PySem.W.Frag} {G H : Hp} : Grow K G H G H := fun _ _ R => ⟨R, Stp.refl⟩
def sSeq (f g : DEnv → Res Out) : DEnv → Res Out := fun ρ => match f ρ with
  | .ok .nx ρ1 => g ρ1
  | r => r
def sNx : DEnv → Res Out := fun ρ => .ok .nx ρ
def sBk : DEnv → Res Out := fun ρ => .ok .bk ρ
def sCt : DEnv → Res Out := fun ρ => .ok .ct ρ
def sRet (f : DEnv → Res PyData) : DEnv → Res Out := fun ρ => (f ρ).bind fun d ρ1 => .ok (.rt d) ρ1
def sRetN : DEnv → Res Out := fun ρ => .ok (.rt .none) ρ
def sDrop (f : DEnv → Res PyData) : DEnv → Res Out := fun ρ => (f ρ).bind fun _ ρ1 => .ok .nx ρ1
def sIf (c : DEnv → Res Bool) (f g : DEnv → Res Out) : DEnv → Res Out := fun ρ => (c ρ).bind fun b ρ1 => if b = true then f ρ1 else g ρ1
/-- x = d -/
def setV (i : Nat) (d : PyData) (ρ : DEnv) : Option DEnv := match ρ[i]? with
  | some (.io _) => none
  | some _ => some (ρ.set i (.val d))
  | none => none
def setO (i : Nat) (o : OD) (ρ : DEnv) : Option DEnv := match ρ[i]? with
  | some (.io _) => none
  | some _ => some (ρ.set i (.own o))
  | none => none
def nxOf (o : Option DEnv) : Res Out := match o with
  | some ρ => .ok .nx ρ
  | none => .bad
@[simp] theorem nxOf_some (ρ : DEnv) : nxOf (some ρ) = .ok .nx ρ := rfl
def sAsg (f : DEnv → Res PyData) (g : PyData → DEnv → Option DEnv) : DEnv → Res Out := fun ρ => (f ρ).bind fun d ρ1 => nxOf (g d ρ1)
def sNew (i : Nat) (f : DEnv → Res OD) : DEnv → Res Out := fun ρ => (f ρ).bind fun o ρ1 => nxOf (setO i o ρ1)
def gNilD : List PyData → DEnv → Option DEnv := fun ds ρ => match ds with
  | [] => some ρ
  | _ => none
def gConsD (g : PyData → DEnv → Option DEnv) (gs : List PyData → DEnv → Option DEnv) : List PyData → DEnv → Option DEnv := fun ds ρ => match ds with
  | d :: r => (g d ρ).bind fun ρ1 => gs r ρ1
  | [] => none
def gTupD (n : Nat) (gs : List PyData → DEnv → Option DEnv) : PyData → DEnv → Option DEnv := fun d ρ => match d with
  | .tuple ds => if ds.length = n then gs ds ρ else none
  | _ => none
/-- a list that is held is given away -/
def frzC (i : Nat) (ρ : DEnv) : DEnv := match ρ[i]? with
  | some (.own (.lst ds)) => ρ.set i (.val (.list ds))
  | _ => ρ
def sFrz (i : Nat) (f : DEnv → Res Out) : DEnv → Res Out := fun ρ => f (frzC i ρ)
def forL (g : PyData → DEnv → Option DEnv) (fb : DEnv → Res Out) : List PyData → DEnv → Res Out
  | [], ρ => .ok .nx ρ
  | d :: ds, ρ => match g d ρ with
    | none => .bad
    | some ρ1 => match fb ρ1 with
      | .ok .nx ρ2 => forL g fb ds ρ2
      | .ok .ct ρ2 => forL g fb ds ρ2
      | .ok .bk ρ2 => .ok .nx ρ2
      | r => r
def sFor (fi : DEnv → Res (List PyData)) (g : PyData → DEnv → Option DEnv) (fb : DEnv → Res Out) : DEnv → Res Out := fun ρ => (fi ρ).bind fun ds ρ1 => forL g fb ds ρ1
theorem getset {α : Type} {l : List α} {i j : Nat} {x : α} {y : α} (h : (l.set i x)[j]? = some y) : (j = i ∧ y = x ∧ i < l.length) ∨ (j ≠ i ∧ l[j]? = some y) := by
  by_cases e : j = i
  · subst e
    have hl : j < (l.set j x).length := (List.getElem?_eq_some_iff.mp h).1
    rw [List.length_set] at hl
    rw [List.getElem?_set_self hl] at h
    exact .inl ⟨rfl, (Option.some.inj h).symm, hl⟩
  · rw [List.getElem?_set_ne (Ne.symm e)] at h
    exact .inr ⟨e, h⟩
theorem setself {α : Type} {l : List α} {i : Nat} {x y : α} (h : l[i]? = some y) : (l.set i x)[i]? = some x := List.getElem?_set_self (List.getElem?_eq_some_iff.mp h).1
section
variable {K : PySem.W.Frag} {G H : Hp} {σ : St} {ρ : DEnv} {i : Nat} {c0 : Cell}
theorem Rel.setVal (R : Rel K G σ H ρ) (h0 : ρ[i]? = some c0) (hio : ∀ o, c0 ≠ .io o) {x : V} {d : PyData} (hx : Rp K G x d) :
    Rel K G (σ.set i (some x)) H (ρ.set i (.val d)) ∧ Stp G H σ ρ G H (σ.set i (some x)) (ρ.set i (.val d)) := by
  obtain ⟨v0, hv0, _⟩ := R.cell i c0 h0
  refine ⟨⟨R.gh, by rw [List.length_set, List.length_set]; exact R.len, fun j c e => ?_, fun j k p hjk a b => ?_, R.tab⟩, ⟨Same.refl _, fun _ _ h _ _ => h, fun _ h => h, fun _ _ h => .inl h, fun b => ?_, fun j o e => ?_, fun j o e => ?_, by first | rfl | simp⟩⟩
  · rcases getset e with ⟨rfl, rfl, _⟩ | ⟨ne, e⟩
    · exact ⟨some x, setself hv0, x, rfl, hx⟩
    · rw [List.getElem?_set_ne (Ne.symm ne)]
      exact R.cell j c e
  · obtain ⟨a1, c1, a2, a3⟩ := a
    obtain ⟨b1, c2, b2, b3⟩ := b
    rcases getset a2 with ⟨rfl, rfl, _⟩ | ⟨ne, e⟩
    · cases a3
    · rcases getset b2 with ⟨rfl, rfl, _⟩ | ⟨ne2, e2⟩
      · cases b3
      · rw [List.getElem?_set_ne (Ne.symm ne)] at a1
        rw [List.getElem?_set_ne (Ne.symm ne2)] at b1
        exact R.sep j k p hjk ⟨a1, c1, e, a3⟩ ⟨b1, c2, e2, b3⟩
  · rintro ⟨j, o, e, w⟩
    rcases getset e with ⟨rfl, z, _⟩ | ⟨ne, e⟩
    · cases z
    · rw [List.getElem?_set_ne (Ne.symm ne)] at w
      exact .inl ⟨j, o, e, w⟩
  · by_cases hj : j = i
    · subst hj
      rw [h0] at e
      exact absurd (Option.some.inj e) (hio o)
    · rw [List.getElem?_set_ne (Ne.symm hj), List.getElem?_set_ne (Ne.symm hj)]
      exact ⟨rfl, o, e⟩
  · rcases getset e with ⟨rfl, z, _⟩ | ⟨ne, e⟩
    · cases z
    · exact ⟨o, e⟩
theorem Rel.setOwn (R : Rel K G σ H ρ) (h0 : ρ[i]? = some c0) (hio : ∀ o, c0 ≠ .io o) {p : Addr} {o : OD} (hg : G p = none) (ho : OwnAt K G H p o) (n1 : ¬ OwnL σ ρ p) (n2 : ¬ OwnI σ ρ p) :
    Rel K G (σ.set i (some (.ref p))) H (ρ.set i (.own o)) := by
  obtain ⟨v0, hv0, _⟩ := R.cell i c0 h0
  have nat : ∀ j, ¬ At σ ρ j p := fun j ⟨a, c, e, w⟩ => by
    cases c with
    | own o => exact n1 ⟨j, o, e, a⟩
    | io o => exact n2 (.inl ⟨j, o, e, a⟩)
    | val _ => cases w
    | fn _ _ => cases w
    | nd _ => cases w
    | un => cases w
  refine ⟨R.gh, by rw [List.length_set, List.length_set]; exact R.len, fun j c e => ?_, fun j k q hjk a b => ?_, R.tab⟩
  · rcases getset e with ⟨rfl, rfl, _⟩ | ⟨ne, e⟩
    · exact ⟨_, setself hv0, p, rfl, hg, ho⟩
    · rw [List.getElem?_set_ne (Ne.symm ne)]
      exact R.cell j c e
  · obtain ⟨a1, c1, a2, a3⟩ := a
    obtain ⟨b1, c2, b2, b3⟩ := b
    rcases getset a2 with ⟨rfl, rfl, _⟩ | ⟨ne, e⟩
    · rcases getset b2 with ⟨rfl, rfl, _⟩ | ⟨ne2, e2⟩
      · exact hjk rfl
      · rw [setself hv0] at a1
        cases a1
        rw [List.getElem?_set_ne (Ne.symm ne2)] at b1
        exact nat k ⟨b1, c2, e2, b3⟩
    · rw [List.getElem?_set_ne (Ne.symm ne)] at a1
      rcases getset b2 with ⟨rfl, rfl, _⟩ | ⟨ne2, e2⟩
      · rw [setself hv0] at b1
        cases b1
        exact nat j ⟨a1, c1, e, a3⟩
      · rw [List.getElem?_set_ne (Ne.symm ne2)] at b1
        exact R.sep j k q hjk ⟨a1, c1, e, a3⟩ ⟨b1, c2, e2, b3⟩
theorem Stp.setOwn {G0 H0 : Hp} {ρ0 : DEnv} (S : Stp G0 H0 σ ρ0 G H σ ρ) (h0 : ρ[i]? = some c0) (hv : ∃ v0, σ[i]? = some v0) (hio : ∀ o, c0 ≠ .io o) {p : Addr} {o : OD} (hp : H0 p = none) :
    Stp G0 H0 σ ρ0 G H (σ.set i (some (.ref p))) (ρ.set i (.own o)) := by
  obtain ⟨v0, hv0⟩ := hv
  refine ⟨S.same, S.frame, S.keep, S.fresh, fun b => ?_, fun j o' e => ?_, fun j o' e => ?_, by rw [List.length_set]⟩
  · rintro ⟨j, o', e, w⟩
    rcases getset e with ⟨rfl, z, _⟩ | ⟨ne, e⟩
    · rw [setself hv0] at w
      cases w
      exact .inr hp
    · rw [List.getElem?_set_ne (Ne.symm ne)] at w
      exact S.ownl b ⟨j, o', e, w⟩
  · obtain ⟨e1, o2, e2⟩ := S.io j o' e
    by_cases hj : j = i
    · subst hj
      rw [h0] at e2
      exact absurd (Option.some.inj e2) (hio o2)
    · rw [List.getElem?_set_ne (Ne.symm hj), List.getElem?_set_ne (Ne.symm hj)]
      exact ⟨e1, o2, e2⟩
  · rcases getset e with ⟨rfl, z, _⟩ | ⟨ne, e⟩
    · cases z
    · exact S.oi j o' e
/-- what a list that is held becomes when it is given away -/
theorem Rel.frz (R : Rel K G σ H ρ) {ds : List PyData} (h0 : ρ[i]? = some (.own (.lst ds))) : ∃ G', Rel K G' σ H (ρ.set i (.val (.list ds))) ∧ Stp G H σ ρ G' H σ (ρ.set i (.val (.list ds))) := by
  obtain ⟨v0, hv0, p, rfl, hg, vs, hv, hd⟩ := R.cell i _ h0
  have s1 : Same G (upd G p (.lst vs)) := same_upd hg
  have apart : ∀ j c b, j ≠ i → ρ[j]? = some c → c.isOwn = true → σ[j]? = some (some (.ref b)) → b ≠ p := fun j c b ne e w a z => R.sep j i p ne ⟨by rw [a, z], c, e, w⟩ ⟨hv0, _, h0, rfl⟩
  refine ⟨upd G p (.lst vs), ⟨fun b u z => ?_, by rw [List.length_set]; exact R.len, fun j c e => ?_, fun j k q hjk a b => ?_, R.tab.frz hg (R.tab.ne fun ps e => by rw [hv] at e; cases e)⟩, ⟨s1, fun _ _ h _ _ => h, fun _ h => h, fun b u z => ?_, fun b => ?_, fun j o e => ?_, fun j o e => ?_, by first | rfl | simp⟩⟩
  · by_cases hb : b = p
    · subst hb; rw [upd_same] at z; cases z; exact hv
    · rw [upd_ne hb] at z; exact R.gh b u z
  · rcases getset e with ⟨rfl, rfl, _⟩ | ⟨ne, e⟩
    · exact ⟨_, hv0, _, rfl, .lst upd_same (RpAll.mono s1 hd)⟩
    · obtain ⟨v, e1, q⟩ := R.cell j c e
      refine ⟨v, e1, ?_⟩
      cases c with
      | fn _ _ => obtain ⟨x, e2, q⟩ := q; exact ⟨x, e2, ClM.mono s1 q⟩
      | nd _ => obtain ⟨x, e2, q⟩ := q; exact ⟨x, e2, NdM.mono s1 q⟩
      | un => trivial
      | val d => obtain ⟨x, e2, q⟩ := q; exact ⟨x, e2, Rp.mono s1 q⟩
      | own o => obtain ⟨b, e2, g, q⟩ := q; exact ⟨b, e2, by rw [upd_ne (apart j _ b ne e rfl (e2 ▸ e1))]; exact g, q.mono s1 fun _ y => y⟩
      | io o => obtain ⟨b, e2, g, q⟩ := q; exact ⟨b, e2, by rw [upd_ne (apart j _ b ne e rfl (e2 ▸ e1))]; exact g, q.mono s1 fun _ y => y⟩
  · obtain ⟨a1, c1, a2, a3⟩ := a
    obtain ⟨b1, c2, b2, b3⟩ := b
    rcases getset a2 with ⟨rfl, rfl, _⟩ | ⟨ne, e⟩
    · cases a3
    · rcases getset b2 with ⟨rfl, rfl, _⟩ | ⟨ne2, e2⟩
      · cases b3
      · exact R.sep j k q hjk ⟨a1, c1, e, a3⟩ ⟨b1, c2, e2, b3⟩
  · by_cases hb : b = p
    · subst hb; exact .inr (.inr ⟨i, _, h0, hv0⟩)
    · rw [upd_ne hb] at z; exact .inl z
  · rintro ⟨j, o, e, w⟩
    rcases getset e with ⟨rfl, z, _⟩ | ⟨ne, e⟩
    · cases z
    · exact .inl ⟨j, o, e, w⟩
  · by_cases hj : j = i
    · subst hj; rw [h0] at e; cases e
    · rw [List.getElem?_set_ne (Ne.symm hj)]; exact ⟨rfl, o, e⟩
  · rcases getset e with ⟨rfl, z, _⟩ | ⟨ne, e⟩
    · cases z
    · exact ⟨o, e⟩
end
section
variable {X : Cx} {E : WX} {a b c e : Expr} {es : List Expr} {st : Stmt} {rest sts sts2 : List Stmt} {fa fb : DEnv → Res PyData} {ff : DEnv → Res OD} {tA : DEnv → Res Bool} {fs fi : DEnv → Res (List PyData)} {f g : DEnv → Res Out} {gd : PyData → DEnv → Option DEnv} {pos : Pos} {is js : List Nat}
theorem b_nil : BJ X E [] sNx := ⟨_, pss_nil, fun σ G H ρ D R h => h G H σ R Stp.refl⟩
theorem b_one (h : SJ X E st f) : BJ X E [st] f := by
  obtain ⟨t, q, p⟩ := h
  exact ⟨t, pss_one q, p⟩
theorem b_cons (h : SJ X E st f) (h2 : BJ X E rest g) : BJ X E (st :: rest) (sSeq f g) := by
  obtain ⟨t, q, p⟩ := h
  obtain ⟨t2, q2, p2⟩ := h2
  refine ⟨_, pss_cons q q2, fun σ G H ρ D R h => p σ G H ρ _ R ?_⟩
  unfold sSeq at h
  cases r : f ρ with
  | bad => rw [r] at h; exact h
  | err x ρ' => rw [r] at h; exact h
  | ok o ρ' =>
    rw [r] at h
    cases o with
    | nx => exact fun G' H' σ' R' S' => p2 σ' G' H' ρ' D R' (SPost.from S' h)
    | bk => exact h
    | ct => exact h
    | rt d => exact h
theorem s_ret (h : EJ X E e fa) : SJ X E (.Return (some e) pos) (sRet fa) := by
  obtain ⟨t, q, p⟩ := h
  exact ⟨_, ps_ret q, fun σ G H ρ D R h => p σ G H ρ _ R (SPost.bind h fun G1 H1 x d ρ1 R1 S1 hx h1 => h1 G1 H1 σ x R1 Stp.refl hx)⟩
theorem s_if (hc : TJ X E c tA) (ha : BJ X E sts f) (hb : BJ X E sts2 g) : SJ X E (.If c sts sts2 pos) (sIf tA f g) := by
  obtain ⟨tc, qc, pc⟩ := hc
  obtain ⟨ta, qa, pa⟩ := ha
  obtain ⟨tb, qb, pb⟩ := hb
  refine ⟨_, ps_if qc qa qb, fun σ G H ρ D R h => pc σ G H ρ _ R (SPost.bind h fun G1 H1 x d ρ1 R1 S1 hx h1 => ?_)⟩
  subst hx
  cases x with
  | true => exact iteT (pa σ G1 H1 ρ1 D R1 h1)
  | false => exact iteF (pb σ G1 H1 ρ1 D R1 h1)
theorem setoff {σ : St} (i : Nat) (v : Option V) : ∀ j, j ∉ [i] → (σ.set i v)[j]? = σ[j]? := fun j hj => List.getElem?_set_ne fun z => hj (by simp [z])
theorem g_name {x : Str} (i : Nat) (h : PG X (.Name x pos) (gName i)) : GJ X (.Name x pos) [i] (setV i) := by
  refine ⟨_, h, fun σ G H ρ x d Q R hx h => ?_⟩
  unfold setV at h
  cases q : ρ[i]? with
  | none => rw [q] at h; exact h.elim
  | some cl =>
    rw [q] at h
    cases cl with
    | io o => exact h.elim
    | fn _ _ => obtain ⟨r, s⟩ := R.setVal q (fun _ z => nomatch z) hx; exact h G H _ r s (setoff i _)
    | nd _ => obtain ⟨r, s⟩ := R.setVal q (fun _ z => nomatch z) hx; exact h G H _ r s (setoff i _)
    | un => obtain ⟨r, s⟩ := R.setVal q (fun _ z => nomatch z) hx; exact h G H _ r s (setoff i _)
    | val _ => obtain ⟨r, s⟩ := R.setVal q (fun _ z => nomatch z) hx; exact h G H _ r s (setoff i _)
    | own _ => obtain ⟨r, s⟩ := R.setVal q (fun _ z => nomatch z) hx; exact h G H _ r s (setoff i _)
theorem gs_nil (h : PGs X [] gNil := by exact pgs_nil) : GsJ X [] [] gNilD := by
  refine ⟨_, h, fun σ G H ρ xs ds Q R hx h => ?_⟩
  cases hx with
  | nil => exact ⟨rfl, h G H σ R Stp.refl fun _ _ => rfl⟩
  | cons _ _ => exact h.elim
theorem gs_cons {gs : List PyData → DEnv → Option DEnv} (hp : ∀ t u, PG X a t → PGs X es u → PGs X (a :: es) (gCons t u)) (ha : GJ X a is gd) (hb : GsJ X es js gs) : GsJ X (a :: es) (is ++ js) (gConsD gd gs) := by
  obtain ⟨ta, qa, pa⟩ := ha
  obtain ⟨tb, qb, pb⟩ := hb
  refine ⟨_, hp _ _ qa qb, fun σ G H ρ xs ds Q R hx h => ?_⟩
  cases hx with
  | nil => exact h.elim
  | cons h1 h2 =>
    rename_i v vs d ds
    refine ⟨v, vs, rfl, pa σ G H ρ v d _ R h1 ?_⟩
    have h : GPost X.K σ G H ρ (is ++ js) Q ((gd d ρ).bind fun ρ1 => gs ds ρ1) := h
    cases r : gd d ρ with
    | none => rw [r] at h; exact h
    | some ρ1 =>
      rw [r] at h
      intro G' H' σ' R' S' O'
      refine pb σ' G' H' ρ1 vs ds Q R' (RpAll.mono S'.same h2) ?_
      have h : GPost X.K σ G H ρ (is ++ js) Q (gs ds ρ1) := h
      cases r2 : gs ds ρ1 with
      | none => rw [r2] at h; exact h
      | some ρ2 => rw [r2] at h; exact fun G2 H2 σ2 R2 S2 O2 => h G2 H2 σ2 R2 (S'.trans S2) fun j hj => (O2 j fun z => hj (List.mem_append_right _ z)).trans (O' j fun z => hj (List.mem_append_left _ z))
theorem g_tup {gs : List PyData → DEnv → Option DEnv} {k n : Nat} (hl : es.length = n) (hp : ∀ t, PGs X es t → PG X (.Tuple es k pos) (gTup X.K n t)) (h : GsJ X es is gs) : GJ X (.Tuple es k pos) is (gTupD n gs) := by
  obtain ⟨t, q, p⟩ := h
  refine ⟨_, hp t q, fun σ G H ρ x d Q R hx h => ?_⟩
  unfold gTupD at h
  cases hx with
  | tup h1 h2 =>
    rename_i a xs ds
    have h : GPost X.K σ G H ρ is Q (if ds.length = n then gs ds ρ else none) := h
    by_cases e : ds.length = n
    · rw [if_pos e] at h
      exact ⟨a, xs, rfl, Same.seqT R.gh h1, by rw [h2.len]; exact e, p σ G H ρ xs ds Q R h2 h⟩
    · rw [if_neg e] at h
      exact h.elim
  | _ => exact h.elim
theorem s_asg (he : EJ X E e fa) (hg : GJ X a is gd) (hp : ∀ (te : TE) (g : TG), PE X e te → PG X a g → PS X (.Assign [a] e pos) (tAsg te g)) : SJ X E (.Assign [a] e pos) (sAsg fa gd) := by
  obtain ⟨t, q, p⟩ := he
  obtain ⟨t2, q2, p2⟩ := hg
  refine ⟨_, hp t t2 q q2, fun σ G H ρ D R h => p σ G H ρ _ R (SPost.bind h fun G1 H1 x d ρ1 R1 S1 hx h1 => p2 σ G1 H1 ρ1 x d _ R1 hx ?_)⟩
  cases r : gd d ρ1 with
  | none => rw [r] at h1; exact h1
  | some ρ2 => rw [r] at h1; exact fun G' H' σ' R' S' _ => h1 G' H' σ' R' S'
/-- x = a new object: the reading -/
theorem new_read {K : PySem.W.Frag} {mg : Str → Option Value} {t : TE} (i : Nat) (p : ∀ (σ : St) (G H : Hp) (ρ : DEnv) (Q : VK), Rel K G σ H ρ → FPost K mg E σ G H ρ Q (ff ρ) → t σ H Q) {σ : St} {G H : Hp} {ρ : DEnv} {D : Ends} (R : Rel K G σ H ρ)
    (h : SPost K mg E D σ G H ρ (sNew i ff ρ)) : tAsg t (gName i) D σ H := by
  refine p σ G H ρ _ R ?_
  have h : SPost K mg E D σ G H ρ ((ff ρ).bind fun o ρ1 => nxOf (setO i o ρ1)) := h
  cases r : ff ρ with
  | bad => rw [r] at h; exact h
  | err x ρ' => rw [r] at h; exact fun G' H' c od R S q => h G' H' σ c od R S q
  | ok o ρ1 =>
    rw [r] at h
    intro G1 H1 p R1 S1 hg ho hp n1 n2
    show D.nx (σ.set i (some (.ref p))) H1
    have h : SPost K mg E D σ G H ρ (nxOf (setO i o ρ1)) := h
    unfold setO at h
    cases q : ρ1[i]? with
    | none => rw [q] at h; exact h.elim
    | some cl =>
      rw [q] at h
      have hv : ∃ v0, σ[i]? = some v0 := by obtain ⟨v0, e0, _⟩ := R1.cell i cl q; exact ⟨v0, e0⟩
      cases cl with
      | io o => exact h.elim
      | fn _ _ => exact h G1 H1 _ (R1.setOwn q (fun _ z => nomatch z) hg ho n1 n2) (S1.setOwn q hv (fun _ z => nomatch z) hp)
      | nd _ => exact h G1 H1 _ (R1.setOwn q (fun _ z => nomatch z) hg ho n1 n2) (S1.setOwn q hv (fun _ z => nomatch z) hp)
      | un => exact h G1 H1 _ (R1.setOwn q (fun _ z => nomatch z) hg ho n1 n2) (S1.setOwn q hv (fun _ z => nomatch z) hp)
      | val _ => exact h G1 H1 _ (R1.setOwn q (fun _ z => nomatch z) hg ho n1 n2) (S1.setOwn q hv (fun _ z => nomatch z) hp)
      | own _ => exact h G1 H1 _ (R1.setOwn q (fun _ z => nomatch z) hg ho n1 n2) (S1.setOwn q hv (fun _ z => nomatch z) hp)
theorem s_new {x : Str} {p1 : Pos} (i : Nat) (he : FJ X E e ff) (hp : ∀ te : TE, PE X e te → PS X (.Assign [.Name x p1] e pos) (tAsg te (gName i))) : SJ X E (.Assign [.Name x p1] e pos) (sNew i ff) := by
  obtain ⟨t, q, p⟩ := he
  exact ⟨_, hp t q, fun σ G H ρ D R h => new_read i p R h⟩
theorem s_frz (i : Nat) (h : SJ X E st f) : SJ X E st (sFrz i f) := by
  obtain ⟨t, q, p⟩ := h
  refine ⟨t, q, fun σ G H ρ D R h => ?_⟩
  have h : SPost X.K X.mg E D σ G H ρ (f (frzC i ρ)) := h
  unfold frzC at h
  cases e : ρ[i]? with
  | none => rw [e] at h; exact p σ G H ρ D R h
  | some c =>
    cases c with
    | fn _ _ => rw [e] at h; exact p σ G H ρ D R h
    | nd _ => rw [e] at h; exact p σ G H ρ D R h
    | un => rw [e] at h; exact p σ G H ρ D R h
    | val _ => rw [e] at h; exact p σ G H ρ D R h
    | io _ => rw [e] at h; exact p σ G H ρ D R h
    | own o =>
      cases o with
      | dk _ => rw [e] at h; exact p σ G H ρ D R h
      | dt _ => rw [e] at h; exact p σ G H ρ D R h
      | ins _ _ => rw [e] at h; exact p σ G H ρ D R h
      | dn _ => rw [e] at h; exact p σ G H ρ D R h
      | ts _ _ _ => rw [e] at h; exact p σ G H ρ D R h
      | db _ => rw [e] at h; exact p σ G H ρ D R h
      | lst ds =>
        rw [e] at h
        obtain ⟨G', R', S'⟩ := R.frz e
        exact p σ G' H _ D R' (SPost.from S' h)
theorem s_for {tg iter : Expr} {body : List Stmt} (hp : ∀ wi gt tb, PI X tg iter wi → PG X tg gt → PSs X body tb → PS X (.For tg iter body [] pos) (tFor wi gt tb)) (hi : IJ X E tg iter fi) (hg : GJ X tg is gd) (hb : BJ X E body f) : SJ X E (.For tg iter body [] pos) (sFor fi gd f) := by
  obtain ⟨wi, qi, pi⟩ := hi
  obtain ⟨gt, qg, pg⟩ := hg
  obtain ⟨tb, qb, pb⟩ := hb
  refine ⟨_, hp _ _ _ qi qg qb, fun σ0 G0 H0 ρ0 D R h => pi σ0 G0 H0 ρ0 _ R ?_⟩
  have h : SPost X.K X.mg E D σ0 G0 H0 ρ0 ((fi ρ0).bind fun ds ρ1 => forL gd f ds ρ1) := h
  cases r : fi ρ0 with
  | bad => rw [r] at h; exact h
  | err x ρ' => rw [r] at h; exact fun G' H' c od R S q => h G' H' σ0 c od R S q
  | ok ds ρ1 =>
    rw [r] at h
    intro G1 H1 J R1 S1 hw
    have h : SPost X.K X.mg E D σ0 G0 H0 ρ0 (forL gd f ds ρ1) := h
    refine ⟨fun i m σ H => ∃ G ρ, Rel X.K G σ H ρ ∧ Same G1 G ∧ m = ds.length - i ∧ i ≤ ds.length ∧ SPost X.K X.mg E D σ G H ρ (forL gd f (ds.drop i) ρ),
      ⟨ds.length, G1, ρ1, R1, Same.refl _, by omega, Nat.zero_le _, SPost.from S1 (by rw [List.drop_zero]; exact h)⟩, fun i m σ H hW => ?_⟩
    obtain ⟨G, ρ, R2, s2, rfl, hle, h2⟩ := hW
    obtain ⟨w1, w2⟩ := hw i G H s2 R2.gh
    by_cases hi : i < ds.length
    · have hd : ds.drop i = ds[i] :: ds.drop (i + 1) := List.drop_eq_getElem_cons hi
      rw [hd] at h2
      obtain ⟨go, yl⟩ := w1 ds[i] (List.getElem?_eq_getElem hi)
      refine .inr ⟨go, fun σ' H' => ∃ G ρ, Rel X.K G σ' H' ρ ∧ Same G1 G ∧ SPost X.K X.mg E D σ' G H' ρ (forL gd f (ds.drop (i + 1)) ρ), fun σ' H' hN => ?_, fun x H' hy => ?_⟩
      · obtain ⟨G', ρ', R', s', h'⟩ := hN
        exact ⟨ds.length - (i + 1), by omega, G', ρ', R', s', rfl, hi, h'⟩
      · obtain ⟨G3, gr, hx⟩ := yl x H' hy
        obtain ⟨R3, S3⟩ := gr σ ρ R2
        refine pg σ G3 H' ρ x ds[i] _ R3 hx ?_
        have h3 : SPost X.K X.mg E D σ G3 H' ρ (forL gd f (ds[i] :: ds.drop (i + 1)) ρ) := SPost.from S3 h2
        unfold forL at h3
        cases q : gd ds[i] ρ with
        | none => rw [q] at h3; exact h3
        | some ρ4 =>
          rw [q] at h3
          intro G4 H4 σ4 R4 S4 _
          refine pb σ4 G4 H4 ρ4 _ R4 ?_
          cases q5 : f ρ4 with
          | bad => simp only [q5] at h3; exact h3
          | err x ρ5 => simp only [q5] at h3; exact SPost.from S4 h3
          | ok o ρ5 =>
            cases o with
            | nx => simp only [q5] at h3; exact fun G5 H5 σ5 R5 S5 => ⟨G5, ρ5, R5, ((s2.trans S3.same).trans S4.same).trans S5.same, SPost.from (S4.trans S5) h3⟩
            | ct => simp only [q5] at h3; exact fun G5 H5 σ5 R5 S5 => ⟨G5, ρ5, R5, ((s2.trans S3.same).trans S4.same).trans S5.same, SPost.from (S4.trans S5) h3⟩
            | bk => simp only [q5] at h3; exact fun G5 H5 σ5 R5 S5 => h3 G5 H5 σ5 R5 (S4.trans S5)
            | rt d => simp only [q5] at h3; exact SPost.from S4 h3
    · have e : ds.drop i = [] := List.drop_eq_nil_of_le (by omega)
      rw [e] at h2
      exact .inl ⟨w2 (by omega), h2 G H σ R2 Stp.refl⟩
end
end DL
set_option Elab.async false
set_option linter.all false
set_option maxRecDepth 100000
set_option maxHeartbeats 4000000
namespace DL
open PySem PySem.Spec PyProof.Rows L2
variable [Td]
def Cell.isArg : Cell → Bool
  | .fn _ _ => true
  | .val _ => true
  | .io _ => true
  | _ => false
/-- what a def promises: its meaning on its arguments' cells -/
def spD (K : PySem.W.Frag) (mg : Str → Option Value) (n : Nat) (den : DEnv → Res PyData) : Sp := fun vs H Q E => ∃ (G : Hp) (cs : DEnv), vs.length = n ∧ cs.all Cell.isArg = true ∧ Rel K G (vs.map some) H cs ∧ Post K mg (upE E) (Rp K) (vs.map some) G H cs Q (den cs)
def backIO : DEnv → DEnv → DEnv
  | .io _ :: cs, c :: ρ => c :: backIO cs ρ
  | c :: cs, _ :: ρ => c :: backIO cs ρ
  | cs, [] => cs
  | [], _ => []
def defD (m : Nat) (body : DEnv → Res Out) : DEnv → Res PyData := fun cs => match body (cs ++ List.replicate m .un) with
  | .ok (.rt d) ρ => .ok d (backIO cs ρ)
  | .ok .nx ρ => .ok .none (backIO cs ρ)
  | .err x ρ => .err x (backIO cs ρ)
  | _ => .bad
theorem backIO_get : ∀ (cs ρ : DEnv) (i : Nat) (c : Cell), cs.length ≤ ρ.length → (backIO cs ρ)[i]? = some c → ((∃ o, cs[i]? = some (.io o)) ∧ ρ[i]? = some c) ∨ ((∀ o, c ≠ .io o) ∧ cs[i]? = some c)
  | [], ρ, i, c, _, h => by
    cases ρ <;> simp [backIO] at h
  | c0 :: cs, [], i, c, hl, h => by simp at hl
  | c0 :: cs, r :: ρ, 0, c, hl, h => by
    cases c0 with
    | io o =>
      simp only [backIO, List.getElem?_cons_zero, Option.some.injEq] at h
      subst h
      exact .inl ⟨⟨o, rfl⟩, rfl⟩
    | fn _ _ => simp only [backIO, List.getElem?_cons_zero, Option.some.injEq] at h; subst h; exact .inr ⟨fun o z => (nomatch z), rfl⟩
    | nd _ => simp only [backIO, List.getElem?_cons_zero, Option.some.injEq] at h; subst h; exact .inr ⟨fun o z => (nomatch z), rfl⟩
    | un => simp only [backIO, List.getElem?_cons_zero, Option.some.injEq] at h; subst h; exact .inr ⟨fun o z => (nomatch z), rfl⟩
    | val d => simp only [backIO, List.getElem?_cons_zero, Option.some.injEq] at h; subst h; exact .inr ⟨fun o z => (nomatch z), rfl⟩
    | own d => simp only [backIO, List.getElem?_cons_zero, Option.some.injEq] at h; subst h; exact .inr ⟨fun o z => (nomatch z), rfl⟩
  | c0 :: cs, r :: ρ, i + 1, c, hl, h => by
    have hl' : cs.length ≤ ρ.length := by simpa using hl
    have h' : (backIO cs ρ)[i]? = some c := by
      cases c0 <;> simpa [backIO] using h
    simpa using backIO_get cs ρ i c hl' h'
theorem backIO_io : ∀ (cs ρ : DEnv) (i : Nat) (o : OD), cs.length ≤ ρ.length → cs[i]? = some (.io o) → (backIO cs ρ)[i]? = ρ[i]?
  | [], _, _, _, _, h => by simp at h
  | c0 :: cs, [], i, o, hl, h => by simp at hl
  | c0 :: cs, r :: ρ, 0, o, hl, h => by
    simp only [List.getElem?_cons_zero, Option.some.injEq] at h
    subst h
    rfl
  | c0 :: cs, r :: ρ, i + 1, o, hl, h => by
    have hl' : cs.length ≤ ρ.length := by simpa using hl
    have := backIO_io cs ρ i o hl' (by simpa using h)
    cases c0 <;> simpa [backIO] using this
theorem backIO_len : ∀ (cs ρ : DEnv), cs.length ≤ ρ.length → (backIO cs ρ).length = cs.length
  | [], ρ, _ => by cases ρ <;> rfl
  | c0 :: cs, [], hl => by simp at hl
  | c0 :: cs, r :: ρ, hl => by
    have := backIO_len cs ρ (by simpa using hl)
    cases c0 <;> simpa [backIO] using this
theorem arg_noown {cs : DEnv} (h : cs.all Cell.isArg = true) {i : Nat} {o : OD} : cs[i]? ≠ some (.own o) := fun e => by
  have := List.all_eq_true.mp h _ (List.mem_of_getElem? e)
  cases this
/-- from the body's end to the call's -/
theorem back_ok {K : PySem.W.Frag} {vs : List V} {G H G' H' : Hp} {cs ρ' : DEnv} {σ' : St} {m : Nat} (ha : cs.all Cell.isArg = true) (R : Rel K G (vs.map some) H cs) (R' : Rel K G' σ' H' ρ')
    (S : Stp G H (vs.map some ++ List.replicate m none) (cs ++ List.replicate m .un) G' H' σ' ρ') :
    Rel K G' (vs.map some) H' (backIO cs ρ') ∧ Stp G H (vs.map some) cs G' H' (vs.map some) (backIO cs ρ') := by
  have hvl : (vs.map some).length = cs.length := R.len
  have hcs : cs.length ≤ ρ'.length := by
    rw [← R'.len, S.len, List.length_append, hvl]
    omega
  have app : ∀ {i : Nat} {o : OD}, cs[i]? = some (.io o) → (cs ++ List.replicate m Cell.un)[i]? = some (.io o) ∧ (vs.map some ++ List.replicate m none)[i]? = (vs.map some)[i]? := fun {i o} e => by
    have hi : i < cs.length := (List.getElem?_eq_some_iff.mp e).1
    exact ⟨by rw [List.getElem?_append_left hi]; exact e, List.getElem?_append_left (by omega)⟩
  have ioS : ∀ {i : Nat} {o : OD}, cs[i]? = some (.io o) → σ'[i]? = (vs.map some)[i]? ∧ ∃ o', ρ'[i]? = some (.io o') := fun {i o} e => by
    obtain ⟨a1, a2⟩ := app e
    obtain ⟨b1, b2⟩ := S.io i o a1
    exact ⟨b1.trans a2, b2⟩
  have inner : ∀ {i : Nat} {c : Cell}, (cs ++ List.replicate m Cell.un)[i]? = some c → (cs[i]? = some c) ∨ c = .un := fun {i c} e => by
    by_cases hi : i < cs.length
    · rw [List.getElem?_append_left hi] at e; exact .inl e
    · rw [List.getElem?_append_right (by omega)] at e
      exact .inr (List.eq_of_mem_replicate (List.mem_of_getElem? e))
  have noL : ∀ b, ¬ OwnL (vs.map some ++ List.replicate m none) (cs ++ List.replicate m .un) b := fun b ⟨i, o, e, _⟩ => by
    rcases inner e with z | z
    · exact arg_noown ha z
    · cases z
  have iOld : ∀ b, OwnI (vs.map some ++ List.replicate m none) (cs ++ List.replicate m .un) b → OwnI (vs.map some) cs b := fun b h => by
    obtain ⟨i, o, e, w⟩ | h := h
    case inr => exact .inr h
    rcases inner e with z | z
    · exact .inl ⟨i, o, z, by rw [← (app z).2]; exact w⟩
    · cases z
  refine ⟨⟨R'.gh, by rw [backIO_len cs ρ' hcs]; exact hvl, fun i c e => ?_, fun i j p hij a b => ?_, R'.tab⟩, ⟨S.same, fun b o e n1 n2 => S.frame b o e (noL b) (fun z => n2 (iOld b z)), S.keep, fun b o e => ?_, fun b => ?_, fun i o e => ?_, fun i o e => ?_, rfl⟩⟩
  · rcases backIO_get cs ρ' i c hcs e with ⟨⟨o, z⟩, w⟩ | ⟨nio, z⟩
    · obtain ⟨v, e1, q⟩ := R'.cell i c w
      exact ⟨v, by rw [← (ioS z).1]; exact e1, q⟩
    · obtain ⟨v, e1, q⟩ := R.cell i c z
      refine ⟨v, e1, ?_⟩
      cases c with
      | fn _ _ => obtain ⟨x, e2, q⟩ := q; exact ⟨x, e2, ClM.mono S.same q⟩
      | nd _ => obtain ⟨x, e2, q⟩ := q; exact ⟨x, e2, NdM.mono S.same q⟩
      | un => trivial
      | val d => obtain ⟨x, e2, q⟩ := q; exact ⟨x, e2, Rp.mono S.same q⟩
      | own o => exact absurd z (arg_noown ha)
      | io o => exact absurd rfl (nio o)
  · have up : ∀ {i : Nat}, At (vs.map some) (backIO cs ρ') i p → At σ' ρ' i p := fun {i} ⟨a1, c, a2, a3⟩ => by
      rcases backIO_get cs ρ' i c hcs a2 with ⟨⟨o, z⟩, w⟩ | ⟨nio, z⟩
      · exact ⟨by rw [(ioS z).1]; exact a1, c, w, a3⟩
      · cases c with
        | io o => exact absurd rfl (nio o)
        | own o => exact absurd z (arg_noown ha)
        | fn _ _ => cases a3
        | nd _ => cases a3
        | un => cases a3
        | val _ => cases a3
    exact R'.sep i j p hij (up a) (up b)
  · rcases S.fresh b o e with z | z | z
    · exact .inl z
    · exact .inr (.inl z)
    · exact absurd z (noL b)
  · rintro ⟨i, o, e, w⟩
    rcases backIO_get cs ρ' i _ hcs e with ⟨⟨o1, z⟩, w2⟩ | ⟨nio, z⟩
    · obtain ⟨o', e'⟩ := (ioS z).2
      rw [w2] at e'
      cases e'
    · exact absurd z (arg_noown ha)
  · refine ⟨rfl, ?_⟩
    rw [backIO_io cs ρ' i o hcs e]
    exact (ioS e).2
  · rcases backIO_get cs ρ' i _ hcs e with ⟨⟨o1, z⟩, w2⟩ | ⟨nio, z⟩
    · exact ⟨o1, z⟩
    · exact absurd rfl (nio o)
theorem Rel.ext {K : PySem.W.Frag} {G H : Hp} {σ : St} {cs : DEnv} (R : Rel K G σ H cs) (m : Nat) : Rel K G (σ ++ List.replicate m none) H (cs ++ List.replicate m .un) := by
  have inner : ∀ {i : Nat} {c : Cell}, (cs ++ List.replicate m Cell.un)[i]? = some c → (cs[i]? = some c) ∨ (c = .un ∧ ∃ v, (σ ++ List.replicate m none)[i]? = some v) := fun {i c} e => by
    by_cases hi : i < cs.length
    · rw [List.getElem?_append_left hi] at e; exact .inl e
    · have hlt : i < (σ ++ List.replicate m none).length := by
        have := (List.getElem?_eq_some_iff.mp e).1
        rw [List.length_append, List.length_replicate] at this ⊢
        rw [R.len]; exact this
      rw [List.getElem?_append_right (by omega)] at e
      exact .inr ⟨List.eq_of_mem_replicate (List.mem_of_getElem? e), _, List.getElem?_eq_getElem hlt⟩
  have inσ : ∀ {i : Nat} {c : Cell}, cs[i]? = some c → (σ ++ List.replicate m none)[i]? = σ[i]? := fun {i c} e => by
    have := (List.getElem?_eq_some_iff.mp e).1
    exact List.getElem?_append_left (by rw [R.len]; exact this)
  refine ⟨R.gh, by rw [List.length_append, List.length_append, List.length_replicate, List.length_replicate, R.len], fun i c e => ?_, fun i j p hij a b => ?_, R.tab⟩
  · rcases inner e with z | ⟨rfl, v, z⟩
    · rw [inσ z]; exact R.cell i c z
    · exact ⟨v, z, trivial⟩
  · have down : ∀ {i : Nat}, At (σ ++ List.replicate m none) (cs ++ List.replicate m .un) i p → At σ cs i p := fun {i} ⟨a1, c, a2, a3⟩ => by
      rcases inner a2 with z | ⟨rfl, _, _⟩
      · exact ⟨by rw [← inσ z]; exact a1, c, z, a3⟩
      · cases a3
    exact R.sep i j p hij (down a) (down b)
/-- how a def stands behind the top, and its promise -/
structure IsDef (K : PySem.W.Frag) (mg : Str → Option Value) (x qual : Str) (st : Stmt) (ps : List Str) (f : Addr) (fd : FuncData) : Prop where
  fn : Fun K x qual st f fd
  gl : mg x = some (.ref f)
  bi : Binds K fd ps []
structure Kept (P : Program) (w : World) (K : PySem.W.Frag) (mg : Str → Option Value) (base : Heap) (CX : CXT) (k : Nat) (x : Str) (ps : List Str) (den : DEnv → Res PyData) : Prop where
  ex : ∃ (f : Addr) (fd : FuncData), mg x = some (.ref f) ∧ PySem.W.keepIn K (.ref f) = true ∧ Binds K fd ps [] ∧ FnOk P w K mg base CX k f fd ps (spD K mg ps.length den)
section
variable {P : Program} {w : World} {K : PySem.W.Frag} {mg : Str → Option Value} {base : Heap}
theorem fnok_of {x qual : Str} {st : Stmt} {f : Addr} {fd : FuncData} {N ps : List Str} {k m : Nat} {body : DEnv → Res Out} (D : IsDef K mg x qual st ps f fd) (S : FnScope N ps (defScope st)) (hN : N.length = ps.length + m)
    (hb : ∀ (cdv : Value) (A : Around) (outer : List Env) (s : Shared) (H : Hp) (E : XK), Room k (A.deeper (envOfC qual (defScope st) s.heap.objs.size f cdv)) → BJ (cxOf CX0 P w K mg base N qual (defScope st) f cdv A outer s H E).nox (upE E) (defBody st) body) :
    FnOk P w K mg base CX0 (k + 1) f fd ps (spD K mg ps.length (defD m body)) := by
  refine D.fn.ok S (fun vs H Q E h => ?_) fun cdv A outer s H vs Q E hr h => ?_
  · obtain ⟨_, _, h, _⟩ := h
    exact h
  · obtain ⟨G, cs, hl, ha, R, h⟩ := h
    obtain ⟨t, q, p⟩ := (hb cdv A outer s H E hr).ex
    refine ⟨t, q, ?_⟩
    have hst : L2.start N vs = vs.map some ++ List.replicate m none := by
      unfold L2.start
      rw [hN, hl]
      congr 2
      omega
    rw [hst]
    have R0 := R.ext m
    have p' : ∀ (σ : St) (G H : Hp) (ρ : DEnv) (D : Ends), Rel K G σ H ρ → SPost K mg (upE E) D σ G H ρ (body ρ) → t D σ H := p
    refine p' _ G H (cs ++ List.replicate m .un) _ R0 ?_
    show SPost K mg (upE E) _ (vs.map some ++ List.replicate m none) G H (cs ++ List.replicate m .un) (body (cs ++ List.replicate m .un))
    unfold defD at h
    cases r : body (cs ++ List.replicate m .un) with
    | bad => rw [r] at h; exact h
    | err x ρ' =>
      rw [r] at h
      intro G' H' σ' c od R' S' q
      obtain ⟨R2, S2⟩ := back_ok ha R R' S'
      exact h G' H' c od R2 S2 q
    | ok o ρ' =>
      rw [r] at h
      cases o with
      | nx =>
        intro G' H' σ' R' S'
        obtain ⟨R2, S2⟩ := back_ok ha R R' S'
        exact h G' H' .non R2 S2 .non
      | rt d =>
        intro G' H' σ' v R' S' q
        obtain ⟨R2, S2⟩ := back_ok ha R R' S'
        exact h G' H' v R2 S2 q
      | bk => exact h.elim
      | ct => exact h.elim
theorem kept_of {x qual : Str} {st : Stmt} {f : Addr} {fd : FuncData} {N ps : List Str} {k m : Nat} {body : DEnv → Res Out} (D : IsDef K mg x qual st ps f fd) (S : FnScope N ps (defScope st)) (hN : N.length = ps.length + m)
    (hb : ∀ (cdv : Value) (A : Around) (outer : List Env) (s : Shared) (H : Hp) (E : XK), Room k (A.deeper (envOfC qual (defScope st) s.heap.objs.size f cdv)) → BJ (cxOf CX0 P w K mg base N qual (defScope st) f cdv A outer s H E).nox (upE E) (defBody st) body) :
    Kept P w K mg base CX0 (k + 1) x ps (defD m body) := by
  exact ⟨f, fd, D.gl, D.fn.kp, D.bi, fnok_of D S hN hb⟩
def dCallV (den : DEnv → Res PyData) (fs : DEnv → Res (List PyData)) : DEnv → Res PyData := fun ρ => (fs ρ).bind fun ds ρ1 => match den (ds.map .val) with
  | .ok d _ => .ok d ρ1
  | _ => .bad
def callIO (den : DEnv → Res PyData) (i : Nat) (ds : List PyData) (ρ : DEnv) : Res PyData := match ρ[i]? with
  | some (.io o) => match den (.io o :: ds.map .val) with
    | .ok d (.io o' :: _) => .ok d (ρ.set i (.io o'))
    | _ => .bad
  | some (.own o) => match den (.io o :: ds.map .val) with
    | .ok d (.io o' :: _) => .ok d (ρ.set i (.own o'))
    | _ => .bad
  | _ => .bad
def dCallI (den : DEnv → Res PyData) (i : Nat) (fs : DEnv → Res (List PyData)) : DEnv → Res PyData := fun ρ => if (ρ[i]?.getD .un).isOwn = true then (fs ρ).bind fun ds ρ1 => callIO den i ds ρ1 else .bad
theorem vals_rel {K : PySem.W.Frag} {G H : Hp} (gh : Same G H) (tb : CTab G H) {vs : List V} {ds : List PyData} (h : RpAll K G vs ds) : Rel K G (vs.map some) H (ds.map .val) := by
  have hl := RpAll.len h
  refine ⟨gh, by rw [List.length_map, List.length_map, hl], fun i c e => ?_, fun i j p _ a _ => ?_, tb⟩
  · rw [List.getElem?_map] at e
    cases q : ds[i]? with
    | none => rw [q] at e; cases e
    | some d =>
      rw [q] at e
      cases e
      obtain ⟨v, h1, h2⟩ := RpAll.get h q
      exact ⟨some v, by rw [List.getElem?_map, h1]; rfl, v, rfl, h2⟩
  · obtain ⟨_, c, e, w⟩ := a
    rw [List.getElem?_map] at e
    cases q : ds[i]? with
    | none => rw [q] at e; cases e
    | some d => rw [q] at e; cases e; cases w
theorem vals_arg (ds : List PyData) : (ds.map Cell.val).all Cell.isArg = true := by
  rw [List.all_map]
  exact List.all_eq_true.mpr fun _ _ => rfl
/-- a step of a callee that was lent nothing, seen by the caller -/
theorem call_step {K : PySem.W.Frag} {G H G' H' : Hp} {σ : St} {ρ : DEnv} {vs : List V} {ds : List PyData} {cs : DEnv} (R : Rel K G σ H ρ) (hv : RpAll K G vs ds) (gh : Same G' H') (tb : CTab G' H')
    (S : Stp G H (vs.map some) (ds.map .val) G' H' (vs.map some) cs) : Rel K G' σ H' ρ ∧ Stp G H σ ρ G' H' σ ρ := by
  have nv : ∀ {i : Nat} {c : Cell}, (ds.map Cell.val)[i]? = some c → ∃ d, c = .val d := fun {i c} e => by
    rw [List.getElem?_map] at e
    cases q : ds[i]? with
    | none => rw [q] at e; cases e
    | some d => rw [q] at e; cases e; exact ⟨d, rfl⟩
  have nL : ∀ b, ¬ OwnL (vs.map some) (ds.map .val) b := fun b ⟨i, o, e, _⟩ => by obtain ⟨d, z⟩ := nv e; cases z
  have nI : ∀ b, (∀ q ∈ Td.T, q.1 ≠ b) → ¬ OwnI (vs.map some) (ds.map .val) b := fun b nt h => by
    obtain ⟨i, o, e, _⟩ | ⟨q, hq, z⟩ := h
    · obtain ⟨d, z⟩ := nv e; cases z
    · exact nt q hq z
  have fr : ∀ b o, (∀ q ∈ Td.T, q.1 ≠ b) → H b = some o → H' b = some o := fun b o nt e => S.frame b o e (nL b) (nI b nt)
  have old : ∀ b o, H b = some o → G b = none → G' b = none := fun b o e g => by
    cases q : G' b with
    | none => rfl
    | some u =>
      rcases S.fresh b u q with z | z | z
      · rw [g] at z; cases z
      · rw [e] at z; cases z
      · exact absurd z (nL b)
  refine ⟨⟨gh, R.len, fun i c e => ?_, R.sep, tb⟩, ⟨S.same, fun b o e _ n2 => fr b o (fun q hq z => n2 (.inr ⟨q, hq, z⟩)) e, S.keep, fun b o e => ?_, fun b z => .inl z, fun _ o e => ⟨rfl, o, e⟩, fun _ o e => ⟨o, e⟩, rfl⟩⟩
  · obtain ⟨v, e1, q⟩ := R.cell i c e
    refine ⟨v, e1, ?_⟩
    cases c with
    | fn _ _ => obtain ⟨x, e2, q⟩ := q; exact ⟨x, e2, ClM.mono S.same q⟩
    | nd _ => obtain ⟨x, e2, q⟩ := q; exact ⟨x, e2, NdM.mono S.same q⟩
    | un => trivial
    | val d => obtain ⟨x, e2, q⟩ := q; exact ⟨x, e2, Rp.mono S.same q⟩
    | own o => obtain ⟨b, e2, g, q⟩ := q; obtain ⟨u, hu⟩ := q.ex; exact ⟨b, e2, old b u hu g, q.mono S.same fun u z => fr b u (R.tab.ne q.notbl) z⟩
    | io o => obtain ⟨b, e2, g, q⟩ := q; obtain ⟨u, hu⟩ := q.ex; exact ⟨b, e2, old b u hu g, q.mono S.same fun u z => fr b u (R.tab.ne q.notbl) z⟩
  · rcases S.fresh b o e with z | z | z
    · exact .inl z
    · exact .inr (.inl z)
    · exact absurd z (nL b)
/-- .. that was lent the object at p -/
theorem callIO_step {K : PySem.W.Frag} {G H G' H' : Hp} {σ : St} {ρ : DEnv} {vs : List V} {ds : List PyData} {cs : DEnv} {p : Addr} {o o' : OD} {i : Nat} {mk : OD → Cell} (hmk : mk = .io ∨ mk = .own) (R : Rel K G σ H ρ) (hi : ρ[i]? = some (mk o)) (hσ : σ[i]? = some (some (.ref p)))
    (R' : Rel K G' ((V.ref p :: vs).map some) H' (.io o' :: cs))
    (S : Stp G H ((V.ref p :: vs).map some) (.io o :: ds.map .val) G' H' ((V.ref p :: vs).map some) (.io o' :: cs)) : Rel K G' σ H' (ρ.set i (mk o')) ∧ Stp G H σ ρ G' H' σ (ρ.set i (mk o')) := by
  have hown : (mk o).isOwn = true := by rcases hmk with rfl | rfl <;> rfl
  have nv : ∀ {j : Nat} {c : Cell}, (Cell.io o :: ds.map Cell.val)[j]? = some c → (j = 0 ∧ c = .io o) ∨ ∃ d, c = .val d := fun {j c} e => by
    cases j with
    | zero => cases e; exact .inl ⟨rfl, rfl⟩
    | succ j =>
      rw [List.getElem?_cons_succ, List.getElem?_map] at e
      cases q : ds[j]? with
      | none => rw [q] at e; cases e
      | some d => rw [q] at e; cases e; exact .inr ⟨d, rfl⟩
  have nL : ∀ b, ¬ OwnL ((V.ref p :: vs).map some) (.io o :: ds.map .val) b := fun b ⟨j, u, e, _⟩ => by
    rcases nv e with ⟨_, z⟩ | ⟨d, z⟩ <;> cases z
  have nI : ∀ b, OwnI ((V.ref p :: vs).map some) (.io o :: ds.map .val) b → b = p ∨ ∃ t ∈ Td.T, t.1 = b := fun b h => by
    obtain ⟨j, u, e, w⟩ | h := h
    case inr => exact .inr h
    rcases nv e with ⟨rfl, _⟩ | ⟨d, z⟩
    · cases w; exact .inl rfl
    · cases z
  have fr : ∀ b u, (∀ q ∈ Td.T, q.1 ≠ b) → b ≠ p → H b = some u → H' b = some u := fun b u nt ne e => S.frame b u e (nL b) fun z => (nI b z).elim ne fun ⟨q, hq, z⟩ => nt q hq z
  have old : ∀ b u, H b = some u → G b = none → G' b = none := fun b u e g => by
    cases q : G' b with
    | none => rfl
    | some u' =>
      rcases S.fresh b u' q with z | z | z
      · rw [g] at z; cases z
      · rw [e] at z; cases z
      · exact absurd z (nL b)
  have apart : ∀ {j : Nat} {c : Cell} {b : Addr}, j ≠ i → ρ[j]? = some c → c.isOwn = true → σ[j]? = some (some (.ref b)) → b ≠ p := fun {j c b} ne e w a z => R.sep j i p ne ⟨by rw [a, z], c, e, w⟩ ⟨hσ, _, hi, hown⟩
  obtain ⟨v0, e0, p0, z0, g0, q0⟩ := R'.cell 0 _ rfl
  cases e0
  cases z0
  have cm : ∀ {v : Option V}, CellOk K G' H' v (.io o') → CellOk K G' H' v (mk o') := fun {v} q => by rcases hmk with rfl | rfl <;> exact q
  have same_len : (ρ.set i (mk o')).length = ρ.length := List.length_set ..
  refine ⟨⟨R'.gh, by rw [same_len]; exact R.len, fun j c e => ?_, fun j k b hjk a1 a2 => ?_, R'.tab⟩, ⟨S.same, fun b u e n1 n2 => ?_, S.keep, fun b u e => ?_, fun b => ?_, fun j u e => ?_, fun j u e => ?_, rfl⟩⟩
  · rcases getset e with ⟨rfl, rfl, _⟩ | ⟨ne, e⟩
    · exact ⟨_, hσ, cm ⟨p, rfl, g0, q0⟩⟩
    · obtain ⟨v, e1, q⟩ := R.cell j c e
      refine ⟨v, e1, ?_⟩
      cases c with
      | fn _ _ => obtain ⟨x, e2, q⟩ := q; exact ⟨x, e2, ClM.mono S.same q⟩
      | nd _ => obtain ⟨x, e2, q⟩ := q; exact ⟨x, e2, NdM.mono S.same q⟩
      | un => trivial
      | val d => obtain ⟨x, e2, q⟩ := q; exact ⟨x, e2, Rp.mono S.same q⟩
      | own u => obtain ⟨b, e2, g, q⟩ := q; obtain ⟨w, hw⟩ := q.ex; exact ⟨b, e2, old b w hw g, q.mono S.same fun u' z => fr b u' (R.tab.ne q.notbl) (apart ne e rfl (e2 ▸ e1)) z⟩
      | io u => obtain ⟨b, e2, g, q⟩ := q; obtain ⟨w, hw⟩ := q.ex; exact ⟨b, e2, old b w hw g, q.mono S.same fun u' z => fr b u' (R.tab.ne q.notbl) (apart ne e rfl (e2 ▸ e1)) z⟩
  · have down : ∀ {j : Nat}, At σ (ρ.set i (mk o')) j b → At σ ρ j b := fun {j} ⟨b1, c, b2, b3⟩ => by
      rcases getset b2 with ⟨rfl, rfl, _⟩ | ⟨ne, e⟩
      · exact ⟨b1, _, hi, hown⟩
      · exact ⟨b1, c, e, b3⟩
    exact R.sep j k b hjk (down a1) (down a2)
  · refine fr b u (fun q hq z => n2 (.inr ⟨q, hq, z⟩)) (fun z => ?_) e
    subst z
    rcases hmk with rfl | rfl
    · exact n2 (.inl ⟨i, o, hi, hσ⟩)
    · exact n1 ⟨i, o, hi, hσ⟩
  · rcases S.fresh b u e with z | z | z
    · exact .inl z
    · exact .inr (.inl z)
    · exact absurd z (nL b)
  · rintro ⟨j, u, e, w⟩
    rcases getset e with ⟨rfl, z, _⟩ | ⟨ne, e⟩
    · rcases hmk with rfl | rfl
      · cases z
      · exact .inl ⟨j, o, hi, w⟩
    · exact .inl ⟨j, u, e, w⟩
  · refine ⟨rfl, ?_⟩
    by_cases hj : j = i
    · subst hj
      rw [hi] at e
      rcases hmk with rfl | rfl
      · exact ⟨o', setself hi⟩
      · cases e
    · rw [List.getElem?_set_ne (Ne.symm hj)]
      exact ⟨u, e⟩
  · rcases getset e with ⟨rfl, z, _⟩ | ⟨ne, e⟩
    · rcases hmk with rfl | rfl
      · exact ⟨o, hi⟩
      · cases z
    · exact ⟨u, e⟩
end
section
variable {X : Cx} {E : WX} {e : Expr} {es : List Expr} {fs : DEnv → Res (List PyData)} {den : DEnv → Res PyData} {pos p : Pos} {x : Str} {k : Nat} {ps : List Str}
theorem spD_vals {K : PySem.W.Frag} {mg : Str → Option Value} {σ : St} {G H : Hp} {ρ : DEnv} {vs : List V} {ds : List PyData} {Q : VK} (n : Nat) (R : Rel K G σ H ρ) (hv : RpAll K G vs ds) (hn : ds.length = n)
    (h : Post K mg E (Rp K) σ G H ρ Q (match den (ds.map .val) with
      | .ok d _ => .ok d ρ
      | _ => .bad)) : spD K mg n den (vs ++ []) H Q E0 := by
  rw [List.append_nil]
  refine ⟨G, ds.map .val, by rw [RpAll.len hv]; exact hn, vals_arg ds, vals_rel R.gh R.tab hv, ?_⟩
  cases r : den (ds.map .val) with
  | bad => rw [r] at h; exact h
  | err x c => rw [r] at h; exact h.elim
  | ok d cs =>
    rw [r] at h
    intro G' H' v R' S' q
    obtain ⟨R2, S2⟩ := call_step R hv R'.gh R'.tab S'
    exact h G' H' v R2 S2 q
theorem e_call (F : Kept X.prog X.w X.K X.mg X.base CX0 k x ps den) (hn : es.length + 1 = ps.length) (hr : Room k X.A) (hg : Gl X x) (ha : AJ X E (e :: es) fs) (hdb : (x == ("__debug__" : Str)) = false := by decide)
    (he : starEach (e :: es) X.env = (false, eval e X.env) :: starEach es X.env := by rfl) (hpl : (backTo pos (starEach es X.env)).any (·.1) = false := by rfl) :
    EJ X E (.Call (.Name x p) (e :: es) [] pos) (dCallV den fs) := by
  obtain ⟨f, fd, gm, kp, bi, F⟩ := F
  obtain ⟨hl, t, q, p⟩ := ha
  refine ⟨_, pe_call F hr hg gm kp bi .nil pass0 q hdb he hpl, fun σ G H ρ Q R h => p σ G H ρ _ R ?_⟩
  unfold dCallV at h
  cases r : fs ρ with
  | bad => rw [r] at h; exact h
  | err x c => rw [r] at h; exact h
  | ok ds ρ1 =>
    rw [r] at h
    intro G1 H1 vs R1 S1 hv
    refine spD_vals (E := E) ps.length R1 hv ((hl ρ ds ρ1 r).trans hn) ?_
    exact Post.from S1 h
theorem lent_of {i n : Nat} {t : TA} {σ : St} {G H : Hp} {ρ : DEnv} {Q : VK} (hl : ∀ (ρ : DEnv) (ds : List PyData) (ρ' : DEnv), fs ρ = .ok ds ρ' → ds.length = es.length) (p : ∀ σ G H ρ Q, Rel X.K G σ H ρ → APost X E σ G H ρ Q (fs ρ) → t σ H Q) (hn : es.length + 1 = n) (R : Rel X.K G σ H ρ)
    (h : EPost X E σ G H ρ Q (dCallI den i fs ρ)) : ∃ v, σ[i]? = some (some v) ∧ t σ H (fun xs H2 => spD X.K X.mg n den ((v :: xs) ++ []) H2 Q E0) := by
  unfold dCallI at h
  by_cases hc : (ρ[i]?.getD .un).isOwn = true
  case neg => rw [if_neg hc] at h; exact h.elim
  rw [if_pos hc] at h
  have key : ∀ (v : V), σ[i]? = some (some v) → t σ H (fun xs H2 => spD X.K X.mg n den ((v :: xs) ++ []) H2 Q E0) := fun v hv => by
    refine p σ G H ρ _ R ?_
    cases r : fs ρ with
    | bad => rw [r] at h; exact h
    | err x c => rw [r] at h; exact h
    | ok ds ρ1 =>
      rw [r] at h
      intro G1 H1 vs R1 S1 hvs
      have h1 : EPost X E σ G1 H1 ρ1 Q (callIO den i ds ρ1) := Post.from S1 h
      rw [List.append_nil]
      have fin : ∀ (mk : OD → Cell) (o : OD), (mk = .io ∨ mk = .own) → ρ1[i]? = some (mk o) → (callIO den i ds ρ1 = match den (.io o :: ds.map .val) with
          | .ok d (.io o' :: _) => .ok d (ρ1.set i (mk o'))
          | _ => .bad) → spD X.K X.mg n den (v :: vs) H1 Q E0 := fun mk o hmk hi hc => by
        obtain ⟨v0, e0, q0⟩ := R1.cell i _ hi
        rw [hv] at e0
        cases e0
        have q0 : CellOk X.K G1 H1 (some v) (.io o) := by rcases hmk with rfl | rfl <;> exact q0
        obtain ⟨b, e1, g1, o1⟩ := q0
        cases e1
        have Rv := vals_rel R1.gh R1.tab hvs
        refine ⟨G1, .io o :: ds.map .val, ?_, ?_, ⟨R1.gh, ?_, fun j c e => ?_, fun j k b2 hjk a1 a2 => ?_, R1.tab⟩, ?_⟩
        · rw [List.length_cons, RpAll.len hvs, hl ρ ds ρ1 r]; exact hn
        · rw [List.all_cons, vals_arg]; rfl
        · rw [List.map_cons, List.length_cons, List.length_cons, Rv.len]
        · cases j with
          | zero => cases e; exact ⟨_, rfl, b, rfl, g1, o1⟩
          | succ j => exact Rv.cell j c e
        · obtain ⟨x1, c1, y1, z1⟩ := a1
          obtain ⟨x2, c2, y2, z2⟩ := a2
          cases j with
          | zero =>
            cases k with
            | zero => exact hjk rfl
            | succ k =>
              rw [List.getElem?_cons_succ, List.getElem?_map] at y2
              cases q : ds[k]? with
              | none => rw [q] at y2; cases y2
              | some d => rw [q] at y2; cases y2; cases z2
          | succ j =>
            rw [List.getElem?_cons_succ, List.getElem?_map] at y1
            cases q : ds[j]? with
            | none => rw [q] at y1; cases y1
            | some d => rw [q] at y1; cases y1; cases z1
        · rw [hc] at h1
          cases r2 : den (.io o :: ds.map .val) with
          | bad => rw [r2] at h1; exact h1
          | err x c => rw [r2] at h1; exact h1.elim
          | ok d cs =>
            rw [r2] at h1
            cases cs with
            | nil => exact h1.elim
            | cons c0 cs =>
              cases c0 with
              | fn _ _ => exact h1.elim
              | nd _ => exact h1.elim
              | un => exact h1.elim
              | val _ => exact h1.elim
              | own _ => exact h1.elim
              | io o' =>
                intro G2 H2 u R2 S2 hu
                have hσ : σ[i]? = some (some (.ref b)) := hv
                obtain ⟨R3, S3⟩ := callIO_step hmk R1 hi hσ R2 S2
                exact h1 G2 H2 u R3 S3 hu
      cases q : ρ1[i]? with
      | none => unfold callIO at h1; rw [q] at h1; exact h1.elim
      | some cl =>
        cases cl with
        | fn _ _ => unfold callIO at h1; rw [q] at h1; exact h1.elim
        | nd _ => unfold callIO at h1; rw [q] at h1; exact h1.elim
        | un => unfold callIO at h1; rw [q] at h1; exact h1.elim
        | val _ => unfold callIO at h1; rw [q] at h1; exact h1.elim
        | io o => exact fin .io o (.inl rfl) q (by unfold callIO; rw [q])
        | own o => exact fin .own o (.inr rfl) q (by unfold callIO; rw [q])
  -- there is a value at the slot
  cases q : ρ[i]? with
  | none => rw [q] at hc; cases hc
  | some cl =>
    obtain ⟨v0, e0, q0⟩ := R.cell i cl q
    cases cl with
    | fn _ _ => rw [q] at hc; cases hc
    | nd _ => rw [q] at hc; cases hc
    | un => rw [q] at hc; cases hc
    | val _ => rw [q] at hc; cases hc
    | own o => obtain ⟨b, e1, _⟩ := q0; rw [e1] at e0; exact ⟨_, e0, key _ e0⟩
    | io o => obtain ⟨b, e1, _⟩ := q0; rw [e1] at e0; exact ⟨_, e0, key _ e0⟩
/-- a call that lends its first argument -/
theorem e_callI {y : Str} {py : Pos} (i : Nat) (F : Kept X.prog X.w X.K X.mg X.base CX0 k x ps den) (hn : es.length + 1 = ps.length) (hr : Room k X.A) (hg : Gl X x) (hy : PE X (.Name y py) (tVar i)) (ha : AJ X E es fs) (hdb : (x == ("__debug__" : Str)) = false := by decide)
    (he : starEach (.Name y py :: es) X.env = (false, eval (.Name y py) X.env) :: starEach es X.env := by rfl) (hpl : (backTo pos (starEach es X.env)).any (·.1) = false := by rfl) :
    EJ X E (.Call (.Name x p) (.Name y py :: es) [] pos) (dCallI den i fs) := by
  obtain ⟨f, fd, gm, kp, bi, F⟩ := F
  obtain ⟨hl, t, q, p⟩ := ha
  exact ⟨_, pe_call F hr hg gm kp bi .nil pass0 (pa_cons hy q he) hdb he hpl, fun σ G H ρ Q R h => lent_of hl p hn R h⟩
end
end DL
set_option Elab.async false
set_option linter.all false
set_option maxRecDepth 100000
set_option maxHeartbeats 4000000
namespace DL
open PySem PySem.Spec PyProof.Rows L2
variable [Td]
/-- a list or a tuple where it stands -/
inductive LK where | L | T
def SqK (K : PySem.W.Frag) (H : Hp) (p : Addr) (vs : List V) : LK → Prop
  | .L => SqL K H p vs
  | .T => SqT K H p vs
def SqX (K : PySem.W.Frag) (G H : Hp) (p : Addr) (vs : List V) : LK → Prop
  | .L => SqL K H p vs
  | .T => SqT K G p vs
/-- what is wanted behind an expression that is a list or tuple, read at once -/
def LPost (K : PySem.W.Frag) (mg : Str → Option Value) (E : WX) (σ : St) (G H : Hp) (ρ : DEnv) (Q : VK) : Res (LK × List PyData) → Prop
  | .ok kd ρ' => ∀ G' H' p vs, Rel K G' σ H' ρ' → Stp G H σ ρ G' H' σ ρ' → SqX K G' H' p vs kd.1 → RpAll K G' vs kd.2 → Q (.ref p) H'
  | .err x ρ' => ∀ G' H' c od, Rel K G' σ H' ρ' → Stp G H σ ρ G' H' σ ρ' → ErrAt K mg G' H' x c od → E c od σ H'
  | .bad => False
structure LJ (X : Cx) (E : WX) (e : Expr) (f : DEnv → Res (LK × List PyData)) : Prop where
  ex : ∃ t : TE, PE X e t ∧ ∀ σ G H ρ Q, Rel X.K G σ H ρ → LPost X.K X.mg E σ G H ρ Q (f ρ) → t σ H Q
def unScr : List (PyData × PyData) → Option (List PyData)
  | (.none, .none) :: r => some (r.map (·.1))
  | _ => none
theorem unScr_map : ∀ ns : List Int, (ns.map fun i => (PyData.int i, PyData.none)).map (·.1) = ns.map PyData.int
  | [] => rfl
  | i :: r => by rw [List.map_cons, List.map_cons, unScr_map r, List.map_cons]
def seqOf : PyData → Option (LK × List PyData)
  | .list ds => some (.L, ds)
  | .tuple ds => some (.T, ds)
  | .dict kvs => (unScr kvs).map fun ds => (.L, ds)
  | _ => none
def lOf (f : DEnv → Res PyData) : DEnv → Res (LK × List PyData) := fun ρ => (f ρ).bind fun d ρ1 => Res.of (seqOf d) ρ1
/-- a list that is held, in its slot -/
def heldL (i : Nat) (ρ : DEnv) : Option (List PyData) := match ρ[i]? with
  | some (.own (.lst ds)) => some ds
  | some (.io (.lst ds)) => some ds
  | _ => none
section
variable {X : Cx} {E : WX} {a b c e : Expr} {es : List Expr} {fa fb : DEnv → Res PyData} {fl : DEnv → Res (LK × List PyData)} {fs : DEnv → Res (List PyData)} {pos : Pos}
theorem rpInts {K : PySem.W.Frag} {G : Hp} : ∀ ns : List Int, RpAll K G (ns.map V.int) (ns.map PyData.int)
  | [] => .nil
  | i :: r => .cons (.int i) (rpInts r)
theorem Rp.seq {K : PySem.W.Frag} {G : Hp} {v : V} {d : PyData} {kd : LK × List PyData} (h : Rp K G v d) (e : seqOf d = some kd) : ∃ p vs, v = .ref p ∧ SqK K G p vs kd.1 ∧ RpAll K G vs kd.2 := by
  cases h with
  | lst h1 h2 => cases e; exact ⟨_, _, rfl, SqL.of h1, h2⟩
  | tup h1 h2 => cases e; exact ⟨_, _, rfl, h1, h2⟩
  | scr h1 =>
    rename_i a ns
    have e : (unScr ((PyData.none, PyData.none) :: ns.map fun i => (PyData.int i, PyData.none))).map (fun ds => (LK.L, ds)) = some kd := e
    have e : some (LK.L, (ns.map fun i => (PyData.int i, PyData.none)).map (·.1)) = some kd := e
    rw [unScr_map] at e
    cases e
    exact ⟨_, _, rfl, h1, rpInts ns⟩
  | _ => cases e
theorem SqK.mono {K : PySem.W.Frag} {G G' : Hp} {p : Addr} {vs : List V} {k : LK} (s : Same G G') (h : SqK K G p vs k) : SqK K G' p vs k := by
  cases k with
  | L => exact s.seq h
  | T => exact Same.seqT s h
theorem SqK.toX {K : PySem.W.Frag} {G H : Hp} {p : Addr} {vs : List V} {k : LK} (s : Same G H) (h : SqK K G p vs k) : SqX K G H p vs k := by
  cases k with
  | L => exact s.seq h
  | T => exact h
theorem SqX.or {K : PySem.W.Frag} {G H : Hp} {p : Addr} {vs : List V} {k : LK} (s : Same G H) (h : SqX K G H p vs k) : SqL K H p vs ∨ SqT K H p vs := by
  cases k with
  | L => exact .inl h
  | T => exact .inr (Same.seqT s h)
theorem l_of (ha : EJ X E a fa) : LJ X E a (lOf fa) := by
  obtain ⟨t, q, p⟩ := ha
  refine ⟨t, q, fun σ G H ρ Q R h => p σ G H ρ Q R ?_⟩
  unfold lOf at h
  cases r : fa ρ with
  | bad => rw [r] at h; exact h
  | err x c => rw [r] at h; exact h
  | ok d ρ1 =>
    rw [r] at h
    intro G1 H1 v R1 S1 hv
    have h : LPost X.K X.mg E σ G H ρ Q (Res.of (seqOf d) ρ1) := h
    cases s : seqOf d with
    | none => rw [s] at h; exact h.elim
    | some kd =>
      rw [s] at h
      obtain ⟨b, vs, rfl, h1, h2⟩ := Rp.seq hv s
      exact h G1 H1 b vs R1 S1 (h1.toX R1.gh) h2
theorem Rel.held {K : PySem.W.Frag} {G H : Hp} {σ : St} {ρ : DEnv} {i : Nat} {ds : List PyData} (R : Rel K G σ H ρ) (h : heldL i ρ = some ds) : ∃ p vs, σ[i]? = some (some (.ref p)) ∧ H p = some (.lst vs) ∧ RpAll K G vs ds := by
  unfold heldL at h
  cases q : ρ[i]? with
  | none => rw [q] at h; cases h
  | some cl =>
    rw [q] at h
    obtain ⟨v0, e0, q0⟩ := R.cell i cl q
    cases cl with
    | fn _ _ => cases h
    | nd _ => cases h
    | un => cases h
    | val _ => cases h
    | own o =>
      cases o with
      | dk _ => cases h
      | dt _ => cases h
      | ins _ _ => cases h
      | dn _ => cases h
      | ts _ _ _ => cases h
      | db _ => cases h
      | lst ds => cases h; obtain ⟨b, rfl, _, vs, h1, h2⟩ := q0; exact ⟨b, vs, e0, h1, h2⟩
    | io o =>
      cases o with
      | dk _ => cases h
      | dt _ => cases h
      | ins _ _ => cases h
      | dn _ => cases h
      | ts _ _ _ => cases h
      | db _ => cases h
      | lst ds => cases h; obtain ⟨b, rfl, _, vs, h1, h2⟩ := q0; exact ⟨b, vs, e0, h1, h2⟩
theorem LPost.bind {α β : Type} {rep2 : Hp → β → α → Prop} {K : PySem.W.Frag} {mg : Str → Option Value} {σ : St} {G H : Hp} {ρ : DEnv} {Q : β → Hp → Prop} {Q1 : VK} {r : Res (LK × List PyData)} {k : LK × List PyData → DEnv → Res α}
    (h : Post K mg E rep2 σ G H ρ Q (r.bind k))
    (f : ∀ G1 H1 p vs kd ρ1, Rel K G1 σ H1 ρ1 → Stp G H σ ρ G1 H1 σ ρ1 → SqX K G1 H1 p vs kd.1 → RpAll K G1 vs kd.2 → Post K mg E rep2 σ G1 H1 ρ1 Q (k kd ρ1) → Q1 (.ref p) H1) : LPost K mg E σ G H ρ Q1 r := by
  cases r with
  | ok a ρ' => exact fun G' H' p vs R S q1 q2 => f G' H' p vs a ρ' R S q1 q2 (Post.from S h)
  | err x ρ' => exact h
  | bad => exact h
theorem LPost.bindF {K : PySem.W.Frag} {mg : Str → Option Value} {σ : St} {G H : Hp} {ρ : DEnv} {Q : VK} {Q1 : VK} {r : Res (LK × List PyData)} {k : LK × List PyData → DEnv → Res OD}
    (h : FPost K mg E σ G H ρ Q (r.bind k))
    (f : ∀ G1 H1 p vs kd ρ1, Rel K G1 σ H1 ρ1 → Stp G H σ ρ G1 H1 σ ρ1 → SqX K G1 H1 p vs kd.1 → RpAll K G1 vs kd.2 → FPost K mg E σ G1 H1 ρ1 Q (k kd ρ1) → Q1 (.ref p) H1) : LPost K mg E σ G H ρ Q1 r := by
  cases r with
  | ok a ρ' => exact fun G' H' p vs R S q1 q2 => f G' H' p vs a ρ' R S q1 q2 (FPost.from S h)
  | err x ρ' => exact h
  | bad => exact h
def dLen (f : DEnv → Res (LK × List PyData)) : DEnv → Res PyData := fun ρ => (f ρ).bind fun kd ρ1 => .ok (.int (kd.2.length : Nat)) ρ1
def dTupleOf (f : DEnv → Res (LK × List PyData)) : DEnv → Res PyData := fun ρ => (f ρ).bind fun kd ρ1 => .ok (.tuple kd.2) ρ1
def fListOf (f : DEnv → Res (LK × List PyData)) : DEnv → Res OD := fun ρ => (f ρ).bind fun kd ρ1 => .ok (.lst kd.2) ρ1
theorem e_len {p : Pos} (ha : LJ X E a fl) (hg : Gl X "len") (hm : X.mg "len" = none) (he : starEach [a] X.env = (false, eval a X.env) :: starEach [] X.env := by rfl) :
    EJ X E (.Call (.Name "len" p) [a] [] pos) (dLen fl) := by
  obtain ⟨t, q, p⟩ := ha
  refine ⟨_, pe_callB call_len_seq hg hm PySem.boot_len (pa_cons q pa_nil he) (he := he), fun σ G H ρ Q R h => p σ G H ρ _ R (LPost.bind h fun G1 H1 b vs kd ρ1 R1 S1 h1 h2 h3 => ?_)⟩
  have e := RpAll.len h2
  exact ⟨b, vs, rfl, h1.or R1.gh, Post.done R1 h3 (by rw [e]; exact .int _)⟩
theorem f_listOf {p : Pos} (ha : LJ X E a fl) (hg : Gl X "list") (hm : X.mg "list" = none) (he : starEach [a] X.env = (false, eval a X.env) :: starEach [] X.env := by rfl) :
    FJ X E (.Call (.Name "list" p) [a] [] pos) (fListOf fl) := by
  obtain ⟨t, q, p⟩ := ha
  refine ⟨_, pe_callTy call_list_of hg hm (by decide +kernel) (pa_cons q pa_nil he) (he := he), fun σ G H ρ Q R h => p σ G H ρ _ R (LPost.bindF h fun G1 H1 b vs kd ρ1 R1 S1 h1 h2 h3 => ?_)⟩
  exact ⟨b, vs, rfl, h1.or R1.gh, fun l hl => FPost.new R1 h3 hl ⟨vs, upd_same, h2⟩⟩
/-- the slot i's object becomes o' -/
def setHeld (i : Nat) (o' : OD) (ρ : DEnv) : DEnv := match ρ[i]? with
  | some (.own _) => ρ.set i (.own o')
  | some (.io _) => ρ.set i (.io o')
  | _ => ρ
theorem Rel.heldObj {K : PySem.W.Frag} {G H : Hp} {σ : St} {ρ : DEnv} {i : Nat} {p : Addr} {o o' : OD} {mk : OD → Cell} {u : HO} (hmk : mk = .io ∨ mk = .own) (R : Rel K G σ H ρ) (hi : ρ[i]? = some (mk o)) (hσ : σ[i]? = some (some (.ref p))) (hg : G p = none) (hp : ∃ w, H p = some w)
    (hn : OwnAt K G (upd H p u) p o') : Rel K G σ (upd H p u) (ρ.set i (mk o')) ∧ Stp G H σ ρ G (upd H p u) σ (ρ.set i (mk o')) := by
  have hown : (mk o).isOwn = true := by rcases hmk with rfl | rfl <;> rfl
  have apart : ∀ {j : Nat} {c : Cell} {b : Addr}, j ≠ i → ρ[j]? = some c → c.isOwn = true → σ[j]? = some (some (.ref b)) → b ≠ p := fun {j c b} ne e w a z => R.sep j i p ne ⟨by rw [a, z], c, e, w⟩ ⟨hσ, _, hi, hown⟩
  have cm : ∀ {v : Option V}, CellOk K G (upd H p u) v (.io o') → CellOk K G (upd H p u) v (mk o') := fun {v} q => by rcases hmk with rfl | rfl <;> exact q
  have ntb : ∀ q ∈ Td.T, q.1 ≠ p := by
    obtain ⟨v, e1, q⟩ := R.cell i _ hi
    rw [hσ] at e1
    cases e1
    have q : CellOk K G H (some (.ref p)) (.io o) := by rcases hmk with rfl | rfl <;> exact q
    obtain ⟨b, e2, _, q⟩ := q
    cases e2
    exact R.tab.ne q.notbl
  refine ⟨⟨fun b w e => ?_, by rw [List.length_set]; exact R.len, fun j c e => ?_, fun j k b hjk a1 a2 => ?_, R.tab.put ntb⟩, ⟨Same.refl _, fun b w e n1 n2 => ?_, fun b e => ?_, fun b w e => .inl e, fun b => ?_, fun j w e => ?_, fun j w e => ?_, rfl⟩⟩
  · rw [upd_ne (ne_of_none e hg)]
    exact R.gh b w e
  · rcases getset e with ⟨rfl, rfl, _⟩ | ⟨ne, e⟩
    · exact ⟨_, hσ, cm ⟨p, rfl, hg, hn⟩⟩
    · obtain ⟨v, e1, q⟩ := R.cell j c e
      refine ⟨v, e1, ?_⟩
      cases c with
      | fn _ _ => exact q
      | nd _ => exact q
      | un => trivial
      | val d => exact q
      | own w => obtain ⟨b, e2, g, q⟩ := q; exact ⟨b, e2, g, q.mono (Same.refl _) fun u' z => by rw [upd_ne (apart ne e rfl (e2 ▸ e1))]; exact z⟩
      | io w => obtain ⟨b, e2, g, q⟩ := q; exact ⟨b, e2, g, q.mono (Same.refl _) fun u' z => by rw [upd_ne (apart ne e rfl (e2 ▸ e1))]; exact z⟩
  · have down : ∀ {j : Nat}, At σ (ρ.set i (mk o')) j b → At σ ρ j b := fun {j} ⟨b1, c, b2, b3⟩ => by
      rcases getset b2 with ⟨rfl, rfl, _⟩ | ⟨ne, e⟩
      · exact ⟨b1, _, hi, hown⟩
      · exact ⟨b1, c, e, b3⟩
    exact R.sep j k b hjk (down a1) (down a2)
  · rw [upd_ne fun z => ?_]
    · exact e
    · subst z
      rcases hmk with rfl | rfl
      · exact n2 (.inl ⟨i, o, hi, hσ⟩)
      · exact n1 ⟨i, o, hi, hσ⟩
  · by_cases hb : b = p
    · subst hb; rw [upd_same] at e; cases e
    · rw [upd_ne hb] at e; exact e
  · rintro ⟨j, w, e, a⟩
    rcases getset e with ⟨rfl, z, _⟩ | ⟨ne, e⟩
    · rcases hmk with rfl | rfl
      · cases z
      · exact .inl ⟨j, o, hi, a⟩
    · exact .inl ⟨j, w, e, a⟩
  · refine ⟨rfl, ?_⟩
    by_cases hj : j = i
    · subst hj
      rw [hi] at e
      rcases hmk with rfl | rfl
      · exact ⟨o', setself hi⟩
      · cases e
    · rw [List.getElem?_set_ne (Ne.symm hj)]
      exact ⟨w, e⟩
  · rcases getset e with ⟨rfl, z, _⟩ | ⟨ne, e⟩
    · rcases hmk with rfl | rfl
      · exact ⟨o, hi⟩
      · cases z
    · exact ⟨w, e⟩
/-- what is known of a held object, and what a change of it leaves -/
theorem Rel.heldAny {K : PySem.W.Frag} {G H : Hp} {σ : St} {ρ : DEnv} {i : Nat} {ds : List PyData} (R : Rel K G σ H ρ) (h : heldL i ρ = some ds) : ∃ p vs, σ[i]? = some (some (.ref p)) ∧ H p = some (.lst vs) ∧ RpAll K G vs ds ∧
    ∀ (o' : OD) (u : HO), OwnAt K G (upd H p u) p o' → Rel K G σ (upd H p u) (setHeld i o' ρ) ∧ Stp G H σ ρ G (upd H p u) σ (setHeld i o' ρ) := by
  unfold heldL at h
  cases q : ρ[i]? with
  | none => rw [q] at h; cases h
  | some cl =>
    rw [q] at h
    obtain ⟨v0, e0, q0⟩ := R.cell i cl q
    cases cl with
    | fn _ _ => cases h
    | nd _ => cases h
    | un => cases h
    | val _ => cases h
    | own o =>
      cases o with
      | dk _ => cases h
      | dt _ => cases h
      | ins _ _ => cases h
      | dn _ => cases h
      | ts _ _ _ => cases h
      | db _ => cases h
      | lst ds => cases h; obtain ⟨b, rfl, g, vs, h1, h2⟩ := q0; exact ⟨b, vs, e0, h1, h2, fun o' u hn => by unfold setHeld; rw [q]; exact R.heldObj (mk := .own) (.inr rfl) q e0 g ⟨_, h1⟩ hn⟩
    | io o =>
      cases o with
      | dk _ => cases h
      | dt _ => cases h
      | ins _ _ => cases h
      | dn _ => cases h
      | ts _ _ _ => cases h
      | db _ => cases h
      | lst ds => cases h; obtain ⟨b, rfl, g, vs, h1, h2⟩ := q0; exact ⟨b, vs, e0, h1, h2, fun o' u hn => by unfold setHeld; rw [q]; exact R.heldObj (mk := .io) (.inl rfl) q e0 g ⟨_, h1⟩ hn⟩
/-- the name of a held list has a value, whatever is done meanwhile -/
theorem Rel.heldV {K : PySem.W.Frag} {G H : Hp} {σ : St} {ρ : DEnv} {i : Nat} (R : Rel K G σ H ρ) (h : (ρ[i]?.getD .un).isOwn = true) : ∃ p, σ[i]? = some (some (.ref p)) := by
  cases q : ρ[i]? with
  | none => rw [q] at h; cases h
  | some cl =>
    rw [q] at h
    obtain ⟨v0, e0, q0⟩ := R.cell i cl q
    cases cl with
    | fn _ _ => cases h
    | nd _ => cases h
    | un => cases h
    | val _ => cases h
    | own o => obtain ⟨b, rfl, _⟩ := q0; exact ⟨b, e0⟩
    | io o => obtain ⟨b, rfl, _⟩ := q0; exact ⟨b, e0⟩
def isHeld (i : Nat) (ρ : DEnv) : Bool := match heldL i ρ with
  | some _ => true
  | none => false
theorem isHeld_some {i : Nat} {ρ : DEnv} (h : isHeld i ρ = true) : ∃ ds, heldL i ρ = some ds := by
  unfold isHeld at h
  cases q : heldL i ρ with
  | none => rw [q] at h; cases h
  | some ds => exact ⟨ds, rfl⟩
/-- x.append(e) -/
def sApp (i : Nat) (f : DEnv → Res PyData) : DEnv → Res Out := fun ρ => if isHeld i ρ = true then (f ρ).bind fun d ρ1 => match heldL i ρ1 with
  | some ds => if ds.length < sizeLine then .ok .nx (setHeld i (.lst (ds ++ [d])) ρ1) else .bad
  | none => .bad else .bad
theorem s_app {x : Str} {px ap : Pos} {pos' : Pos} (i : Nat) (hx : PE X (.Name x px) (tVar i)) (ha : EJ X E a fa)
    (hp : ∀ to t, PE X (.Name x px) to → PA X [a] t → PS X (.Expr (.Call (.Attribute (.Name x px) "append" ap) [a] [] pos) pos') (tDrop (tBM X.K "list" rAppend to t)))
    (hs : starEach [a] X.env = (false, eval a X.env) :: starEach [] X.env := by rfl) : SJ X E (.Expr (.Call (.Attribute (.Name x px) "append" ap) [a] [] pos) pos') (sApp i fa) := by
  obtain ⟨t, q, p⟩ := ha
  refine ⟨_, hp _ _ hx (pa_cons q pa_nil hs), fun σ G H ρ D R h => ?_⟩
  unfold sApp at h
  by_cases hc : isHeld i ρ = true
  case neg => rw [if_neg hc] at h; exact h.elim
  rw [if_pos hc] at h
  obtain ⟨ds0, hh⟩ := isHeld_some hc
  obtain ⟨b, vs, e0, e1, e2⟩ := R.held hh
  refine ⟨.ref b, e0, .inl ⟨rfl, vs, SqL.of e1⟩, p σ G H ρ _ R (SPost.bind h fun G1 H1 y d ρ1 R1 S1 hy h1 => ?_)⟩
  cases q1 : heldL i ρ1 with
  | none => rw [q1] at h1; exact h1.elim
  | some ds =>
    rw [q1] at h1
    obtain ⟨b1, vs1, f0, f1, f2, f3⟩ := R1.heldAny q1
    rw [e0] at f0
    cases f0
    have hl := RpAll.len f2
    have h1 : SPost X.K X.mg E D σ G1 H1 ρ1 (if ds.length < sizeLine then .ok .nx (setHeld i (.lst (ds ++ [d])) ρ1) else .bad) := h1
    by_cases hz : ds.length < sizeLine
    · rw [if_pos hz] at h1
      obtain ⟨R2, S2⟩ := f3 (.lst (ds ++ [d])) (.lst (vs1 ++ [y])) ⟨_, upd_same, RpAll.app f2 (.cons hy .nil)⟩
      exact ⟨b, vs1, y, rfl, rfl, f1, by omega, h1 _ _ _ R2 S2⟩
    · rw [if_neg hz] at h1
      exact h1.elim
theorem at_rp {K : PySem.W.Frag} {G : Hp} {vs : List V} {ds : List PyData} {k : Int} {d : PyData} (h : RpAll K G vs ds) (e : atI ds k = some d) : ∃ v, atI vs k = some v ∧ Rp K G v d := by
  unfold atI at e ⊢
  rw [RpAll.len h]
  cases q : ixN ds.length k with
  | none => rw [q] at e; cases e
  | some j =>
    rw [q] at e
    exact RpAll.get h e
/-- x.pop(e) -/
def dPopAt (i : Nat) (f : DEnv → Res PyData) : DEnv → Res PyData := fun ρ => if isHeld i ρ = true then (f ρ).bind fun k ρ1 => match heldL i ρ1, k with
  | some ds, .int k => match ixN ds.length k with
    | some j => match ds[j]? with
      | some d => if ds.length ≤ sizeLine then .ok d (setHeld i (.lst (ds.eraseIdx j)) ρ1) else .bad
      | none => .bad
    | none => .bad
  | _, _ => .bad else .bad
/-- x[e1] = e2 -/
def sSetH (i : Nat) (f g : DEnv → Res PyData) : DEnv → Res Out := fun ρ => (f ρ).bind fun d ρ1 => if isHeld i ρ1 = true then (g ρ1).bind fun k ρ2 => match heldL i ρ2, k with
  | some ds, .int k => match ixN ds.length k with
    | some j => .ok .nx (setHeld i (.lst (ds.set j d)) ρ2)
    | none => .bad
  | _, _ => .bad else .bad
end
end DL
set_option Elab.async false
set_option linter.all false
set_option maxRecDepth 100000
set_option maxHeartbeats 4000000
namespace DL
open PySem PySem.Spec PyProof.Rows L2
variable [Td]
def iSeq (f : DEnv → Res PyData) : DEnv → Res (List PyData) := fun ρ => (f ρ).bind fun d ρ1 => Res.of ((seqOf d).map (·.2)) ρ1
/-- the ints from lo on, n of them -/
def intsD (lo : Int) (n : Nat) : List PyData := (List.range n).map fun i => PyData.int (lo + (i : Nat))
def inR (i : Int) : Prop := -(2 ^ 62) ≤ i ∧ i < 2 ^ 62
instance (i : Int) : Decidable (inR i) := inferInstanceAs (Decidable (_ ∧ _))
def rng1 : List PyData → Option (List PyData)
  | [.int j] => if inR j then some (intsD 0 j.toNat) else none
  | _ => none
def rng2 : List PyData → Option (List PyData)
  | [.int i, .int j] => if inR i ∧ inR j then some (intsD i (j - i).toNat) else none
  | _ => none
def iRng (op : List PyData → Option (List PyData)) (f : DEnv → Res (List PyData)) : DEnv → Res (List PyData) := fun ρ => (f ρ).bind fun ds ρ1 => Res.of (op ds) ρ1
def numbered : Nat → List PyData → List PyData
  | _, [] => []
  | n, d :: r => .tuple [.int (n : Nat), d] :: numbered (n + 1) r
theorem numbered_get : ∀ (n i : Nat) (ds : List PyData) (d : PyData), (numbered n ds)[i]? = some d → ∃ x, ds[i]? = some x ∧ d = .tuple [.int ((n + i : Nat) : Nat), x]
  | n, i, [], d, h => by simp [numbered] at h
  | n, 0, x :: r, d, h => by simp [numbered] at h; exact ⟨x, rfl, h.symm⟩
  | n, i + 1, x :: r, d, h => by
    obtain ⟨y, h1, h2⟩ := numbered_get (n + 1) i r d (by simpa [numbered] using h)
    exact ⟨y, by simpa using h1, by rw [h2, show n + 1 + i = n + (i + 1) by omega]⟩
theorem numbered_len : ∀ (n : Nat) (ds : List PyData), (numbered n ds).length = ds.length
  | _, [] => rfl
  | n, d :: r => congrArg (· + 1) (numbered_len (n + 1) r)
def paired : List PyData → List PyData → List PyData
  | x :: xs, y :: ys => .tuple [x, y] :: paired xs ys
  | _, _ => []
def zipOf : PyData → PyData → Option (List PyData)
  | .list xs, .list ys => some (paired xs ys)
  | .tuple xs, .tuple ys => some (paired xs ys)
  | _, _ => none
def iZipD (f : DEnv → Res (List PyData)) : DEnv → Res (List PyData) := fun ρ => (f ρ).bind fun ds ρ1 => match ds with
  | [d, e] => Res.of (zipOf d e) ρ1
  | _ => .bad
section
variable {X : Cx} {E : WX} {a b c e tg : Expr} {es : List Expr} {fa fb : DEnv → Res PyData} {fl : DEnv → Res (LK × List PyData)} {fs fi : DEnv → Res (List PyData)} {pos : Pos}
theorem IPost.bind {K : PySem.W.Frag} {mg : Str → Option Value} {α γ : Type} {rep1 : Hp → γ → α → Prop} {σ : St} {G H : Hp} {ρ : DEnv} {Q : It → Hp → Prop} {Q1 : γ → Hp → Prop} {r : Res α} {k : α → DEnv → Res (List PyData)}
    (h : IPost K mg E σ G H ρ Q (r.bind k))
    (f : ∀ G1 H1 x a ρ1, Rel K G1 σ H1 ρ1 → Stp G H σ ρ G1 H1 σ ρ1 → rep1 G1 x a → IPost K mg E σ G1 H1 ρ1 Q (k a ρ1) → Q1 x H1) : Post K mg E rep1 σ G H ρ Q1 r := by
  cases r with
  | ok a ρ' =>
    intro G1 H1 v R S q
    refine f G1 H1 v a ρ' R S q ?_
    have h : IPost K mg E σ G H ρ Q (k a ρ') := h
    cases z : k a ρ' with
    | ok ds ρ2 => rw [z] at h; exact fun G' H' J R' S' q' => h G' H' J R' (S.trans S') q'
    | err x ρ2 => rw [z] at h; exact fun G' H' c od R' S' q' => h G' H' c od R' (S.trans S') q'
    | bad => rw [z] at h; exact h
  | err x ρ' => exact h
  | bad => exact h
theorem IPost.done {K : PySem.W.Frag} {mg : Str → Option Value} {σ : St} {G H : Hp} {ρ : DEnv} {Q : It → Hp → Prop} {ds : List PyData} {J : It} (R : Rel K G σ H ρ) (h : IPost K mg E σ G H ρ Q (.ok ds ρ)) (q : Walks K J G ds) : Q J H := h G H J R Stp.refl q
def iAny (K : PySem.W.Frag) (tl : TE) : TI := fun σ H R => tl σ H fun x H1 => ∃ a, x = .ref a ∧ ((∃ xs, SqL K H1 a xs ∧ R (Itl K a) H1) ∨ (∃ xs, SqT K H1 a xs ∧ R (Itt K a) H1))
theorem pi_any {l : Expr} {tl : TE} (hl : PE X l tl) : PI X tg l (iAny X.K tl) := by
  refine ⟨fun pins s σ H R I h => ?_⟩
  refine thn (hl.run pins s σ H _ I h) fun v s1 ⟨x, H1, I1, r1, q1⟩ => ?_
  obtain ⟨a, e, q1⟩ := q1
  subst e
  cases r1
  rcases q1 with ⟨xs, hq, q⟩ | ⟨xs, hq, q⟩
  · obtain ⟨its, rv, p, hz⟩ := I1.list hq
    refine wpAny_pyIter_list p.isList ?_
    refine ⟨s1.heap.objs.size, [s1.heap.objs.size], _, _, H1, rfl, I1.kept (t' := s1.toks) fun b o e => Heap.get?_push_of_some _ e, turn_list a _, ⟨_, Heap.get?_push_size _ rfl, rfl, rfl⟩, fun b hb => ?_, q⟩
    have e : b = s1.heap.objs.size := by simpa using hb
    subst e
    exact I1.fpOk (Nat.le_refl _) (I1.hok.fresh (Nat.le_refl _))
  · obtain ⟨its, rv, p, hz⟩ := I1.tuple hq
    refine wpAny_pyIter_tuple (show s1.heap.IsTuple a its.toArray from p) ?_
    refine ⟨s1.heap.objs.size, [s1.heap.objs.size], _, _, H1, rfl, I1.kept (t' := s1.toks) fun b o e => Heap.get?_push_of_some _ e, turn_tuple a _, ⟨_, Heap.get?_push_size _ rfl, rfl, rfl⟩, fun b hb => ?_, q⟩
    have e : b = s1.heap.objs.size := by simpa using hb
    subst e
    exact I1.fpOk (Nat.le_refl _) (I1.hok.fresh (Nat.le_refl _))
theorem walks_Itl {K : PySem.W.Frag} {G : Hp} {p : Addr} {vs : List V} {ds : List PyData} (h1 : SqL K G p vs) (h2 : RpAll K G vs ds) : Walks K (Itl K p) G ds := fun i G1 H1 s1 s2 => by
  have hq : SqL K H1 p vs := s2.seq (s1.seq h1)
  refine ⟨fun d hd => ?_, fun hle => ⟨vs, hq, by rw [RpAll.len h2]; exact hle⟩⟩
  obtain ⟨v, g1, g2⟩ := RpAll.get h2 hd
  refine ⟨⟨vs, v, hq, g1⟩, fun x H2 ⟨e, hx⟩ => ?_⟩
  subst e
  have := hx vs hq
  rw [g1] at this
  cases this
  exact ⟨G1, Grow.refl, Rp.mono s1 g2⟩
theorem walks_Itt {K : PySem.W.Frag} {G : Hp} {p : Addr} {vs : List V} {ds : List PyData} (h1 : SqT K G p vs) (h2 : RpAll K G vs ds) : Walks K (Itt K p) G ds := fun i G1 H1 s1 s2 => by
  have hq : SqT K H1 p vs := Same.seqT s2 (Same.seqT s1 h1)
  refine ⟨fun d hd => ?_, fun hle => ⟨vs, hq, by rw [RpAll.len h2]; exact hle⟩⟩
  obtain ⟨v, g1, g2⟩ := RpAll.get h2 hd
  refine ⟨⟨vs, v, hq, g1⟩, fun x H2 ⟨e, hx⟩ => ?_⟩
  subst e
  have := hx vs hq
  rw [g1] at this
  cases this
  exact ⟨G1, Grow.refl, Rp.mono s1 g2⟩
theorem i_seq (ha : EJ X E a fa) : IJ X E tg a (iSeq fa) := by
  obtain ⟨t, q, p⟩ := ha
  refine ⟨_, pi_any q, fun σ G H ρ Q R h => p σ G H ρ _ R (IPost.bind h fun G1 H1 x d ρ1 R1 S1 hx h1 => ?_)⟩
  cases s : seqOf d with
  | none => rw [s] at h1; exact h1.elim
  | some kd =>
    rw [s] at h1
    obtain ⟨b, vs, rfl, g1, g2⟩ := Rp.seq hx s
    obtain ⟨k, ds⟩ := kd
    cases k with
    | L => exact ⟨b, rfl, .inl ⟨vs, R1.gh.seq g1, IPost.done R1 h1 (walks_Itl g1 g2)⟩⟩
    | T => exact ⟨b, rfl, .inr ⟨vs, Same.seqT R1.gh g1, IPost.done R1 h1 (walks_Itt g1 g2)⟩⟩
theorem ints_get {lo : Int} {n i : Nat} {d : PyData} (h : (intsD lo n)[i]? = some d) : i < n ∧ d = .int (lo + (i : Nat)) := by
  unfold intsD at h
  rw [List.getElem?_map] at h
  by_cases hi : i < n
  · rw [List.getElem?_range hi] at h
    exact ⟨hi, (Option.some.inj h).symm⟩
  · rw [List.getElem?_eq_none (by simpa using hi)] at h
    cases h
theorem ints_len (lo : Int) (n : Nat) : (intsD lo n).length = n := by simp [intsD]
theorem walks_rng {K : PySem.W.Frag} {G : Hp} (lo : Int) (n : Nat) : Walks K (Itr lo n) G (intsD lo n) := fun i G1 H1 _ _ => by
  refine ⟨fun d hd => ?_, fun hle => by rw [ints_len] at hle; exact hle⟩
  obtain ⟨hi, rfl⟩ := ints_get hd
  exact ⟨hi, fun x H2 ⟨e1, e2⟩ => by subst e1 e2; exact ⟨G1, Grow.refl, .int _⟩⟩
theorem i_rng1 {p : Pos} (hg : Gl X "range") (hm : X.mg "range" = none) (ha : AJ X E [a] fs) (hs : starEach [a] X.env = [(false, eval a X.env)] := by rfl) : IJ X E tg (.Call (.Name "range" p) [a] [] pos) (iRng rng1 fs) := by
  obtain ⟨_, t, q, p⟩ := ha
  refine ⟨_, pi_range1 hg hm q hs, fun σ G H ρ Q R h => p σ G H ρ _ R (IPost.bind h fun G1 H1 xs ds ρ1 R1 S1 hx h1 => ?_)⟩
  unfold rng1 at h1
  cases hx with
  | nil => exact h1.elim
  | cons q1 q2 =>
    cases q2 with
    | cons _ _ => cases q1 <;> exact h1.elim
    | nil =>
      cases q1 with
      | int j =>
        simp only at h1
        by_cases hj : inR j
        · rw [if_pos hj] at h1
          exact ⟨j, rfl, hj.1, hj.2, IPost.done R1 h1 (walks_rng 0 j.toNat)⟩
        · rw [if_neg hj] at h1
          exact h1.elim
      | _ => exact h1.elim
theorem grow_new {K : PySem.W.Frag} {G H : Hp} {T : Addr} {o : HO} (h : H T = none) (hg : G T = none) : Grow K G H (upd G T o) (upd H T o) := fun σ ρ R => ⟨R.alloc h o, Stp.alloc h hg o⟩
end
def wipeC (ρ : DEnv) : List Nat → DEnv
  | [] => ρ
  | v :: vs => (wipeC ρ vs).set v .un
/-- the slots vs as they were in ρ, the others as they are in ρ' -/
def unwipe (vs : List Nat) (ρ ρ' : DEnv) : DEnv := ρ'.mapIdx fun i c => if i ∈ vs then ρ[i]?.getD .un else c
def lcL (vs : List Nat) (gd : PyData → DEnv → Option DEnv) (ft : DEnv → Res Bool) (fe : DEnv → Res PyData) : List PyData → List PyData → DEnv → Res (List PyData)
  | [], acc, ρ => .ok acc ρ
  | d :: ds, acc, ρ => match gd d ρ with
    | none => .bad
    | some ρ1 => match ft ρ1 with
      | .ok true ρ2 => match fe ρ2 with
        | .ok y ρ3 => if acc.length < sizeLine then lcL vs gd ft fe ds (acc ++ [y]) (wipeC ρ3 vs) else .bad
        | _ => .bad
      | .ok false ρ2 => lcL vs gd ft fe ds acc (wipeC ρ2 vs)
      | _ => .bad
def fLc (vs : List Nat) (fi : DEnv → Res (List PyData)) (gd : PyData → DEnv → Option DEnv) (ft : DEnv → Res Bool) (fe : DEnv → Res PyData) : DEnv → Res OD := fun ρ => (fi ρ).bind fun ds ρ1 => match lcL vs gd ft fe ds [] (wipeC ρ1 vs) with
  | .ok acc ρ2 => .ok (.lst acc) (unwipe vs ρ1 ρ2)
  | _ => .bad
def tTrue : DEnv → Res Bool := fun ρ => .ok true ρ
theorem wipeC_len (ρ : DEnv) : ∀ vs, (wipeC ρ vs).length = ρ.length
  | [] => rfl
  | v :: vs => by unfold wipeC; rw [List.length_set, wipeC_len ρ vs]
theorem wipeC_get {ρ : DEnv} {i : Nat} {c : Cell} : ∀ {vs : List Nat}, (wipeC ρ vs)[i]? = some c → (i ∈ vs ∧ c = .un) ∨ (i ∉ vs ∧ ρ[i]? = some c)
  | [], h => .inr ⟨by simp, h⟩
  | v :: vs, h => by
    unfold wipeC at h
    rcases getset h with ⟨rfl, rfl, _⟩ | ⟨ne, h⟩
    · exact .inl ⟨List.mem_cons_self .., rfl⟩
    · rcases wipeC_get h with ⟨z1, z2⟩ | ⟨z1, z2⟩
      · exact .inl ⟨List.mem_cons_of_mem _ z1, z2⟩
      · refine .inr ⟨fun z => ?_, z2⟩
        rcases List.mem_cons.mp z with z | z
        · exact ne z
        · exact z1 z
theorem wipeC_out {ρ : DEnv} {i : Nat} : ∀ {vs : List Nat}, i ∉ vs → (wipeC ρ vs)[i]? = ρ[i]?
  | [], _ => rfl
  | v :: vs, h => by
    unfold wipeC
    rw [List.getElem?_set_ne fun z => h (by rw [z]; exact List.mem_cons_self ..)]
    exact wipeC_out fun z => h (List.mem_cons_of_mem _ z)
theorem wipe_out {σ : St} {i : Nat} : ∀ {vs : List Nat}, i ∉ vs → (wipe σ vs)[i]? = σ[i]?
  | [], _ => rfl
  | v :: vs, h => by
    unfold wipe
    rw [List.getElem?_set_ne fun z => h (by rw [z]; exact List.mem_cons_self ..)]
    exact wipe_out fun z => h (List.mem_cons_of_mem _ z)
theorem wipe_eq {σ σ' : St} {vs : List Nat} (hl : σ'.length = σ.length) (h : ∀ j, j ∉ vs → σ'[j]? = σ[j]?) : wipe σ' vs = wipe σ vs := by
  apply List.ext_getElem?
  intro i
  by_cases hi : i ∈ vs
  · have key : ∀ (τ : St) (ws : List Nat), i ∈ ws → (wipe τ ws)[i]? = if i < τ.length then some none else none := fun τ ws hw => by
      induction ws with
      | nil => cases hw
      | cons v ws ih =>
        unfold wipe
        by_cases e : v = i
        · subst e
          by_cases hlt : v < τ.length
          · rw [if_pos hlt, List.getElem?_set_self (by rw [wipe_length]; exact hlt)]
          · rw [if_neg hlt]
            exact List.getElem?_eq_none (by rw [List.length_set, wipe_length]; omega)
        · rw [List.getElem?_set_ne e]
          exact ih ((List.mem_cons.mp hw).resolve_left fun z => e z.symm)
    rw [key σ' vs hi, key σ vs hi, hl]
  · rw [wipe_out hi, wipe_out hi, h i hi]
section
variable {K : PySem.W.Frag} {G H : Hp} {σ : St} {ρ : DEnv} {vs : List Nat}
/-- the slots vs are forgotten -/
theorem Rel.wiped (R : Rel K G σ H ρ) (vs : List Nat) : Rel K G (wipe σ vs) H (wipeC ρ vs) := by
  refine ⟨R.gh, by rw [wipe_length, wipeC_len]; exact R.len, fun i c e => ?_, fun i j p hij a b => ?_, R.tab⟩
  · rcases wipeC_get e with ⟨z1, rfl⟩ | ⟨z1, z2⟩
    · have hi : i < (wipe σ vs).length := by
        have := (List.getElem?_eq_some_iff.mp e).1
        rw [wipeC_len] at this
        rw [wipe_length, R.len]; exact this
      exact ⟨_, List.getElem?_eq_getElem hi, trivial⟩
    · rw [wipe_out z1]
      exact R.cell i c z2
  · have down : ∀ {i : Nat}, At (wipe σ vs) (wipeC ρ vs) i p → At σ ρ i p := fun {i} ⟨a1, c, a2, a3⟩ => by
      rcases wipeC_get a2 with ⟨z1, rfl⟩ | ⟨z1, z2⟩
      · cases a3
      · rw [wipe_out z1] at a1
        exact ⟨a1, c, z2, a3⟩
    exact R.sep i j p hij (down a) (down b)
theorem OwnL.unwiped {b : Addr} (h : OwnL (wipe σ vs) (wipeC ρ vs) b) : OwnL σ ρ b := by
  obtain ⟨i, o, e, w⟩ := h
  rcases wipeC_get e with ⟨z1, z2⟩ | ⟨z1, z2⟩
  · cases z2
  · rw [wipe_out z1] at w; exact ⟨i, o, z2, w⟩
theorem OwnI.unwiped {b : Addr} (h : OwnI (wipe σ vs) (wipeC ρ vs) b) : OwnI σ ρ b := by
  obtain ⟨i, o, e, w⟩ | h := h
  case inr => exact .inr h
  rcases wipeC_get e with ⟨z1, z2⟩ | ⟨z1, z2⟩
  · cases z2
  · rw [wipe_out z1] at w; exact .inl ⟨i, o, z2, w⟩
/-- behind a turn: from the turn's slots back to the wiped ones; no io slot is among vs -/
theorem Stp.wiped {G0 H0 : Hp} {σ0 : St} {ρ0 : DEnv} (S : Stp G0 H0 (wipe σ0 vs) ρ0 G H σ ρ) (hw : wipe σ vs = wipe σ0 vs) (h0 : ∀ i ∈ vs, ∀ o, ρ0[i]? ≠ some (.io o)) : Stp G0 H0 (wipe σ0 vs) ρ0 G H (wipe σ0 vs) (wipeC ρ vs) := by
  have out : ∀ {i : Nat} {o : OD}, ρ0[i]? = some (.io o) → i ∉ vs := fun {i o} e hi => h0 i hi o e
  refine ⟨S.same, S.frame, S.keep, S.fresh, fun b h => ?_, fun i o e => ⟨rfl, ?_⟩, fun i o e => ?_, rfl⟩
  · exact S.ownl b (OwnL.unwiped (vs := vs) (by rw [hw]; exact h))
  · obtain ⟨_, o', e'⟩ := S.io i o e
    rw [wipeC_out (out e)]
    exact ⟨o', e'⟩
  · rcases wipeC_get e with ⟨z1, z2⟩ | ⟨z1, z2⟩
    · cases z2
    · exact S.oi i o z2
/-- the heap without D -/
def era (D : Addr) (H : Hp) : Hp := fun b => if b = D then none else H b
theorem era_ne {D b : Addr} {H : Hp} (h : b ≠ D) : era D H b = H b := by unfold era; rw [if_neg h]
theorem era_same {D : Addr} {H : Hp} : era D H D = none := by unfold era; rw [if_pos rfl]
theorem Stp.era {G' H' : Hp} {σ' : St} {ρ' : DEnv} (D : Addr) (S : Stp G H σ ρ G' H' σ' ρ') : Stp G (DL.era D H) σ ρ G' (DL.era D H') σ' ρ' := by
  refine ⟨S.same, fun b o e n1 n2 => ?_, fun b e => ?_, fun b o e => ?_, fun b h => ?_, S.io, S.oi, S.len⟩
  · by_cases hb : b = D
    · subst hb; rw [era_same] at e; cases e
    · rw [era_ne hb] at e ⊢; exact S.frame b o e n1 n2
  · by_cases hb : b = D
    · subst hb; exact era_same
    · rw [era_ne hb] at e ⊢; exact S.keep b e
  · rcases S.fresh b o e with z | z | z
    · exact .inl z
    · refine .inr (.inl ?_)
      by_cases hb : b = D
      · subst hb; exact era_same
      · rw [era_ne hb]; exact z
    · exact .inr (.inr z)
  · rcases S.ownl b h with z | z
    · exact .inl z
    · refine .inr ?_
      by_cases hb : b = D
      · subst hb; exact era_same
      · rw [era_ne hb]; exact z
theorem Rel.era (D : Addr) (R : Rel K G σ H ρ) (hg : G D = none) (h1 : ¬ OwnL σ ρ D) (h2 : ¬ OwnI σ ρ D) : Rel K G σ (DL.era D H) ρ := by
  refine ⟨fun b o e => ?_, R.len, fun i c e => ?_, R.sep, ⟨fun q hq => ?_⟩⟩
  case refine_3 =>
    obtain ⟨g, ps, a, b, c⟩ := R.tab.at_ q hq
    exact ⟨g, ps, by rw [era_ne fun z => h2 (.inr ⟨q, hq, z⟩)]; exact a, b, c⟩
  · rw [era_ne (ne_of_none e hg)]; exact R.gh b o e
  · obtain ⟨v, e1, q⟩ := R.cell i c e
    refine ⟨v, e1, ?_⟩
    cases c with
    | fn _ _ => exact q
    | nd _ => exact q
    | un => trivial
    | val d => exact q
    | own o =>
      obtain ⟨b, e2, g, q⟩ := q
      have hb : b ≠ D := fun z => h1 ⟨i, o, e, by rw [e1, e2, z]⟩
      exact ⟨b, e2, g, q.mono (Same.refl _) fun u hu => by rw [era_ne hb]; exact hu⟩
    | io o =>
      obtain ⟨b, e2, g, q⟩ := q
      have hb : b ≠ D := fun z => h2 (.inl ⟨i, o, e, by rw [e1, e2, z]⟩)
      exact ⟨b, e2, g, q.mono (Same.refl _) fun u hu => by rw [era_ne hb]; exact hu⟩
theorem Rel.unera {D : Addr} (R : Rel K G σ (DL.era D H) ρ) : Rel K G σ H ρ := by
  have up : ∀ b o, DL.era D H b = some o → H b = some o := fun b o e => by
    by_cases hb : b = D
    · subst hb; rw [era_same] at e; cases e
    · rw [era_ne hb] at e; exact e
  refine ⟨fun b o e => up b o (R.gh b o e), R.len, fun i c e => ?_, R.sep, ⟨fun q hq => ?_⟩⟩
  case refine_2 =>
    obtain ⟨g, ps, a, b, c⟩ := R.tab.at_ q hq
    exact ⟨g, ps, up _ _ a, b, c⟩
  obtain ⟨v, e1, q⟩ := R.cell i c e
  refine ⟨v, e1, ?_⟩
  cases c with
  | fn _ _ => exact q
  | nd _ => exact q
  | un => trivial
  | val d => exact q
  | own o => obtain ⟨b, e2, g, q⟩ := q; exact ⟨b, e2, g, q.mono (Same.refl _) fun u hu => up b u hu⟩
  | io o => obtain ⟨b, e2, g, q⟩ := q; exact ⟨b, e2, g, q.mono (Same.refl _) fun u hu => up b u hu⟩
theorem unwipe_get {ρ ρ' : DEnv} {i : Nat} {c : Cell} (h : (unwipe vs ρ ρ')[i]? = some c) (hl : ρ'.length = ρ.length) : (i ∈ vs ∧ ρ[i]? = some c) ∨ (i ∉ vs ∧ ρ'[i]? = some c) := by
  unfold unwipe at h
  rw [List.getElem?_mapIdx] at h
  cases q : ρ'[i]? with
  | none => rw [q] at h; cases h
  | some c' =>
    rw [q] at h
    have h : (if i ∈ vs then ρ[i]?.getD .un else c') = c := Option.some.inj h
    by_cases hi : i ∈ vs
    · rw [if_pos hi] at h
      have hlt : i < ρ.length := by rw [← hl]; exact (List.getElem?_eq_some_iff.mp q).1
      rw [List.getElem?_eq_getElem hlt] at h ⊢
      exact .inl ⟨hi, by rw [← h]; rfl⟩
    · rw [if_neg hi] at h
      exact .inr ⟨hi, by rw [h]⟩
theorem unwipe_len (ρ ρ' : DEnv) : (unwipe vs ρ ρ').length = ρ'.length := by unfold unwipe; exact List.length_mapIdx
theorem unwipe_out {ρ ρ' : DEnv} {i : Nat} (h : i ∉ vs) : (unwipe vs ρ ρ')[i]? = ρ'[i]? := by
  unfold unwipe
  rw [List.getElem?_mapIdx]
  cases q : ρ'[i]? with
  | none => rfl
  | some c => exact congrArg some (if_neg h)
theorem unwipe_in {ρ ρ' : DEnv} {i : Nat} (h : i ∈ vs) (hl : ρ'.length = ρ.length) : (unwipe vs ρ ρ')[i]? = ρ[i]? := by
  unfold unwipe
  rw [List.getElem?_mapIdx]
  cases q : ρ'[i]? with
  | none =>
    have : ρ'.length ≤ i := List.getElem?_eq_none_iff.mp q
    rw [List.getElem?_eq_none (by omega)]
    rfl
  | some c =>
    have hlt : i < ρ.length := by rw [← hl]; exact (List.getElem?_eq_some_iff.mp q).1
    rw [List.getElem?_eq_getElem hlt]
    show some (if i ∈ vs then some (ρ[i]) |>.getD .un else c) = _
    rw [if_pos h]
    rfl
/-- behind a comprehension: the slots vs are as they were -/
theorem unwiped_ok {G' H' : Hp} {ρ' : DEnv} (R : Rel K G σ H ρ) (R' : Rel K G' (wipe σ vs) H' ρ') (S : Stp G H (wipe σ vs) (wipeC ρ vs) G' H' (wipe σ vs) ρ') :
    Rel K G' σ H' (unwipe vs ρ ρ') ∧ Stp G H σ ρ G' H' σ (unwipe vs ρ ρ') := by
  have hl : ρ'.length = ρ.length := by rw [← R'.len, wipe_length, R.len]
  -- cells among vs are untouched
  have hid : ∀ {i : Nat} {c : Cell} {b : Addr}, i ∈ vs → ρ[i]? = some c → c.isOwn = true → σ[i]? = some (some (.ref b)) → ¬ OwnL (wipe σ vs) (wipeC ρ vs) b ∧ ¬ OwnI (wipe σ vs) (wipeC ρ vs) b := fun {i c b} hi e w a => by
    refine ⟨fun ⟨j, o, f, g⟩ => ?_, fun h => h.elim (fun ⟨j, o, f, g⟩ => ?_) fun ⟨q, hq, z⟩ => R.ownNt e w a q hq z⟩
    · rcases wipeC_get f with ⟨_, z⟩ | ⟨z1, z2⟩
      · cases z
      · rw [wipe_out z1] at g
        exact R.sep i j b (fun z => z1 (z ▸ hi)) ⟨a, c, e, w⟩ ⟨g, _, z2, rfl⟩
    · rcases wipeC_get f with ⟨_, z⟩ | ⟨z1, z2⟩
      · cases z
      · rw [wipe_out z1] at g
        exact R.sep i j b (fun z => z1 (z ▸ hi)) ⟨a, c, e, w⟩ ⟨g, _, z2, rfl⟩
  have gfree : ∀ {b : Addr} {u : HO}, G b = none → H b = some u → ¬ OwnL (wipe σ vs) (wipeC ρ vs) b → G' b = none := fun {b u} g h n => by
    cases q : G' b with
    | none => rfl
    | some w =>
      rcases S.fresh b w q with z | z | z
      · rw [g] at z; cases z
      · rw [h] at z; cases z
      · exact absurd z n
  have hidOwn : ∀ {i : Nat} {c : Cell} {b : Addr} {o : OD}, i ∈ vs → ρ[i]? = some c → c.isOwn = true → σ[i]? = some (some (.ref b)) → G b = none → OwnAt K G H b o → G' b = none ∧ OwnAt K G' H' b o := fun {i c b o} hi e w a g q => by
    obtain ⟨n1, n2⟩ := hid hi e w a
    obtain ⟨u, hu⟩ := q.ex
    exact ⟨gfree g hu n1, q.mono S.same fun u' z => S.frame b u' z n1 n2⟩
  have outIO : ∀ {i : Nat} {o : OD}, i ∉ vs → ρ[i]? = some (.io o) → ∃ o', ρ'[i]? = some (.io o') := fun {i o} hi e => (S.io i o (by rw [wipeC_out hi]; exact e)).2
  refine ⟨⟨R'.gh, by rw [unwipe_len, hl]; exact R.len, fun i c e => ?_, fun i j p hij a b => ?_, R'.tab⟩, ⟨S.same, fun b o e n1 n2 => S.frame b o e (fun z => n1 z.unwiped) fun z => n2 z.unwiped, S.keep, fun b o e => ?_, fun b h => ?_, fun i o e => ⟨rfl, ?_⟩, fun i o e => ?_, rfl⟩⟩
  · rcases unwipe_get e hl with ⟨z1, z2⟩ | ⟨z1, z2⟩
    · obtain ⟨v, e1, q⟩ := R.cell i c z2
      refine ⟨v, e1, ?_⟩
      cases c with
      | fn _ _ => obtain ⟨x, e2, q⟩ := q; exact ⟨x, e2, ClM.mono S.same q⟩
      | nd _ => obtain ⟨x, e2, q⟩ := q; exact ⟨x, e2, NdM.mono S.same q⟩
      | un => trivial
      | val d => obtain ⟨x, e2, q⟩ := q; exact ⟨x, e2, Rp.mono S.same q⟩
      | own o => obtain ⟨b, e2, g, q⟩ := q; exact ⟨b, e2, hidOwn z1 z2 rfl (e2 ▸ e1) g q⟩
      | io o => obtain ⟨b, e2, g, q⟩ := q; exact ⟨b, e2, hidOwn z1 z2 rfl (e2 ▸ e1) g q⟩
    · obtain ⟨v, e1, q⟩ := R'.cell i c z2
      rw [wipe_out z1] at e1
      exact ⟨v, e1, q⟩
  · obtain ⟨a1, c1, a2, a3⟩ := a
    obtain ⟨b1, c2, b2, b3⟩ := b
    -- an owned cell outside of vs is owned in the wiped state, or new
    have outer : ∀ {k : Nat} {c : Cell}, k ∉ vs → ρ'[k]? = some c → c.isOwn = true → σ[k]? = some (some (.ref p)) → (OwnL (wipe σ vs) (wipeC ρ vs) p ∨ H p = none) ∨ OwnI (wipe σ vs) (wipeC ρ vs) p := fun {k c} hk e w a => by
      have a' : (wipe σ vs)[k]? = some (some (.ref p)) := by rw [wipe_out hk]; exact a
      cases c with
      | fn _ _ => cases w
      | nd _ => cases w
      | un => cases w
      | val _ => cases w
      | own o => exact .inl (S.ownl p ⟨k, o, e, a'⟩)
      | io o => exact .inr ((S.owni p).mp (.inl ⟨k, o, e, a'⟩))
    have clash : ∀ {k l : Nat} {c d : Cell}, k ∈ vs → ρ[k]? = some c → c.isOwn = true → σ[k]? = some (some (.ref p)) → l ∉ vs → ρ'[l]? = some d → d.isOwn = true → σ[l]? = some (some (.ref p)) → False := fun {k l c d} k1 k2 k3 k4 l1 l2 l3 l4 => by
      obtain ⟨n1, n2⟩ := hid k1 k2 k3 k4
      have hp : ∃ u, H p = some u := by
        obtain ⟨v, e1, q⟩ := R.cell k c k2
        rw [k4] at e1
        cases e1
        cases c with
        | fn _ _ => cases k3
        | nd _ => cases k3
        | un => cases k3
        | val _ => cases k3
        | own o => obtain ⟨b, e2, g, q⟩ := q; cases e2; exact q.ex
        | io o => obtain ⟨b, e2, g, q⟩ := q; cases e2; exact q.ex
      obtain ⟨u, hu⟩ := hp
      rcases outer l1 l2 l3 l4 with (z | z) | z
      · exact n1 z
      · rw [hu] at z; cases z
      · exact n2 z
    rcases unwipe_get a2 hl with ⟨z1, z2⟩ | ⟨z1, z2⟩
    · rcases unwipe_get b2 hl with ⟨y1, y2⟩ | ⟨y1, y2⟩
      · exact R.sep i j p hij ⟨a1, c1, z2, a3⟩ ⟨b1, c2, y2, b3⟩
      · exact clash z1 z2 a3 a1 y1 y2 b3 b1
    · rcases unwipe_get b2 hl with ⟨y1, y2⟩ | ⟨y1, y2⟩
      · exact clash y1 y2 b3 b1 z1 z2 a3 a1
      · exact R'.sep i j p hij ⟨by rw [wipe_out z1]; exact a1, c1, z2, a3⟩ ⟨by rw [wipe_out y1]; exact b1, c2, y2, b3⟩
  · rcases S.fresh b o e with z | z | z
    · exact .inl z
    · exact .inr (.inl z)
    · exact .inr (.inr z.unwiped)
  · obtain ⟨i, o, e, w⟩ := h
    rcases unwipe_get e hl with ⟨z1, z2⟩ | ⟨z1, z2⟩
    · exact .inl ⟨i, o, z2, w⟩
    · rcases S.ownl b ⟨i, o, z2, by rw [wipe_out z1]; exact w⟩ with z | z
      · exact .inl z.unwiped
      · exact .inr z
  · by_cases hi : i ∈ vs
    · rw [unwipe_in hi hl]; exact ⟨o, e⟩
    · rw [unwipe_out hi]; exact outIO hi e
  · rcases unwipe_get e hl with ⟨z1, z2⟩ | ⟨z1, z2⟩
    · exact ⟨o, z2⟩
    · obtain ⟨o', z3⟩ := S.oi i o z2
      rw [wipeC_out z1] at z3
      exact ⟨o', z3⟩
end
section
theorem Stp.unera {G H G' H' : Hp} {σ σ' : St} {ρ ρ' : DEnv} {D : Addr} (S : Stp G H σ ρ G' (DL.era D H') σ' ρ') : Stp G H σ ρ G' H' σ' ρ' := by
  refine ⟨S.same, fun b o e n1 n2 => ?_, fun b e => S.keep b ?_, S.fresh, S.ownl, S.io, S.oi, S.len⟩
  · have := S.frame b o e n1 n2
    by_cases hb : b = D
    · subst hb; rw [era_same] at this; cases this
    · rw [era_ne hb] at this; exact this
  · by_cases hb : b = D
    · subst hb; exact era_same
    · rw [era_ne hb]; exact e
theorem era_upd {D : Addr} {H : Hp} {o : HO} : DL.era D (upd H D o) = DL.era D H := by
  funext b
  unfold DL.era
  by_cases hb : b = D
  · rw [if_pos hb, if_pos hb]
  · rw [if_neg hb, if_neg hb, upd_ne hb]
/-- an object that stands beside goes on standing there -/
theorem Stp.track {G H G' H' : Hp} {σ σ' : St} {ρ ρ' : DEnv} {D : Addr} {u : HO} (S : Stp G H σ ρ G' H' σ' ρ') (hg : G D = none) (hh : H D = some u) (n1 : ¬ OwnL σ ρ D) (n2 : ¬ OwnI σ ρ D) :
    G' D = none ∧ H' D = some u ∧ ¬ OwnL σ' ρ' D ∧ ¬ OwnI σ' ρ' D := by
  refine ⟨?_, S.frame D u hh n1 n2, fun z => (S.ownl D z).elim n1 fun q => (by rw [hh] at q; cases q), fun z => n2 ((S.owni D).mp z)⟩
  cases q : G' D with
  | none => rfl
  | some w =>
    rcases S.fresh D w q with z | z | z
    · rw [hg] at z; cases z
    · rw [hh] at z; cases z
    · exact absurd z n1
variable (K : PySem.W.Frag) (mg : Str → Option Value) (E : WX)
def tG (is : List Nat) (gd : PyData → DEnv → Option DEnv) : TG := fun x σ H Q => ∃ G ρ d, Rel K G σ H ρ ∧ Rp K G x d ∧ GPost K σ G H ρ is Q (gd d ρ)
def tT (f : DEnv → Res Bool) : TT := fun σ H Q => ∃ G ρ, Rel K G σ H ρ ∧ Post K mg W0 (fun _ b c => b = c) σ G H ρ Q (f ρ)
def tE (f : DEnv → Res PyData) : TE := fun σ H Q => ∃ G ρ, Rel K G σ H ρ ∧ Post K mg W0 (Rp K) σ G H ρ Q (f ρ)
end
section
variable {X : Cx} {E : WX} {e tg iter elt : Expr} {ifs : List Expr} {scope : Scope} {fe : DEnv → Res PyData} {ft : DEnv → Res Bool} {fi : DEnv → Res (List PyData)} {gd : PyData → DEnv → Option DEnv} {pos : Pos} {vs is : List Nat}
theorem pe_t (h : EJ X W0 e fe) : PE X e (tE X.K X.mg fe) := by
  obtain ⟨t, q, p⟩ := h
  exact ⟨fun pins s σ H Q I ⟨G, ρ, R, h⟩ => q.run pins s σ H Q I (p σ G H ρ Q R h)⟩
theorem pg_t (h : GJ X tg is gd) : PG X tg (tG X.K is gd) := by
  obtain ⟨t, q, p⟩ := h
  refine ⟨fun pins s σ H x u Q I r hw => ?_⟩
  obtain ⟨G, ρ, d, R, hx, h⟩ := hw
  exact q.run pins s σ H x u Q I r (p σ G H ρ x d Q R hx h)
theorem lc_read {K : PySem.W.Frag} {mg : Str → Option Value} {σ : St} {G H : Hp} {ρ : DEnv} {Q : VK} {wi : TI} (his : ∀ j ∈ is, j ∈ vs)
    (pi : ∀ (σ : St) (G H : Hp) (ρ : DEnv) (R : It → Hp → Prop), Rel K G σ H ρ → IPost K mg E σ G H ρ R (fi ρ) → wi σ H R) (R : Rel K G σ H ρ) (h : FPost K mg E σ G H ρ Q (fLc vs fi gd ft fe ρ)) :
    tLc wi (tG K is gd) (tT K mg ft) (tE K mg fe) vs σ H Q := by
  refine pi σ G H ρ _ R ?_
  unfold fLc at h
  cases r : fi ρ with
  | bad => rw [r] at h; exact h
  | err x c => rw [r] at h; exact h
  | ok ds ρ1 =>
    rw [r, Res.bind_ok] at h
    generalize hT : lcL vs gd ft fe ds [] (wipeC ρ1 vs) = T at h
    intro G1 H1 J R1 S1 hw D hD
    have hgD : G1 D = none := R1.noneG hD
    have nL1 : ¬ OwnL σ ρ1 D := fun z => by obtain ⟨u, hu⟩ := R1.ownH z; rw [hD] at hu; cases hu
    have nI1 : ¬ OwnI σ ρ1 D := fun z => by obtain ⟨u, hu⟩ := R1.ownHI z; rw [hD] at hu; cases hu
    have Rw := R1.wiped vs
    have nL : ¬ OwnL (wipe σ vs) (wipeC ρ1 vs) D := fun z => nL1 z.unwiped
    have nI : ¬ OwnI (wipe σ vs) (wipeC ρ1 vs) D := fun z => nI1 z.unwiped
    refine ⟨fun i m Hc => ∃ (Gc : Hp) (ρc : DEnv) (acc : List PyData) (accV : List V), Rel K Gc (wipe σ vs) Hc ρc ∧ Stp G1 H1 (wipe σ vs) (wipeC ρ1 vs) Gc (DL.era D Hc) (wipe σ vs) ρc ∧ Gc D = none ∧ Hc D = some (.lst accV) ∧ ¬ OwnL (wipe σ vs) ρc D ∧ ¬ OwnI (wipe σ vs) ρc D ∧ RpAll K Gc accV acc ∧
      m = ds.length - i ∧ i ≤ ds.length ∧ lcL vs gd ft fe (ds.drop i) acc ρc = T, ⟨ds.length, G1, wipeC ρ1 vs, [], [], Rw.beside hgD nL nI _, ?_, hgD, upd_same, nL, nI, .nil, by omega, Nat.zero_le _, by rw [List.drop_zero]; exact hT⟩, ?_⟩
    · rw [era_upd]
      have e0 : DL.era D H1 = H1 := by
        funext b
        by_cases hb : b = D
        · subst hb; rw [era_same, hD]
        · rw [era_ne hb]
      rw [e0]
      exact Stp.refl
    · rintro i m Hc ⟨Gc, ρc, acc, accV, Rc, Sc, gD, hDc, oL, oI, ha, rfl, hle, heq⟩
      obtain ⟨w1, w2⟩ := hw i Gc Hc Sc.same Rc.gh
      by_cases hi : i < ds.length
      · have hd : ds.drop i = ds[i] :: ds.drop (i + 1) := List.drop_eq_getElem_cons hi
        rw [hd] at heq
        obtain ⟨go, yl⟩ := w1 ds[i] (List.getElem?_eq_getElem hi)
        refine .inr ⟨go, fun H' => ∃ (Gc : Hp) (ρc : DEnv) (acc : List PyData) (accV : List V), Rel K Gc (wipe σ vs) H' ρc ∧ Stp G1 H1 (wipe σ vs) (wipeC ρ1 vs) Gc (DL.era D H') (wipe σ vs) ρc ∧ Gc D = none ∧ H' D = some (.lst accV) ∧ ¬ OwnL (wipe σ vs) ρc D ∧ ¬ OwnI (wipe σ vs) ρc D ∧ RpAll K Gc accV acc ∧
          lcL vs gd ft fe (ds.drop (i + 1)) acc ρc = T, fun H' hN => ?_, fun x H' hy => ?_⟩
        · obtain ⟨a1, a2, a3, a4, b1, b2, b3, b4, b5, b6, b7, b8⟩ := hN
          exact ⟨ds.length - (i + 1), by omega, a1, a2, a3, a4, b1, b2, b3, b4, b5, b6, b7, rfl, hi, b8⟩
        · obtain ⟨G2, gr, hx⟩ := yl x H' hy
          obtain ⟨R2, S2⟩ := gr (wipe σ vs) ρc Rc
          refine ⟨G2, ρc, ds[i], R2, hx, ?_⟩
          unfold lcL at heq
          have dead : T = .bad → False := fun z => by rw [z] at h; exact h
          -- behind a turn
          have after : ∀ {G5 H5 : Hp} {σ5 : St} {ρ5 : DEnv}, Rel K G5 σ5 H5 ρ5 → Stp Gc Hc (wipe σ vs) ρc G5 H5 σ5 ρ5 → wipe σ5 vs = wipe σ vs →
              Rel K G5 (wipe σ vs) H5 (wipeC ρ5 vs) ∧ Stp G1 H1 (wipe σ vs) (wipeC ρ1 vs) G5 (DL.era D H5) (wipe σ vs) (wipeC ρ5 vs) ∧ G5 D = none ∧ H5 D = some (.lst accV) ∧ ¬ OwnL (wipe σ vs) (wipeC ρ5 vs) D ∧ ¬ OwnI (wipe σ vs) (wipeC ρ5 vs) D := fun {G5 H5 σ5 ρ5} R5 S5 hσ => by
            obtain ⟨t1, t2, t3, t4⟩ := S5.track gD hDc oL oI
            have Rn := R5.wiped vs
            rw [hσ] at Rn
            refine ⟨Rn, ?_, t1, t2, fun z => t3 (OwnL.unwiped (vs := vs) (by rw [hσ]; exact z)), fun z => t4 (OwnI.unwiped (vs := vs) (by rw [hσ]; exact z))⟩
            refine Stp.wiped (Sc.trans (S5.era D)) hσ fun j hj o z => ?_
            rcases wipeC_get z with ⟨_, y⟩ | ⟨y, _⟩
            · cases y
            · exact y hj
          cases q : gd ds[i] ρc with
          | none => rw [q] at heq; exact (dead heq.symm).elim
          | some ρ3 =>
            rw [q] at heq
            intro G3 H3 σ3 R3 S3 O3
            have hσ3 : wipe σ3 vs = wipe σ vs := by
              rw [wipe_eq (σ := wipe σ vs) S3.len fun j hj => O3 j fun z => hj (his j z)]
              exact wipe_eq (wipe_length σ vs) fun j hj => wipe_out hj
            refine ⟨hσ3, G3, ρ3, R3, ?_⟩
            cases q4 : ft ρ3 with
            | bad => simp only [q4] at heq; exact (dead heq.symm).elim
            | err x c => simp only [q4] at heq; exact (dead heq.symm).elim
            | ok b ρ4 =>
              intro G4 H4 b' R4 S4 hb
              subst hb
              cases b' with
              | false =>
                simp only [q4] at heq
                refine iteF ?_
                obtain ⟨u1, u2, u3, u4, u5, u6⟩ := after R4 ((S2.trans S3).trans S4) hσ3
                exact ⟨G4, _, acc, accV, u1, u2, u3, u4, u5, u6, RpAll.mono (((S2.trans S3).trans S4).same) ha, heq⟩
              | true =>
                refine iteT ⟨G4, ρ4, R4, ?_⟩
                cases q5 : fe ρ4 with
                | bad => simp only [q4, q5] at heq; exact (dead heq.symm).elim
                | err x c => simp only [q4, q5] at heq; exact (dead heq.symm).elim
                | ok y ρ5 =>
                  simp only [q4, q5] at heq
                  intro G5 H5 v R5 S5 hv
                  by_cases hz : acc.length < sizeLine
                  case neg => rw [if_neg hz] at heq; exact (dead heq.symm).elim
                  rw [if_pos hz] at heq
                  obtain ⟨u1, u2, u3, u4, u5, u6⟩ := after R5 (((S2.trans S3).trans S4).trans S5) hσ3
                  have hl := RpAll.len ha
                  exact ⟨accV, u4, by omega, G5, _, acc ++ [y], accV ++ [v], u1.beside u3 u5 u6 _, by rw [era_upd]; exact u2, u3, upd_same, u5, u6, RpAll.app (RpAll.mono ((((S2.trans S3).trans S4).trans S5).same) ha) (.cons hv .nil), heq⟩
      · have e : ds.drop i = [] := List.drop_eq_nil_of_le (by omega)
        rw [e] at heq
        have heq : (Res.ok acc ρc : Res (List PyData)) = T := heq
        rw [← heq] at h
        obtain ⟨Rn, Sn⟩ := unwiped_ok R1 (Rc.era D gD oL oI) Sc
        have nn : ∀ b, (OwnL σ (unwipe vs ρ1 ρc) b ∨ OwnI σ (unwipe vs ρ1 ρc) b) → b ≠ D := fun b hb z => by
          subst z
          rcases hb with hb | hb
          · obtain ⟨u, hu⟩ := Rn.ownH hb; rw [era_same] at hu; cases hu
          · obtain ⟨u, hu⟩ := Rn.ownHI hb; rw [era_same] at hu; cases hu
        exact .inl ⟨w2 (by omega), h Gc Hc D Rn.unera (S1.trans Sn.unera) gD ⟨accV, hDc, ha⟩ (S1.keep D hD) (fun z => nn D (.inl z) rfl) fun z => nn D (.inr z) rfl⟩
/-- [elt for tg in iter if ..] -/
theorem f_lc (hp : ∀ wi, PI X tg iter wi → PE X (.ListComp elt [⟨tg, iter, ifs, 0⟩] scope pos) (tLc wi (tG X.K is gd) (tT X.K X.mg ft) (tE X.K X.mg fe) vs)) (his : ∀ j ∈ is, j ∈ vs) (hi : IJ X E tg iter fi) :
    FJ X E (.ListComp elt [⟨tg, iter, ifs, 0⟩] scope pos) (fLc vs fi gd ft fe) := by
  obtain ⟨wi, qi, pi⟩ := hi
  exact ⟨_, hp wi qi, fun σ G H ρ Q R h => lc_read his pi R h⟩
/-- name = [elt for ..] on one line -/
theorem s_newLc {x : Str} {p1 sp : Pos} (i : Nat) (hp : ∀ wi, PI X tg iter wi → PS X (.Assign [.Name x p1] (.ListComp elt [⟨tg, iter, ifs, 0⟩] scope pos) sp) (tAsg (tLc wi (tG X.K is gd) (tT X.K X.mg ft) (tE X.K X.mg fe) vs) (gName i))) (his : ∀ j ∈ is, j ∈ vs) (hi : IJ X E tg iter fi) :
    SJ X E (.Assign [.Name x p1] (.ListComp elt [⟨tg, iter, ifs, 0⟩] scope pos) sp) (sNew i (fLc vs fi gd ft fe)) := by
  obtain ⟨wi, qi, pi⟩ := hi
  exact ⟨_, hp wi qi, fun σ G H ρ D R h => new_read i (fun σ G H ρ Q R h => lc_read his pi R h) R h⟩
theorem pts_y : PTs X [] (tT X.K X.mg tTrue) := ⟨fun pins s σ H Q I ⟨G, ρ, R, h⟩ => pts_nil.run pins s σ H Q I (Post.done R h rfl)⟩
end
end DL
set_option Elab.async false
set_option linter.all false
set_option maxRecDepth 100000
set_option maxHeartbeats 4000000
namespace DL
open PySem PySem.Spec PyProof.Rows L2
variable [Td]
def oAdd : PyData → PyData → Option PyData
  | .int i, .int j => some (.int (i + j))
  | .str x, .str y => if x.length + y.length ≤ sizeLine then some (.str (x ++ y)) else none
  | .tuple xs, .tuple ys => if xs.length + ys.length ≤ sizeLine then some (.tuple (xs ++ ys)) else none
  | .list xs, .list ys => if xs.length + ys.length ≤ sizeLine then some (.list (xs ++ ys)) else none
  | _, _ => none
def oSub : PyData → PyData → Option PyData
  | .int i, .int j => some (.int (i - j))
  | _, _ => none
instance (i j : Int) : Decidable (CMul i j) := inferInstanceAs (Decidable (_ ∨ _))
instance (i j : Int) : Decidable (CDiv i j) := inferInstanceAs (Decidable (_ ∧ _))
instance (i j : Int) : Decidable (CPow i j) := inferInstanceAs (Decidable (_ ∧ _ ∧ _))
def oMul : PyData → PyData → Option PyData
  | .int i, .int j => if CMul i j then some (.int (i * j)) else none
  | .tuple xs, .int k => if xs ≠ [] ∧ 2 ≤ k ∧ k ≤ 1000 ∧ xs.length ≤ 1000 then some (.tuple (List.replicate k.toNat xs).flatten) else none
  | .list xs, .int k => if -(2 ^ 63) ≤ k ∧ k < 2 ^ 63 ∧ xs.length * k.toNat ≤ sizeLine then some (.list (List.replicate k.toNat xs).flatten) else none
  | _, _ => none
def oDiv : PyData → PyData → Option PyData
  | .int i, .int j => if CDiv i j then some (.int (i / j)) else none
  | _, _ => none
def oMod : PyData → PyData → Option PyData
  | .int i, .int j => if 0 < j then some (.int (i % j)) else none
  | _, _ => none
def oPow : PyData → PyData → Option PyData
  | .int i, .int j => if CPow i j then some (.int (i ^ j.toNat)) else none
  | _, _ => none
def oNeg : PyData → Option PyData
  | .int i => some (.int (-i))
  | _ => none
def okEq (d : PyData) : Bool := SeqAt.shaped d
def oEq (d e : PyData) : Option PyData := if okEq d = true ∧ okEq e = true then some (.bool (PyData.eqv d e)) else none
def oNe (d e : PyData) : Option PyData := if okEq d = true ∧ okEq e = true then some (.bool (!PyData.eqv d e)) else none
def unInts : List PyData → Option (List Int)
  | [] => some []
  | .int i :: r => (unInts r).map (i :: ·)
  | _ => none
def oLt : PyData → PyData → Option PyData
  | .int i, .int j => some (.bool (decide (i < j)))
  | .tuple xs, .tuple ys => match unInts xs, unInts ys with
    | some ns, some ms => some (.bool (HT.lexLt ns ms))
    | _, _ => none
  | _, _ => none
def oLe : PyData → PyData → Option PyData
  | .int i, .int j => some (.bool (decide (i ≤ j)))
  | _, _ => none
def oGt : PyData → PyData → Option PyData
  | .int i, .int j => some (.bool (decide (j < i)))
  | _, _ => none
def oGe : PyData → PyData → Option PyData
  | .int i, .int j => some (.bool (decide (j ≤ i)))
  | _, _ => none
def isNone : PyData → Bool
  | .none => true
  | _ => false
def oIsN (d e : PyData) : Option PyData := if isNone e = true then some (.bool (isNone d)) else none
def oNotN (d e : PyData) : Option PyData := if isNone e = true then some (.bool (!isNone d)) else none
def oIx : PyData → PyData → Option PyData
  | .list ds, .int k => atI ds k
  | .tuple ds, .int k => atI ds k
  | _, _ => none
def oInt : List PyData → Option PyData
  | [.int i] => some (.int i)
  | [.bool b] => some (.int (if b then 1 else 0))
  | _ => none
def oMax2 : List PyData → Option PyData
  | [.int i, .int j] => some (.int (if j > i then j else i))
  | _ => none
def oMin2 : List PyData → Option PyData
  | [.int i, .int j] => some (.int (if j < i then j else i))
  | _ => none
def tyOf : PyData → String
  | .none => "NoneType"
  | .bool _ => "bool"
  | .int _ => "int"
  | .str _ => "str"
  | .list _ => "list"
  | .tuple _ => "tuple"
  | .dict _ => "?"
def oIsi (T : String) (d : PyData) : Option PyData := match d with
  | .dict _ => none
  | d => (kitB (tyOf d) T).map .bool
section
variable {X : Cx} {E : WX}
def rAddA (K : PySem.W.Frag) : R2 := fun x y H Q => rI0 (fun i j => .int (i + j)) x y H Q ∨ ((∃ i j, x = .str i ∧ y = .str j ∧ i.length + j.length ≤ sizeLine ∧ Q (.str (i ++ j)) H) ∨ (rCatA K x y H Q ∨ rCat x y H Q))
theorem ho_add : OpR X (binaryOp .Add) (rAddA X.K) := op_add.or (op_add_str.or (op_catA.or op_cat))
theorem od_add : OpD X E (rAddA X.K) oAdd := by
  intro σ G H ρ x y d e c Q R hx hy ho h
  cases hx with
  | int i =>
    cases hy with
    | int j => cases ho; exact .inl ⟨i, j, rfl, rfl, Post.done R h (.int _)⟩
    | _ => cases ho
  | str i =>
    cases hy with
    | str j =>
      have ho : (if i.length + j.length ≤ sizeLine then some (PyData.str (i ++ j)) else none) = some c := ho
      by_cases hz : i.length + j.length ≤ sizeLine
      · rw [if_pos hz] at ho; cases ho; exact .inr (.inl ⟨i, j, rfl, rfl, hz, Post.done R h (.str _)⟩)
      · rw [if_neg hz] at ho; cases ho
    | _ => cases ho
  | @tup a vs ds h1 h2 =>
    cases hy with
    | @tup b ws es k1 k2 =>
      have ho : (if ds.length + es.length ≤ sizeLine then some (PyData.tuple (ds ++ es)) else none) = some c := ho
      by_cases hz : ds.length + es.length ≤ sizeLine
      · rw [if_pos hz] at ho
        cases ho
        have l1 := RpAll.len h2
        have l2 := RpAll.len k2
        refine .inr (.inr (.inl ⟨a, b, vs, ws, rfl, rfl, Same.seqT R.gh h1, Same.seqT R.gh k1, by omega, fun e => ?_, fun _ e => ?_, fun _ _ p hp => ?_⟩))
        · subst e
          cases h2
          exact Post.done R h (.tup k1 k2)
        · subst e
          cases k2
          exact Post.done R h (.tup h1 (by rw [List.append_nil]; exact h2))
        · exact Post.new R h hp (.tup (SqT.of upd_same) (RpAll.mono (same_upd (R.noneG hp)) (RpAll.app h2 k2)))
      · rw [if_neg hz] at ho; cases ho
    | _ => cases ho
  | @lst a vs ds h1 h2 =>
    cases hy with
    | @lst b ws es k1 k2 =>
      have ho : (if ds.length + es.length ≤ sizeLine then some (PyData.list (ds ++ es)) else none) = some c := ho
      by_cases hz : ds.length + es.length ≤ sizeLine
      · rw [if_pos hz] at ho
        cases ho
        have l1 := RpAll.len h2
        have l2 := RpAll.len k2
        exact .inr (.inr (.inr ⟨a, b, vs, ws, rfl, rfl, R.gh _ _ h1, R.gh _ _ k1, by omega, fun p hp => Post.new R h hp (.lst upd_same (RpAll.mono (same_upd (R.noneG hp)) (RpAll.app h2 k2)))⟩))
      · rw [if_neg hz] at ho; cases ho
    | _ => cases ho
  | _ => cases ho
theorem od_sub : OpD X E (rI0 fun i j => .int (i - j)) oSub := by
  intro σ G H ρ x y d e c Q R hx hy ho h
  cases hx with
  | int i =>
    cases hy with
    | int j => cases ho; exact ⟨i, j, rfl, rfl, Post.done R h (.int _)⟩
    | _ => cases ho
  | _ => cases ho
theorem rpFlatten {K : PySem.W.Frag} {G : Hp} {vs : List V} {ds : List PyData} (h : RpAll K G vs ds) : ∀ n, RpAll K G (List.replicate n vs).flatten (List.replicate n ds).flatten
  | 0 => .nil
  | n + 1 => by
    rw [List.replicate_succ, List.replicate_succ, List.flatten_cons, List.flatten_cons]
    exact RpAll.app h (rpFlatten h n)
def rMulA (K : PySem.W.Frag) : R2 := fun x y H Q => rI CMul (fun i j => .int (i * j)) x y H Q ∨ (rRepT K x y H Q ∨ rRep x y H Q)
theorem ho_mul : OpR X (binaryOp .Mult) (rMulA X.K) := op_mul.or (op_repT.or op_rep)
theorem od_mul : OpD X E (rMulA X.K) oMul := by
  intro σ G H ρ x y d e c Q R hx hy ho h
  cases hy with
  | int j =>
    cases hx with
    | int i =>
      have ho : (if CMul i j then some (PyData.int (i * j)) else none) = some c := ho
      by_cases hc : CMul i j
      · rw [if_pos hc] at ho; cases ho; exact .inl ⟨i, j, rfl, rfl, hc, Post.done R h (.int _)⟩
      · rw [if_neg hc] at ho; cases ho
    | @tup a vs ds h1 h2 =>
      have ho : (if ds ≠ [] ∧ 2 ≤ j ∧ j ≤ 1000 ∧ ds.length ≤ 1000 then some (PyData.tuple (List.replicate j.toNat ds).flatten) else none) = some c := ho
      by_cases hc : ds ≠ [] ∧ 2 ≤ j ∧ j ≤ 1000 ∧ ds.length ≤ 1000
      · rw [if_pos hc] at ho
        cases ho
        have l1 := RpAll.len h2
        refine .inr (.inl ⟨a, j, vs, rfl, rfl, Same.seqT R.gh h1, fun z => hc.1 ?_, hc.2.1, hc.2.2.1, by omega, fun p hp => Post.new R h hp (.tup (SqT.of upd_same) (RpAll.mono (same_upd (R.noneG hp)) (rpFlatten h2 _)))⟩)
        subst z
        cases h2
        rfl
      · rw [if_neg hc] at ho; cases ho
    | @lst a vs ds h1 h2 =>
      have ho : (if -(2 ^ 63) ≤ j ∧ j < 2 ^ 63 ∧ ds.length * j.toNat ≤ sizeLine then some (PyData.list (List.replicate j.toNat ds).flatten) else none) = some c := ho
      by_cases hc : -(2 ^ 63) ≤ j ∧ j < 2 ^ 63 ∧ ds.length * j.toNat ≤ sizeLine
      · rw [if_pos hc] at ho
        cases ho
        have l1 := RpAll.len h2
        exact .inr (.inr ⟨a, j, vs, rfl, rfl, R.gh _ _ h1, hc.1, hc.2.1, by rw [l1]; exact hc.2.2, fun p hp => Post.new R h hp (.lst upd_same (RpAll.mono (same_upd (R.noneG hp)) (rpFlatten h2 _)))⟩)
      · rw [if_neg hc] at ho; cases ho
    | _ => cases ho
  | _ => cases hx <;> cases ho
theorem od_div : OpD X E (rI CDiv fun i j => .int (i / j)) oDiv := by
  intro σ G H ρ x y d e c Q R hx hy ho h
  cases hx with
  | int i =>
    cases hy with
    | int j =>
      have ho : (if CDiv i j then some (PyData.int (i / j)) else none) = some c := ho
      by_cases hc : CDiv i j
      · rw [if_pos hc] at ho; cases ho; exact ⟨i, j, rfl, rfl, hc, Post.done R h (.int _)⟩
      · rw [if_neg hc] at ho; cases ho
    | _ => cases ho
  | _ => cases ho
theorem od_mod : OpD X E (rI (fun _ j => 0 < j) fun i j => .int (i % j)) oMod := by
  intro σ G H ρ x y d e c Q R hx hy ho h
  cases hx with
  | int i =>
    cases hy with
    | int j =>
      have ho : (if 0 < j then some (PyData.int (i % j)) else none) = some c := ho
      by_cases hc : 0 < j
      · rw [if_pos hc] at ho; cases ho; exact ⟨i, j, rfl, rfl, hc, Post.done R h (.int _)⟩
      · rw [if_neg hc] at ho; cases ho
    | _ => cases ho
  | _ => cases ho
theorem od_pow : OpD X E (rI CPow fun i j => .int (i ^ j.toNat)) oPow := by
  intro σ G H ρ x y d e c Q R hx hy ho h
  cases hx with
  | int i =>
    cases hy with
    | int j =>
      have ho : (if CPow i j then some (PyData.int (i ^ j.toNat)) else none) = some c := ho
      by_cases hc : CPow i j
      · rw [if_pos hc] at ho; cases ho; exact ⟨i, j, rfl, rfl, hc, Post.done R h (.int _)⟩
      · rw [if_neg hc] at ho; cases ho
    | _ => cases ho
  | _ => cases ho
theorem ud_neg : UnD X E (rU fun i => .int (-i)) oNeg := by
  intro σ G H ρ x d c Q R hx ho h
  cases hx with
  | int i => cases ho; exact ⟨i, rfl, Post.done R h (.int _)⟩
  | _ => cases ho
theorem od_eq : OpD X E (rEqD X.K) oEq := by
  intro σ G H ρ x y d e c Q R hx hy ho h
  unfold oEq okEq at ho
  by_cases hc : SeqAt.shaped d = true ∧ SeqAt.shaped e = true
  · rw [if_pos hc] at ho
    cases ho
    exact ⟨d, e, Rp.toDp (Rp.mono R.gh hx) (SeqAt.canLay_of_shaped hc.1), Rp.toDp (Rp.mono R.gh hy) (SeqAt.canLay_of_shaped hc.2), hc.1, hc.2, Post.done R h (.bl _)⟩
  · rw [if_neg hc] at ho; cases ho
theorem od_ne : OpD X E (rNeD X.K) oNe := by
  intro σ G H ρ x y d e c Q R hx hy ho h
  unfold oNe okEq at ho
  by_cases hc : SeqAt.shaped d = true ∧ SeqAt.shaped e = true
  · rw [if_pos hc] at ho
    cases ho
    exact ⟨d, e, Rp.toDp (Rp.mono R.gh hx) (SeqAt.canLay_of_shaped hc.1), Rp.toDp (Rp.mono R.gh hy) (SeqAt.canLay_of_shaped hc.2), hc.1, hc.2, Post.done R h (.bl _)⟩
  · rw [if_neg hc] at ho; cases ho
theorem rpInts_of {K : PySem.W.Frag} {G : Hp} : ∀ {vs : List V} {ds : List PyData} {ns : List Int}, RpAll K G vs ds → unInts ds = some ns → vs = ns.map V.int
  | _, _, ns, .nil, h => by cases h; rfl
  | _, _, ns, .cons h1 t, h => by
    cases h1 with
    | int i =>
      have h : (unInts _).map (i :: ·) = some ns := h
      cases q : unInts _ with
      | none => rw [q] at h; cases h
      | some ms => rw [q] at h; cases h; rw [rpInts_of t q]; rfl
    | _ => cases h
def rLtA (K : PySem.W.Frag) : R2 := fun x y H Q => rI0 (fun i j => .bl (decide (i < j))) x y H Q ∨ rLtT K x y H Q
theorem ho_lt (hu : X.A.units < cLine) : OpR X (compareOp .Lt) (rLtA X.K) := op_lt.or (op_ltT hu)
theorem od_lt : OpD X E (rLtA X.K) oLt := by
  intro σ G H ρ x y d e c Q R hx hy ho h
  cases hx with
  | int i =>
    cases hy with
    | int j => cases ho; exact .inl ⟨i, j, rfl, rfl, Post.done R h (.bl _)⟩
    | _ => cases ho
  | @tup a vs ds h1 h2 =>
    cases hy with
    | @tup b ws es k1 k2 =>
      have ho : (match unInts ds, unInts es with
        | some ns, some ms => some (PyData.bool (HT.lexLt ns ms))
        | _, _ => none) = some c := ho
      cases q1 : unInts ds with
      | none => rw [q1] at ho; cases ho
      | some ns =>
        cases q2 : unInts es with
        | none => rw [q1, q2] at ho; cases ho
        | some ms =>
          rw [q1, q2] at ho
          cases ho
          have e1 := rpInts_of h2 q1
          have e2 := rpInts_of k2 q2
          subst e1 e2
          exact .inr ⟨a, b, ns, ms, rfl, rfl, Same.seqT R.gh h1, Same.seqT R.gh k1, Post.done R h (.bl _)⟩
    | _ => cases ho
  | _ => cases ho
theorem od_gt : OpD X E (rI0 fun i j => .bl (decide (j < i))) oGt := by
  intro σ G H ρ x y d e c Q R hx hy ho h
  cases hx with
  | int i =>
    cases hy with
    | int j => cases ho; exact ⟨i, j, rfl, rfl, Post.done R h (.bl _)⟩
    | _ => cases ho
  | _ => cases ho
theorem od_ge : OpD X E (rI0 fun i j => .bl (decide (j ≤ i))) oGe := by
  intro σ G H ρ x y d e c Q R hx hy ho h
  cases hx with
  | int i =>
    cases hy with
    | int j => cases ho; exact ⟨i, j, rfl, rfl, Post.done R h (.bl _)⟩
    | _ => cases ho
  | _ => cases ho
def rIxA (K : PySem.W.Frag) : R2 := fun x y H Q => rIxL K x y H Q ∨ rIxT K x y H Q
theorem ho_ix : IxR X (rIxA X.K) := ix_list.or ix_tup
theorem od_ix : OpD X E (rIxA X.K) oIx := by
  intro σ G H ρ x y d e c Q R hx hy ho h
  cases hy with
  | int k =>
    cases hx with
    | @lst a vs ds h1 h2 =>
      obtain ⟨v, g1, g2⟩ := at_rp h2 (show atI ds k = some c from ho)
      exact .inl ⟨a, vs, k, v, rfl, rfl, SqL.of (R.gh _ _ h1), g1, Post.done R h g2⟩
    | @tup a vs ds h1 h2 =>
      obtain ⟨v, g1, g2⟩ := at_rp h2 (show atI ds k = some c from ho)
      exact .inr ⟨a, vs, k, v, rfl, rfl, Same.seqT R.gh h1, g1, Post.done R h g2⟩
    | _ => cases ho
  | _ => cases hx <;> cases ho
theorem rpAll1 {K : PySem.W.Frag} {G : Hp} {vs : List V} {d : PyData} (h : RpAll K G vs [d]) : ∃ v, vs = [v] ∧ Rp K G v d := by
  cases h with
  | cons h t => cases t; exact ⟨_, rfl, h⟩
theorem cd_int : CaD X E (fun xs H Q => (∃ i, xs = [.int i] ∧ Q (.int i) H) ∨ ∃ k, xs = [.bl k] ∧ Q (.int (if k then 1 else 0)) H) oInt := by
  intro σ G H ρ xs ds c Q R hx ho h
  unfold oInt at ho
  split at ho
  · cases ho; obtain ⟨v, rfl, q⟩ := rpAll1 hx; cases q; exact .inl ⟨_, rfl, Post.done R h (.int _)⟩
  · cases ho; obtain ⟨v, rfl, q⟩ := rpAll1 hx; cases q; exact .inr ⟨_, rfl, Post.done R h (.int _)⟩
  · cases ho
theorem rpTy {K : PySem.W.Frag} {G H : Hp} (s : Same G H) {v : V} {d : PyData} (h : Rp K G v d) (hd : ∀ kvs, d ≠ .dict kvs) : TyX K H v (.type (tyOf d)) := by
  cases h with
  | non => exact .base .non
  | bl b => exact .base (.bl b)
  | int i => exact .base (.int i)
  | str x => exact .base (.str x)
  | lst h1 h2 => exact .base (.lst (s _ _ h1))
  | tup h1 h2 =>
    rcases h1 with (h1 | ⟨o, h1⟩) | ⟨o, its, n, h1, hc, _⟩
    · exact .base (.tup (s _ _ h1))
    · exact .fTuple (s _ _ h1)
    · exact .kTuple h1 hc
  | scr h1 => exact absurd rfl (hd _)
  | dic _ _ _ => exact absurd rfl (hd _)
  | dit _ _ _ => exact absurd rfl (hd _)
  | rng _ => exact absurd rfl (hd _)
  | fup _ _ => exact absurd rfl (hd _)
  | exn _ _ _ _ => exact absurd rfl (hd _)
  | exz _ _ => exact absurd rfl (hd _)
end
section
variable {X : Cx} {E : WX} {a b : Expr} {es : List Expr} {fa fb : DEnv → Res PyData} {fs : DEnv → Res (List PyData)} {pos p q1 : Pos} {x : Str} {id T : String} {r : List V → Hp → VK → Prop} {o : List PyData → Option PyData}
theorem e_callB (hc : CallR X (.builtin id) r) (hd : CaD X E r o) (hg : Gl X x) (hm : X.mg x = none) (hv : bootBuiltins x = some (.builtin id)) (ha : AJ X E (a :: es) fs) (hn : x ≠ "__name__" := by decide) (hdb : (x == ("__debug__" : Str)) = false := by decide)
    (he : starEach (a :: es) X.env = (false, eval a X.env) :: starEach es X.env := by rfl) (hpl : (backTo pos (starEach es X.env)).any (·.1) = false := by rfl) : EJ X E (.Call (.Name x p) (a :: es) [] pos) (dCall o fs) := by
  obtain ⟨_, t, q, p⟩ := ha
  refine ⟨_, pe_callB hc hg hm hv q hn hdb he hpl, fun σ G H ρ Q R h => p σ G H ρ _ R (Post.bind h fun G1 H1 xs ds ρ1 R1 S1 hx h1 => ?_)⟩
  cases z : o ds with
  | none => rw [z] at h1; exact h1.elim
  | some c => rw [z] at h1; exact hd σ G1 H1 ρ1 xs ds c Q R1 hx z h1
theorem e_callT (hc : CallR X (.type T) r) (hd : CaD X E r o) (hg : Gl X x) (hm : X.mg x = none) (hv : bootBuiltins x = some (.type T)) (ha : AJ X E (a :: es) fs) (hn : x ≠ "__name__" := by decide) (hdb : (x == ("__debug__" : Str)) = false := by decide)
    (he : starEach (a :: es) X.env = (false, eval a X.env) :: starEach es X.env := by rfl) (hpl : (backTo pos (starEach es X.env)).any (·.1) = false := by rfl) : EJ X E (.Call (.Name x p) (a :: es) [] pos) (dCall o fs) := by
  obtain ⟨_, t, q, p⟩ := ha
  refine ⟨_, pe_callTy hc hg hm hv q hn hdb he hpl, fun σ G H ρ Q R h => p σ G H ρ _ R (Post.bind h fun G1 H1 xs ds ρ1 R1 S1 hx h1 => ?_)⟩
  cases z : o ds with
  | none => rw [z] at h1; exact h1.elim
  | some c => rw [z] at h1; exact hd σ G1 H1 ρ1 xs ds c Q R1 hx z h1
/-- isinstance(a, T), T a built-in class -/
theorem e_isi (ha : EJ X E a fa) (hb : PE X b (tC (.ty T))) (hg : Gl X "isinstance") (hm : X.mg "isinstance" = none) (hs : ∀ te u, PE X a te → PA X [b] u → PA X [a, b] (tCons te u)) (hs2 : starEach [b] X.env = (false, eval b X.env) :: starEach [] X.env := by rfl)
    (he : starEach [a, b] X.env = (false, eval a X.env) :: starEach [b] X.env := by rfl) (hpl : (backTo pos (starEach [b] X.env)).any (·.1) = false := by rfl) : EJ X E (.Call (.Name "isinstance" p) [a, b] [] pos) (dUn (oIsi T) fa) := by
  obtain ⟨t, q, p⟩ := ha
  refine ⟨_, pe_callB call_isi hg hm (by decide +kernel) (hs _ _ q (pa_cons hb pa_nil hs2)) (he := he) (hpl := hpl), fun σ G H ρ Q R h => p σ G H ρ _ R (Post.bind h fun G1 H1 v d ρ1 R1 S1 hx h1 => ?_)⟩
  have nd : ∀ kvs, d = .dict kvs → False := fun kvs e => by subst e; exact h1
  show ∃ (x c : V) (t u : Value) (b : Bool), [v, .ty T] = [x, c] ∧ ClsV c u ∧ TyX X.K H1 x t ∧ PySem.W.kitOne X.K t u = some b ∧ Q (.bl b) H1
  have h1 : EPost X E σ G1 H1 ρ1 Q (Res.of ((kitB (tyOf d) T).map .bool) ρ1) := by
    cases d with
    | dict kvs => exact (nd kvs rfl).elim
    | _ => exact h1
  cases z : kitB (tyOf d) T with
  | none => rw [z] at h1; exact h1.elim
  | some k =>
    rw [z] at h1
    exact ⟨v, .ty T, _, .type T, k, rfl, .ty T, rpTy R1.gh hx fun kvs e => nd kvs e, kit_ty z, Post.done R1 h1 (.bl k)⟩
end
def cutD (xs : List PyData) (lo hi : Option Int) : List PyData := (xs.drop (HT.sIx xs.length 0 lo)).take (HT.sIx xs.length xs.length hi - HT.sIx xs.length 0 lo)
def oNoPart : DEnv → Res (Option Int) := fun ρ => .ok none ρ
def oPart (f : DEnv → Res PyData) : DEnv → Res (Option Int) := fun ρ => (f ρ).bind fun d ρ1 => match d with
  | .int i => .ok (some i) ρ1
  | _ => .bad
structure OJ (X : Cx) (E : WX) (e : Option Expr) (f : DEnv → Res (Option Int)) : Prop where
  ex : ∃ t : TO, PO X e t ∧ ∀ (σ : St) (G H : Hp) (ρ : DEnv) (Q : Option Int → Hp → Prop), Rel X.K G σ H ρ → Post X.K X.mg E (fun _ b c => b = c) σ G H ρ Q (f ρ) → t σ H Q
def slOf (d : PyData) (lo hi : Option Int) : Option PyData := match d with
  | .list ds => some (.list (cutD ds lo hi))
  | .tuple ds => some (.tuple (cutD ds lo hi))
  | _ => none
def dSl (f : DEnv → Res PyData) (l u : DEnv → Res (Option Int)) : DEnv → Res PyData := fun ρ => (f ρ).bind fun d ρ1 => (l ρ1).bind fun lo ρ2 => (u ρ2).bind fun hi ρ3 => Res.of (slOf d lo hi) ρ3
theorem cutV_rp {K : PySem.W.Frag} {G : Hp} {vs : List V} {ds : List PyData} (h : RpAll K G vs ds) (lo hi : Option Int) : RpAll K G (cutV vs lo hi) (cutD ds lo hi) := by
  unfold cutV cutD
  rw [RpAll.len h]
  exact RpAll.take _ (RpAll.drop _ h)
section
variable {X : Cx} {E : WX} {a : Expr} {fa : DEnv → Res PyData} {lo hi : Option Expr} {fl fu : DEnv → Res (Option Int)} {pos p2 : Pos}
theorem o_none : OJ X E none oNoPart := ⟨_, po_none, fun σ G H ρ Q R h => Post.done R h rfl⟩
theorem o_some (h : EJ X E a fa) : OJ X E (some a) (oPart fa) := by
  obtain ⟨t, q, p⟩ := h
  refine ⟨_, po_some q, fun σ G H ρ Q R h => p σ G H ρ _ R (Post.bind h fun G1 H1 v d ρ1 R1 S1 hx h1 => ?_)⟩
  cases hx with
  | int i => exact ⟨i, rfl, Post.done R1 h1 rfl⟩
  | _ => exact h1.elim
def rSlAny (K : PySem.W.Frag) : V → Option Int → Option Int → Hp → VK → Prop := fun x lo hi H Q => rSlA K x lo hi H Q ∨ rSlL K x lo hi H Q
theorem hs_any : SlR X (rSlAny X.K) := sl_tupA.or sl_list
theorem e_sl (ha : EJ X E a fa) (hl : OJ X E lo fl) (hu : OJ X E hi fu) : EJ X E (.Subscript a (.Slice lo hi none p2) pos) (dSl fa fl fu) := by
  obtain ⟨ta, qa, pa⟩ := ha
  obtain ⟨tl, ql, pl⟩ := hl
  obtain ⟨tu, qu, pu⟩ := hu
  refine ⟨_, pe_slice hs_any qa ql qu, fun σ G H ρ Q R h => pa σ G H ρ _ R (Post.bind h fun G1 H1 x d ρ1 R1 S1 hx h1 => pl σ G1 H1 ρ1 _ R1 (Post.bind h1 fun G2 H2 l l' ρ2 R2 S2 e2 h2 => pu σ G2 H2 ρ2 _ R2 (Post.bind h2 fun G3 H3 u u' ρ3 R3 S3 e3 h3 => ?_)))⟩
  subst e2 e3
  have hx3 := Rp.mono S3.same (Rp.mono S2.same hx)
  cases hx3 with
  | @lst b vs ds h4 h5 => exact .inr ⟨b, vs, rfl, SqL.of (R3.gh _ _ h4), fun p hp => Post.new R3 h3 hp (.lst upd_same (RpAll.mono (same_upd (R3.noneG hp)) (cutV_rp h5 l u)))⟩
  | @tup b vs ds h4 h5 =>
    refine .inl ⟨b, vs, rfl, Same.seqT R3.gh h4, fun hw => ?_, fun _ p hp => Post.new R3 h3 hp (.tup (SqT.of upd_same) (RpAll.mono (same_upd (R3.noneG hp)) (cutV_rp h5 l u)))⟩
    refine Post.done R3 h3 (.tup h4 ?_)
    have hl := RpAll.len h5
    have e : cutD ds l u = ds := by
      unfold cutD
      rw [← hl, hw.1, hw.2, Nat.sub_zero, List.drop_zero]
      exact List.take_of_length_le (by omega)
    rw [e]
    exact h5
  | _ => exact h3.elim
end
end DL
set_option Elab.async false
set_option linter.all false
set_option maxRecDepth 100000
set_option maxHeartbeats 4000000
namespace DL
open PySem PySem.Spec PyProof.Rows L2
variable [Td]
/-- what a name's slot holds, held or not -/
def nameD (i : Nat) (ρ : DEnv) : Option PyData := match ρ[i]? with
  | some (.val d) => some d
  | some (.own (.lst ds)) => some (.list ds)
  | some (.io (.lst ds)) => some (.list ds)
  | _ => none
/-- as Rp, but a held list stands in H alone -/
inductive Rh (K : PySem.W.Frag) (G H : Hp) : V → PyData → Prop where
  | rp {v : V} {d : PyData} : Rp K G v d → Rh K G H v d
  | held {p : Addr} {vs : List V} {ds : List PyData} : H p = some (.lst vs) → RpAll K G vs ds → Rh K G H (.ref p) (.list ds)
theorem Rel.name {K : PySem.W.Frag} {G H : Hp} {σ : St} {ρ : DEnv} {i : Nat} {d : PyData} (R : Rel K G σ H ρ) (h : nameD i ρ = some d) : ∃ v, σ[i]? = some (some v) ∧ Rh K G H v d := by
  unfold nameD at h
  cases q : ρ[i]? with
  | none => rw [q] at h; cases h
  | some cl =>
    rw [q] at h
    obtain ⟨v0, e0, q0⟩ := R.cell i cl q
    cases cl with
    | fn _ _ => cases h
    | nd _ => cases h
    | un => cases h
    | val d => cases h; obtain ⟨x, rfl, hx⟩ := q0; exact ⟨x, e0, .rp hx⟩
    | own o =>
      cases o with
      | dk _ => cases h
      | dt _ => cases h
      | ins _ _ => cases h
      | dn _ => cases h
      | ts _ _ _ => cases h
      | db _ => cases h
      | lst ds => cases h; obtain ⟨b, rfl, _, vs, h1, h2⟩ := q0; exact ⟨_, e0, .held h1 h2⟩
    | io o =>
      cases o with
      | dk _ => cases h
      | dt _ => cases h
      | ins _ _ => cases h
      | dn _ => cases h
      | ts _ _ _ => cases h
      | db _ => cases h
      | lst ds => cases h; obtain ⟨b, rfl, _, vs, h1, h2⟩ := q0; exact ⟨_, e0, .held h1 h2⟩
theorem Rh.seq {K : PySem.W.Frag} {G H : Hp} {v : V} {d : PyData} {kd : LK × List PyData} (s : Same G H) (h : Rh K G H v d) (e : seqOf d = some kd) : ∃ p vs, v = .ref p ∧ SqX K G H p vs kd.1 ∧ RpAll K G vs kd.2 := by
  cases h with
  | rp h => obtain ⟨p, vs, h1, h2, h3⟩ := Rp.seq h e; exact ⟨p, vs, h1, h2.toX s, h3⟩
  | held h1 h2 => cases e; exact ⟨_, _, rfl, SqL.of h1, h2⟩
def lName (i : Nat) : DEnv → Res (LK × List PyData) := fun ρ => Res.of ((nameD i ρ).bind seqOf) ρ
def dIxN (i : Nat) (f : DEnv → Res PyData) : DEnv → Res PyData := fun ρ => if (nameD i ρ).isSome = true then (f ρ).bind fun k ρ1 => Res.of ((nameD i ρ1).bind fun d => oIx d k) ρ1 else .bad
def dInN (op : PyData → PyData → Option PyData) (i : Nat) (f : DEnv → Res PyData) : DEnv → Res PyData := fun ρ => (f ρ).bind fun d ρ1 => Res.of ((nameD i ρ1).bind fun s => op d s) ρ1
def idxOf (ds : List PyData) (d : PyData) : Option PyData := (ds.findIdx? fun z => PyData.eqv z d).map fun (j : Nat) => PyData.int (j : Int)
def oIndex (d e : PyData) : Option PyData := match d with
  | .list ds => if okEq (.list ds) = true ∧ okEq e = true then idxOf ds e else none
  | _ => none
def isLst : Option PyData → Bool
  | some (.list _) => true
  | _ => false
def dIndexN (i : Nat) (f : DEnv → Res PyData) : DEnv → Res PyData := fun ρ => if isLst (nameD i ρ) = true then (f ρ).bind fun k ρ1 => Res.of ((nameD i ρ1).bind fun d => oIndex d k) ρ1 else .bad
section
variable {X : Cx} {E : WX} {a b : Expr} {es : List Expr} {fa fb : DEnv → Res PyData} {fs : DEnv → Res (List PyData)} {pos p px : Pos} {x : Str}
theorem l_name (i : Nat) (h : PE X (.Name x pos) (tVar i)) : LJ X E (.Name x pos) (lName i) := by
  refine ⟨_, h, fun σ G H ρ Q R h => ?_⟩
  unfold lName at h
  cases q : nameD i ρ with
  | none => rw [q] at h; exact h.elim
  | some d =>
    rw [q] at h
    cases s : seqOf d with
    | none => rw [Option.bind_some, s] at h; exact h.elim
    | some kd =>
      rw [Option.bind_some, s] at h
      obtain ⟨v, e0, hv⟩ := R.name q
      obtain ⟨b, vs, rfl, h1, h2⟩ := hv.seq R.gh s
      exact ⟨.ref b, e0, h G H b vs R Stp.refl h1 h2⟩
instance (i j : Int) : Decidable (RgOk i j) := inferInstanceAs (Decidable (_ ∧ _ ∧ _ ∧ _ ∧ _))
def dTupRg (f : DEnv → Res PyData) : DEnv → Res PyData := fun ρ => (f ρ).bind fun d ρ1 => match d with
  | .int n => if RgOk 0 n then .ok (.tuple (intsD 0 n.toNat)) ρ1 else .bad
  | _ => .bad
def fLstRg (f : DEnv → Res PyData) : DEnv → Res OD := fun ρ => (f ρ).bind fun d ρ1 => match d with
  | .int n => if RgOk 0 n then .ok (.lst (intsD 0 n.toNat)) ρ1 else .bad
  | _ => .bad
def sAug (i : Nat) (op : PyData → PyData → Option PyData) (f : DEnv → Res PyData) : DEnv → Res Out := fun ρ => match ρ[i]? with
  | some (.val d) => (f ρ).bind fun e ρ1 => nxOf ((op d e).bind fun c => setV i c ρ1)
  | _ => .bad
end
def spLaw (K : PySem.W.Frag) : Sp := fun vs H Q _ => ∃ (a : Addr) (ns : List Int), vs = [.ref a] ∧ SqL K H a (ns.map V.int) ∧ ns.length ≤ 63 ∧ NdefX.TabsN Td.T H ∧ ∀ H', Q (.bl true) H'
/-- all but the tables -/
def offT (H : Hp) : Hp := fun b => if Td.T.any (fun t => t.1 == b) = true then none else H b
theorem offT_same (H : Hp) : Same (offT H) H := fun b o e => by
  unfold offT at e
  split at e
  · cases e
  · exact e
theorem offT_at {H : Hp} {b : Addr} {o : HO} (t : NdefX.TabsN Td.T H) (e : H b = some o) (n : ∀ ps, o ≠ .tbl ps) : offT H b = some o := by
  unfold offT
  rw [if_neg fun z => ?_]
  · exact e
  · obtain ⟨q, hq, hb⟩ := List.any_eq_true.mp z
    obtain ⟨ps, h, _⟩ := t q hq
    rw [eq_of_beq hb, e] at h
    cases h
    exact n ps rfl
theorem offT_tab {H : Hp} (t : NdefX.TabsN Td.T H) : CTab (offT H) H := ⟨fun q hq => by
  obtain ⟨ps, h, a, b⟩ := t q hq
  refine ⟨?_, ps, h, a, fun pos cv e => ?_⟩
  · unfold offT
    rw [if_pos (List.any_eq_true.mpr ⟨q, hq, beq_self_eq_true q.1⟩)]
  · obtain ⟨c, e1, e2⟩ := b pos cv e
    exact ⟨c, e1, offT_at t e2 LamX.codeO_ne⟩⟩
theorem offT_seq {K : PySem.W.Frag} {H : Hp} {a : Addr} {xs : List V} (t : NdefX.TabsN Td.T H) (h : SqL K H a xs) : SqL K (offT H) a xs := by
  rcases h with (h | ⟨o, h⟩) | h
  · exact .inl (.inl (offT_at t h fun ps e => by cases e))
  · exact .inl (.inr ⟨o, offT_at t h fun ps e => by cases e⟩)
  · exact .inr h
theorem law_sp {K : PySem.W.Frag} {mg : Str → Option Value} {den : DEnv → Res PyData} (T : ∀ ns : List Int, ns.length ≤ 63 → ∃ cs, den [.val (scrD ns)] = .ok (.bool true) cs) (vs : List V) (H : Hp) (Q : VK) (E : XK) (h : spLaw K vs H Q E) : spD K mg 1 den vs H Q E := by
  obtain ⟨a, ns, rfl, hS, hl, ht, q⟩ := h
  obtain ⟨cs, e⟩ := T ns hl
  refine ⟨offT H, [.val (scrD ns)], rfl, rfl, ⟨offT_same H, rfl, fun i c hc => ?_, fun i j p _ hi _ => ?_, offT_tab ht⟩, ?_⟩
  · cases i with
    | zero => cases hc; exact ⟨_, rfl, _, rfl, .scr (offT_seq ht hS)⟩
    | succ i => simp at hc
  · obtain ⟨_, c, hc, ho⟩ := hi
    cases i with
    | zero => cases hc; cases ho
    | succ i => simp at hc
  · rw [e]
    intro G' H' v _ _ hv
    cases hv
    exact q H'
end DL
set_option Elab.async false
set_option linter.all false
set_option maxRecDepth 100000
set_option maxHeartbeats 4000000
namespace DL
open PySem PySem.Spec PyProof.Rows L2
variable [Td]
theorem seqOf_scr (ns : List Int) : seqOf (scrD ns) = some (.L, ns.map PyData.int) := by
  show (some (LK.L, (ns.map fun i => (PyData.int i, PyData.none)).map (·.1))) = _
  rw [unScr_map]
@[simp] theorem eqv_int (i j : Int) : PyData.eqv (.int i) (.int j) = (i == j) := by rw [PyData.eqv]
@[simp] theorem eqv_bool (i j : Bool) : PyData.eqv (.bool i) (.bool j) = (i == j) := by rw [PyData.eqv]
@[simp] theorem eqv_str (i j : Str) : PyData.eqv (.str i) (.str j) = (i == j) := by rw [PyData.eqv]
@[simp] theorem eqv_none : PyData.eqv .none .none = true := by rw [PyData.eqv]
@[simp] theorem eqv_tuple (xs ys : List PyData) : PyData.eqv (.tuple xs) (.tuple ys) = PyData.eqvAll xs ys := by rw [PyData.eqv]
@[simp] theorem eqv_list (xs ys : List PyData) : PyData.eqv (.list xs) (.list ys) = PyData.eqvAll xs ys := by rw [PyData.eqv]
@[simp] theorem eqvAll_nil : PyData.eqvAll [] [] = true := by rw [PyData.eqvAll]
@[simp] theorem eqvAll_cons (x y : PyData) (xs ys : List PyData) : PyData.eqvAll (x :: xs) (y :: ys) = (PyData.eqv x y && PyData.eqvAll xs ys) := by rw [PyData.eqvAll]
@[simp] theorem eqvAll_nc (y : PyData) (ys : List PyData) : PyData.eqvAll [] (y :: ys) = false := by rw [PyData.eqvAll]
@[simp] theorem eqvAll_cn (x : PyData) (xs : List PyData) : PyData.eqvAll (x :: xs) [] = false := by rw [PyData.eqvAll]
theorem canAll_of : ∀ ds : List PyData, (∀ d ∈ ds, d.canLay0 = true) → PyData.canLayAll0 ds = true
  | [], _ => by rw [PyData.canLayAll0]
  | d :: ds, h => by rw [PyData.canLayAll0, h d (List.mem_cons_self ..), canAll_of ds fun e he => h e (List.mem_cons_of_mem _ he)]; rfl
theorem depthAll_le {k : Nat} : ∀ ds : List PyData, (∀ d ∈ ds, d.depth ≤ k) → PyData.depthAll ds ≤ k
  | [], _ => by rw [PyData.depthAll]; exact Nat.zero_le _
  | d :: ds, h => by
    rw [PyData.depthAll]
    exact Nat.max_le.mpr ⟨h d (List.mem_cons_self ..), depthAll_le ds fun e he => h e (List.mem_cons_of_mem _ he)⟩
/-- d may be compared: it holds no dict and is at most k deep -/
def Shp (k : Nat) (d : PyData) : Prop := d.canLay0 = true ∧ d.depth ≤ k
theorem Shp.int {k : Nat} (i : Int) : Shp k (.int i) := ⟨by rw [PyData.canLay0], by rw [PyData.depth]; exact Nat.zero_le _⟩
theorem Shp.bool {k : Nat} (i : Bool) : Shp k (.bool i) := ⟨by rw [PyData.canLay0], by rw [PyData.depth]; exact Nat.zero_le _⟩
theorem Shp.none {k : Nat} : Shp k .none := ⟨by rw [PyData.canLay0], by rw [PyData.depth]; exact Nat.zero_le _⟩
theorem Shp.str {k : Nat} {x : Str} (h : PySem.PyData.strOk x = true) : Shp k (.str x) := ⟨by rw [PyData.canLay0]; exact h, by rw [PyData.depth]; exact Nat.zero_le _⟩
theorem Shp.tuple {k : Nat} {ds : List PyData} (h : ∀ d ∈ ds, Shp k d) : Shp (k + 1) (.tuple ds) := ⟨by rw [PyData.canLay0]; exact canAll_of ds fun d hd => (h d hd).1, by rw [PyData.depth]; exact Nat.succ_le_succ (depthAll_le ds fun d hd => (h d hd).2)⟩
theorem Shp.list {k : Nat} {ds : List PyData} (h : ∀ d ∈ ds, Shp k d) : Shp (k + 1) (.list ds) := ⟨by rw [PyData.canLay0]; exact canAll_of ds fun d hd => (h d hd).1, by rw [PyData.depth]; exact Nat.succ_le_succ (depthAll_le ds fun d hd => (h d hd).2)⟩
theorem Shp.mono {j k : Nat} {d : PyData} (h : Shp j d) (hk : j ≤ k) : Shp k d := ⟨h.1, Nat.le_trans h.2 hk⟩
theorem Shp.ok {k : Nat} {d : PyData} (h : Shp k d) (hk : k ≤ 64 := by decide) : okEq d = true := by
  unfold okEq SeqAt.shaped
  rw [h.1, decide_eq_true (Nat.le_trans h.2 hk)]
  rfl
end DL
set_option Elab.async false
set_option linter.all false
set_option maxRecDepth 100000
set_option maxHeartbeats 4000000
namespace DL
open PySem PySem.Spec PyProof.Rows L2
variable [Td]
/-- it ends well, and then Q -/
def Wq {α : Type} (Z : Exn → DEnv → Prop) (r : Res α) (Q : α → DEnv → Prop) : Prop := match r with
  | .ok a ρ => Q a ρ
  | .err x ρ => Z x ρ
  | .bad => False
abbrev Zn : Exn → DEnv → Prop := fun _ _ => False
section
variable {Z : Exn → DEnv → Prop}
theorem Wq.get {α : Type} {r : Res α} {Q : α → DEnv → Prop} (h : Wq Zn r Q) : ∃ a ρ, r = .ok a ρ ∧ Q a ρ := by
  cases r with
  | ok a ρ => exact ⟨a, ρ, rfl, h⟩
  | err x ρ => exact h.elim
  | bad => exact h.elim
theorem Wq.mono {α : Type} {r : Res α} {Q Q' : α → DEnv → Prop} (h : Wq Z r Q) (k : ∀ a ρ, Q a ρ → Q' a ρ) : Wq Z r Q' := by
  cases r with
  | ok a ρ => exact k a ρ h
  | err x ρ => exact h
  | bad => exact h
theorem wq_ok {α : Type} (a : α) (ρ : DEnv) (Q : α → DEnv → Prop) : Wq Z (.ok a ρ) Q = Q a ρ := rfl
theorem wq_bad {α : Type} (Q : α → DEnv → Prop) : Wq Z (.bad : Res α) Q = False := rfl
theorem wq_bind {α β : Type} (r : Res α) (k : α → DEnv → Res β) (Q : β → DEnv → Prop) : Wq Z (r.bind k) Q = Wq Z r fun a ρ => Wq Z (k a ρ) Q := by cases r <;> rfl
theorem wq_of {α : Type} (o : Option α) (ρ : DEnv) (Q : α → DEnv → Prop) : Wq Z (Res.of o ρ) Q = ∃ a, o = some a ∧ Q a ρ := by
  cases o with
  | none => exact propext ⟨fun h => h.elim, fun ⟨a, h, _⟩ => nomatch h⟩
  | some a => exact propext ⟨fun h => ⟨a, rfl, h⟩, fun ⟨b, h, q⟩ => by cases h; exact q⟩
theorem wq_of_some {α : Type} (a : α) (ρ : DEnv) (Q : α → DEnv → Prop) : Wq Z (Res.of (some a) ρ) Q = Q a ρ := rfl
section
variable (ρ : DEnv) (Q : PyData → DEnv → Prop) (S : Out → DEnv → Prop) (T : Bool → DEnv → Prop) (L : List PyData → DEnv → Prop) (O : OD → DEnv → Prop)
theorem wq_C (d : PyData) : Wq Z (dC d ρ) Q = Q d ρ := rfl
def cellQ (Q : PyData → DEnv → Prop) (c : Option Cell) (ρ : DEnv) : Prop := match c with
  | some (.val d) => Q d ρ
  | _ => False
theorem cellQ_val (d : PyData) : cellQ Q (some (.val d)) ρ = Q d ρ := rfl
theorem wq_vr (i : Nat) : Wq Z (dVar i ρ) Q = cellQ Q (ρ[i]?) ρ := by
  unfold dVar
  cases ρ[i]? with
  | none => rfl
  | some c => cases c <;> rfl
theorem wq_of_ite {α : Type} {c : Prop} [Decidable c] (a : α) (K : α → DEnv → Prop) : Wq Z (Res.of (if c then some a else none) ρ) K = (c ∧ K a ρ) := by
  by_cases h : c
  · rw [if_pos h]; exact propext ⟨fun q => ⟨h, q⟩, fun q => q.2⟩
  · rw [if_neg h]; exact propext ⟨fun q => q.elim, fun q => absurd q.1 h⟩
theorem wq_op (op : PyData → PyData → Option PyData) (f g : DEnv → Res PyData) : Wq Z (dOp op f g ρ) Q = Wq Z (f ρ) fun x ρ1 => Wq Z (g ρ1) fun y ρ2 => Wq Z (Res.of (op x y) ρ2) Q := by
  unfold dOp; rw [wq_bind]; congr 1; funext x ρ1; rw [wq_bind]
theorem wq_un (op : PyData → Option PyData) (f : DEnv → Res PyData) : Wq Z (dUn op f ρ) Q = Wq Z (f ρ) fun x ρ1 => Wq Z (Res.of (op x) ρ1) Q := by unfold dUn; rw [wq_bind]
theorem wq_nil : Wq Z (dNil ρ) L = L [] ρ := rfl
theorem wq_cons (f : DEnv → Res PyData) (g : DEnv → Res (List PyData)) : Wq Z (dCons f g ρ) L = Wq Z (f ρ) fun x ρ1 => Wq Z (g ρ1) fun xs ρ2 => L (x :: xs) ρ2 := by
  unfold dCons; rw [wq_bind]; congr 1; funext x ρ1; rw [wq_bind]; congr 1
theorem wq_call (op : List PyData → Option PyData) (f : DEnv → Res (List PyData)) : Wq Z (dCall op f ρ) Q = Wq Z (f ρ) fun x ρ1 => Wq Z (Res.of (op x) ρ1) Q := by unfold dCall; rw [wq_bind]
theorem wq_tup (f : DEnv → Res (List PyData)) : Wq Z (dTup f ρ) Q = Wq Z (f ρ) fun x ρ1 => x.length ≤ sizeLine ∧ Q (.tuple x) ρ1 := by
  unfold dTup; rw [wq_bind]; congr 1; funext x ρ1; unfold oTup
  by_cases h : x.length ≤ sizeLine
  · rw [if_pos h]; exact propext ⟨fun q => ⟨h, q⟩, fun q => q.2⟩
  · rw [if_neg h]; exact propext ⟨fun q => q.elim, fun q => absurd q.1 h⟩
theorem wq_lst (f : DEnv → Res (List PyData)) : Wq Z (fLst f ρ) O = Wq Z (f ρ) fun x ρ1 => x.length ≤ sizeLine ∧ O (.lst x) ρ1 := by
  unfold fLst; rw [wq_bind]; congr 1; funext x ρ1; unfold oLst
  by_cases h : x.length ≤ sizeLine
  · rw [if_pos h]; exact propext ⟨fun q => ⟨h, q⟩, fun q => q.2⟩
  · rw [if_neg h]; exact propext ⟨fun q => q.elim, fun q => absurd q.1 h⟩
def frzQ (Q : PyData → DEnv → Prop) (o : OD) (ρ : DEnv) : Prop := match o with
  | .lst ds => Q (.list ds) ρ
  | _ => False
theorem frzQ_lst (ds : List PyData) : frzQ Q (.lst ds) ρ = Q (.list ds) ρ := rfl
theorem wq_frz (f : DEnv → Res OD) : Wq Z (dFrz f ρ) Q = Wq Z (f ρ) (frzQ Q) := by
  unfold dFrz; rw [wq_bind]; congr 1; funext o ρ1; cases o <;> rfl
def boolQ (T : Bool → DEnv → Prop) (d : PyData) (ρ : DEnv) : Prop := match d with
  | .bool b => T b ρ
  | _ => False
theorem boolQ_bool (b : Bool) : boolQ T (.bool b) ρ = T b ρ := rfl
theorem wq_tof (f : DEnv → Res PyData) : Wq Z (tOf f ρ) T = Wq Z (f ρ) (boolQ T) := by
  unfold tOf; rw [wq_bind]; congr 1; funext d ρ1; cases d <;> rfl
theorem wq_tru (f : DEnv → Res PyData) : Wq Z (tTru f ρ) T = Wq Z (f ρ) fun x ρ1 => Wq Z (Res.of (tru x) ρ1) T := by unfold tTru; rw [wq_bind]
theorem wq_tnot (f : DEnv → Res Bool) : Wq Z (tNotD f ρ) T = Wq Z (f ρ) fun b ρ1 => T (!b) ρ1 := by unfold tNotD; rw [wq_bind]; rfl
theorem wq_tand (f g : DEnv → Res Bool) : Wq Z (tAndD f g ρ) T = Wq Z (f ρ) fun b ρ1 => if b = true then Wq Z (g ρ1) T else T false ρ1 := by
  unfold tAndD; rw [wq_bind]; congr 1; funext b ρ1; cases b <;> rfl
theorem wq_tor (f g : DEnv → Res Bool) : Wq Z (tOrD f g ρ) T = Wq Z (f ρ) fun b ρ1 => if b = true then T true ρ1 else Wq Z (g ρ1) T := by
  unfold tOrD; rw [wq_bind]; congr 1; funext b ρ1; cases b <;> rfl
theorem wq_and (f g : DEnv → Res PyData) : Wq Z (dAndD f g ρ) Q = Wq Z (f ρ) (boolQ fun b ρ1 => if b = true then Wq Z (g ρ1) Q else Q (.bool false) ρ1) := by
  unfold dAndD; rw [wq_bind, wq_tof]; congr 1; congr 1; funext b ρ1; cases b <;> rfl
theorem wq_or (f g : DEnv → Res PyData) : Wq Z (dOrD f g ρ) Q = Wq Z (f ρ) (boolQ fun b ρ1 => if b = true then Q (.bool true) ρ1 else Wq Z (g ρ1) Q) := by
  unfold dOrD; rw [wq_bind, wq_tof]; congr 1; congr 1; funext b ρ1; cases b <;> rfl
theorem wq_not (f : DEnv → Res PyData) : Wq Z (dNotD f ρ) Q = Wq Z (f ρ) (boolQ fun b ρ1 => Q (.bool (!b)) ρ1) := by
  unfold dNotD; rw [wq_bind, wq_tof]; rfl
theorem wq_if (c : DEnv → Res Bool) (f g : DEnv → Res PyData) : Wq Z (dIf c f g ρ) Q = Wq Z (c ρ) fun b ρ1 => if b = true then Wq Z (f ρ1) Q else Wq Z (g ρ1) Q := by
  unfold dIf; rw [wq_bind]; congr 1; funext b ρ1; cases b <;> rfl
theorem wq_chain (op1 op2 : PyData → PyData → Option PyData) (f g h : DEnv → Res PyData) : Wq Z (dChain op1 op2 f g h ρ) Q = Wq Z (f ρ) fun x ρ1 => Wq Z (g ρ1) fun y ρ2 => Wq Z (Res.of (op1 x y) ρ2) (boolQ fun b ρ3 => if b = true then Wq Z (h ρ3) fun z ρ4 => Wq Z (Res.of (op2 y z) ρ4) Q else Q (.bool false) ρ3) := by
  unfold dChain; rw [wq_bind]; congr 1; funext x ρ1; rw [wq_bind]; congr 1; funext y ρ2
  cases op1 x y with
  | none => rfl
  | some w =>
    cases w with
    | bool b => cases b with
      | true => show Wq Z ((h ρ2).bind _) Q = _; rw [wq_bind]; rfl
      | false => rfl
    | _ => rfl
theorem wq_len (f : DEnv → Res (LK × List PyData)) : Wq Z (dLen f ρ) Q = Wq Z (f ρ) fun kd ρ1 => Q (.int (kd.2.length : Nat)) ρ1 := by unfold dLen; rw [wq_bind]; rfl
theorem wq_tupleOf (f : DEnv → Res (LK × List PyData)) : Wq Z (dTupleOf f ρ) Q = Wq Z (f ρ) fun kd ρ1 => Q (.tuple kd.2) ρ1 := by unfold dTupleOf; rw [wq_bind]; rfl
theorem wq_listOf (f : DEnv → Res (LK × List PyData)) : Wq Z (fListOf f ρ) O = Wq Z (f ρ) fun kd ρ1 => O (.lst kd.2) ρ1 := by unfold fListOf; rw [wq_bind]; rfl
theorem wq_lof (f : DEnv → Res PyData) (K : LK × List PyData → DEnv → Prop) : Wq Z (lOf f ρ) K = Wq Z (f ρ) fun d ρ1 => Wq Z (Res.of (seqOf d) ρ1) K := by unfold lOf; rw [wq_bind]
theorem wq_lname (i : Nat) (K : LK × List PyData → DEnv → Prop) : Wq Z (lName i ρ) K = Wq Z (Res.of ((nameD i ρ).bind seqOf) ρ) K := rfl
theorem wq_guard {α : Type} {c : Prop} [Decidable c] (r : Res α) (K : α → DEnv → Prop) : Wq Z (if c then r else .bad) K = (c ∧ Wq Z r K) := by
  by_cases h : c
  · rw [if_pos h]; exact propext ⟨fun q => ⟨h, q⟩, fun q => q.2⟩
  · rw [if_neg h]; exact propext ⟨fun q => q.elim, fun q => absurd q.1 h⟩
theorem wq_ixN (i : Nat) (f : DEnv → Res PyData) : Wq Z (dIxN i f ρ) Q = ((nameD i ρ).isSome = true ∧ Wq Z (f ρ) fun k ρ1 => Wq Z (Res.of ((nameD i ρ1).bind fun d => oIx d k) ρ1) Q) := by
  unfold dIxN; rw [wq_guard, wq_bind]
theorem wq_inN (op : PyData → PyData → Option PyData) (i : Nat) (f : DEnv → Res PyData) : Wq Z (dInN op i f ρ) Q = Wq Z (f ρ) fun d ρ1 => Wq Z (Res.of ((nameD i ρ1).bind fun s => op d s) ρ1) Q := by unfold dInN; rw [wq_bind]
theorem wq_indexN (i : Nat) (f : DEnv → Res PyData) : Wq Z (dIndexN i f ρ) Q = (isLst (nameD i ρ) = true ∧ Wq Z (f ρ) fun k ρ1 => Wq Z (Res.of ((nameD i ρ1).bind fun d => oIndex d k) ρ1) Q) := by
  unfold dIndexN; rw [wq_guard, wq_bind]
def intQ (Q : Int → DEnv → Prop) (d : PyData) (ρ : DEnv) : Prop := match d with
  | .int i => Q i ρ
  | _ => False
theorem intQ_int (Q : Int → DEnv → Prop) (i : Int) : intQ Q (.int i) ρ = Q i ρ := rfl
theorem wq_tupRg (f : DEnv → Res PyData) : Wq Z (dTupRg f ρ) Q = Wq Z (f ρ) (intQ fun n ρ1 => RgOk 0 n ∧ Q (.tuple (intsD 0 n.toNat)) ρ1) := by
  unfold dTupRg; rw [wq_bind]; congr 1; funext d ρ1
  cases d with
  | int n =>
    show Wq Z (if RgOk 0 n then _ else _) Q = _
    by_cases h : RgOk 0 n
    · rw [if_pos h]; exact propext ⟨fun q => ⟨h, q⟩, fun q => q.2⟩
    · rw [if_neg h]; exact propext ⟨fun q => q.elim, fun q => absurd q.1 h⟩
  | _ => rfl
theorem wq_lstRg (f : DEnv → Res PyData) : Wq Z (fLstRg f ρ) O = Wq Z (f ρ) (intQ fun n ρ1 => RgOk 0 n ∧ O (.lst (intsD 0 n.toNat)) ρ1) := by
  unfold fLstRg; rw [wq_bind]; congr 1; funext d ρ1
  cases d with
  | int n =>
    show Wq Z (if RgOk 0 n then _ else _) O = _
    by_cases h : RgOk 0 n
    · rw [if_pos h]; exact propext ⟨fun q => ⟨h, q⟩, fun q => q.2⟩
    · rw [if_neg h]; exact propext ⟨fun q => q.elim, fun q => absurd q.1 h⟩
  | _ => rfl
theorem wq_sl (f : DEnv → Res PyData) (l u : DEnv → Res (Option Int)) : Wq Z (dSl f l u ρ) Q = Wq Z (f ρ) fun d ρ1 => Wq Z (l ρ1) fun lo ρ2 => Wq Z (u ρ2) fun hi ρ3 => Wq Z (Res.of (slOf d lo hi) ρ3) Q := by
  unfold dSl; rw [wq_bind]; congr 1; funext d ρ1; rw [wq_bind]; congr 1; funext lo ρ2; rw [wq_bind]
theorem wq_noPart (K : Option Int → DEnv → Prop) : Wq Z (oNoPart ρ) K = K none ρ := rfl
theorem wq_part (f : DEnv → Res PyData) (K : Option Int → DEnv → Prop) : Wq Z (oPart f ρ) K = Wq Z (f ρ) (intQ fun i ρ1 => K (some i) ρ1) := by
  unfold oPart; rw [wq_bind]; congr 1; funext d ρ1; cases d <;> rfl
theorem wq_callV (den : DEnv → Res PyData) (f : DEnv → Res (List PyData)) : Wq Z (dCallV den f ρ) Q = Wq Z (f ρ) fun ds ρ1 => Wq Zn (den (ds.map .val)) fun d _ => Q d ρ1 := by
  unfold dCallV; rw [wq_bind]; congr 1; funext ds ρ1; cases den (ds.map .val) <;> rfl
theorem wq_callI (den : DEnv → Res PyData) (i : Nat) (f : DEnv → Res (List PyData)) : Wq Z (dCallI den i f ρ) Q = ((ρ[i]?.getD .un).isOwn = true ∧ Wq Z (f ρ) fun ds ρ1 => Wq Z (callIO den i ds ρ1) Q) := by
  unfold dCallI; rw [wq_guard, wq_bind]
theorem wq_callIO_own (den : DEnv → Res PyData) (i : Nat) (ds : List PyData) (o : OD) (h : ρ[i]? = some (.own o)) (k : Wq Zn (den (.io o :: ds.map .val)) fun d cs => ∃ o' r, cs = .io o' :: r ∧ Q d (ρ.set i (.own o'))) : Wq Z (callIO den i ds ρ) Q := by
  unfold callIO; rw [h]
  obtain ⟨d, cs, e, o', r, rfl, q⟩ := k.get
  simp only [e]; exact q
def onNx (k : DEnv → Prop) (S : Out → DEnv → Prop) (o : Out) (ρ : DEnv) : Prop := match o with
  | .nx => k ρ
  | o => S o ρ
theorem onNx_nx (k : DEnv → Prop) : onNx k S .nx ρ = k ρ := rfl
theorem onNx_rt (k : DEnv → Prop) (d : PyData) : onNx k S (.rt d) ρ = S (.rt d) ρ := rfl
theorem onNx_bk (k : DEnv → Prop) : onNx k S .bk ρ = S .bk ρ := rfl
theorem onNx_ct (k : DEnv → Prop) : onNx k S .ct ρ = S .ct ρ := rfl
theorem wsq_seq (f g : DEnv → Res Out) : Wq Z (sSeq f g ρ) S = Wq Z (f ρ) (onNx (fun ρ1 => Wq Z (g ρ1) S) S) := by
  unfold sSeq
  cases f ρ with
  | ok o ρ1 => cases o <;> rfl
  | err x ρ1 => rfl
  | bad => rfl
theorem wsq_nx : Wq Z (sNx ρ) S = S .nx ρ := rfl
theorem wsq_bk : Wq Z (sBk ρ) S = S .bk ρ := rfl
theorem wsq_ct : Wq Z (sCt ρ) S = S .ct ρ := rfl
theorem wsq_ret (f : DEnv → Res PyData) : Wq Z (sRet f ρ) S = Wq Z (f ρ) fun d ρ1 => S (.rt d) ρ1 := by unfold sRet; rw [wq_bind]; rfl
theorem wsq_retN : Wq Z (sRetN ρ) S = S (.rt .none) ρ := rfl
theorem wsq_drop (f : DEnv → Res PyData) : Wq Z (sDrop f ρ) S = Wq Z (f ρ) fun _ ρ1 => S .nx ρ1 := by unfold sDrop; rw [wq_bind]; rfl
theorem wsq_if (c : DEnv → Res Bool) (f g : DEnv → Res Out) : Wq Z (sIf c f g ρ) S = Wq Z (c ρ) fun b ρ1 => if b = true then Wq Z (f ρ1) S else Wq Z (g ρ1) S := by
  unfold sIf; rw [wq_bind]; congr 1; funext b ρ1; cases b <;> rfl
theorem wsq_asg (f : DEnv → Res PyData) (g : PyData → DEnv → Option DEnv) : Wq Z (sAsg f g ρ) S = Wq Z (f ρ) fun d ρ1 => Wq Z (nxOf (g d ρ1)) S := by unfold sAsg; rw [wq_bind]
theorem wsq_new (i : Nat) (f : DEnv → Res OD) : Wq Z (sNew i f ρ) S = Wq Z (f ρ) fun o ρ1 => Wq Z (nxOf (setO i o ρ1)) S := by unfold sNew; rw [wq_bind]
theorem wsq_nxOf (ρ1 : DEnv) : Wq Z (nxOf (some ρ1)) S = S .nx ρ1 := rfl
theorem wsq_frz (i : Nat) (f : DEnv → Res Out) : Wq Z (sFrz i f ρ) S = Wq Z (f (frzC i ρ)) S := rfl
theorem wsq_for (fi : DEnv → Res (List PyData)) (g : PyData → DEnv → Option DEnv) (fb : DEnv → Res Out) : Wq Z (sFor fi g fb ρ) S = Wq Z (fi ρ) fun ds ρ1 => Wq Z (forL g fb ds ρ1) S := by unfold sFor; rw [wq_bind]
theorem wq_iseq (f : DEnv → Res PyData) : Wq Z (iSeq f ρ) L = Wq Z (f ρ) fun d ρ1 => Wq Z (Res.of ((seqOf d).map (·.2)) ρ1) L := by unfold iSeq; rw [wq_bind]
theorem wq_irng (op : List PyData → Option (List PyData)) (f : DEnv → Res (List PyData)) : Wq Z (iRng op f ρ) L = Wq Z (f ρ) fun ds ρ1 => Wq Z (Res.of (op ds) ρ1) L := by unfold iRng; rw [wq_bind]
def heldQ (K : List PyData → Prop) (o : Option (List PyData)) : Prop := match o with
  | some ds => K ds
  | none => False
theorem heldQ_some (K : List PyData → Prop) (ds : List PyData) : heldQ K (some ds) = K ds := rfl
def ixQ (K : Nat → Prop) (o : Option Nat) : Prop := match o with
  | some ds => K ds
  | none => False
theorem ixQ_some (K : Nat → Prop) (j : Nat) : ixQ K (some j) = K j := rfl
theorem wsq_app (i : Nat) (f : DEnv → Res PyData) : Wq Z (sApp i f ρ) S = (isHeld i ρ = true ∧ Wq Z (f ρ) fun d ρ1 => heldQ (fun ds => ds.length < sizeLine ∧ S .nx (setHeld i (.lst (ds ++ [d])) ρ1)) (heldL i ρ1)) := by
  unfold sApp; rw [wq_guard, wq_bind]; congr 1; congr 1; funext d ρ1
  cases heldL i ρ1 with
  | none => rfl
  | some ds => exact wq_guard _ _
theorem wsq_setH (i : Nat) (f g : DEnv → Res PyData) : Wq Z (sSetH i f g ρ) S = Wq Z (f ρ) fun d ρ1 => isHeld i ρ1 = true ∧ Wq Z (g ρ1) (intQ fun k ρ2 => heldQ (fun ds => ixQ (fun j => S .nx (setHeld i (.lst (ds.set j d)) ρ2)) (ixN ds.length k)) (heldL i ρ2)) := by
  unfold sSetH; rw [wq_bind]; congr 1; funext d ρ1
  rw [wq_guard, wq_bind]; congr 1; congr 1; funext k ρ2
  cases k with
  | int k =>
    show Wq Z (match heldL i ρ2, PyData.int k with
        | some ds, .int k => match ixN ds.length k with
          | some j => .ok .nx (setHeld i (.lst (ds.set j d)) ρ2)
          | none => .bad
        | _, _ => .bad) S = heldQ _ (heldL i ρ2)
    cases heldL i ρ2 with
    | none => rfl
    | some ds =>
      show Wq Z (match ixN ds.length k with
          | some j => .ok .nx (setHeld i (.lst (ds.set j d)) ρ2)
          | none => .bad) S = ixQ _ (ixN ds.length k)
      cases ixN ds.length k <;> rfl
  | _ => cases heldL i ρ2 <;> rfl
theorem wq_popAt (i : Nat) (f : DEnv → Res PyData) : Wq Z (dPopAt i f ρ) Q = (isHeld i ρ = true ∧ Wq Z (f ρ) (intQ fun k ρ1 => heldQ (fun ds => ixQ (fun j => Wq Z (Res.of (ds[j]?) ρ1) fun d ρ1 => ds.length ≤ sizeLine ∧ Q d (setHeld i (.lst (ds.eraseIdx j)) ρ1)) (ixN ds.length k)) (heldL i ρ1))) := by
  unfold dPopAt; rw [wq_guard, wq_bind]; congr 1; congr 1; funext d ρ1
  cases d with
  | int k =>
    show Wq Z (match heldL i ρ1, PyData.int k with
        | some ds, .int k => match ixN ds.length k with
          | some j => match ds[j]? with
            | some d => if ds.length ≤ sizeLine then .ok d (setHeld i (.lst (ds.eraseIdx j)) ρ1) else .bad
            | none => .bad
          | none => .bad
        | _, _ => .bad) Q = heldQ _ (heldL i ρ1)
    cases heldL i ρ1 with
    | none => rfl
    | some ds =>
      show Wq Z (match ixN ds.length k with
          | some j => match ds[j]? with
            | some d => if ds.length ≤ sizeLine then .ok d (setHeld i (.lst (ds.eraseIdx j)) ρ1) else .bad
            | none => .bad
          | none => .bad) Q = ixQ _ (ixN ds.length k)
      cases ixN ds.length k with
      | none => rfl
      | some j =>
        show Wq Z (match ds[j]? with
            | some d => if ds.length ≤ sizeLine then .ok d (setHeld i (.lst (ds.eraseIdx j)) ρ1) else .bad
            | none => .bad) Q = Wq Z (Res.of (ds[j]?) ρ1) _
        cases ds[j]? with
        | none => rfl
        | some d => exact wq_guard _ _
  | _ => cases heldL i ρ1 <;> rfl
def retQ (cs : DEnv) (Q : PyData → DEnv → Prop) (o : Out) (ρ : DEnv) : Prop := match o with
  | .nx => Q .none (backIO cs ρ)
  | .rt d => Q d (backIO cs ρ)
  | _ => False
theorem retQ_rt (cs : DEnv) (d : PyData) : retQ cs Q (.rt d) ρ = Q d (backIO cs ρ) := rfl
theorem retQ_nx (cs : DEnv) : retQ cs Q .nx ρ = Q .none (backIO cs ρ) := rfl
theorem wq_def (m : Nat) (body : DEnv → Res Out) (cs : DEnv) (h : Wq Zn (body (cs ++ List.replicate m .un)) (retQ cs Q)) : Wq Zn (defD m body cs) Q := by
  unfold defD
  cases e : body (cs ++ List.replicate m .un) with
  | ok o ρ => rw [e] at h; cases o <;> exact h
  | err x ρ => rw [e] at h; exact h
  | bad => rw [e] at h; exact h
theorem wq_lc (vs : List Nat) (fi : DEnv → Res (List PyData)) (gd : PyData → DEnv → Option DEnv) (ft : DEnv → Res Bool) (fe : DEnv → Res PyData) : Wq Z (fLc vs fi gd ft fe ρ) O = Wq Z (fi ρ) fun ds ρ1 => Wq Zn (lcL vs gd ft fe ds [] (wipeC ρ1 vs)) fun acc ρ2 => O (.lst acc) (unwipe vs ρ1 ρ2) := by
  unfold fLc; rw [wq_bind]; congr 1; funext ds ρ1
  cases lcL vs gd ft fe ds [] (wipeC ρ1 vs) <;> rfl
end
/-- as Wq, and never unfolded -/
structure WpX {α : Type} (Z : Exn → DEnv → Prop) (r : Res α) (Q : α → DEnv → Prop) : Prop where
  of ::
  out : Wq Z r Q
theorem wpq : @WpX = @Wq := by funext α Z r Q; exact propext ⟨WpX.out, WpX.of⟩
theorem WpX.get {α : Type} {r : Res α} {Q : α → DEnv → Prop} (h : WpX Zn r Q) : ∃ a ρ, r = .ok a ρ ∧ Q a ρ := h.out.get
theorem WpX.mono {α : Type} {r : Res α} {Q Q' : α → DEnv → Prop} (h : WpX Z r Q) (k : ∀ a ρ, Q a ρ → Q' a ρ) : WpX Z r Q' := ⟨h.out.mono k⟩
theorem WpX.ok {α : Type} {r : Res α} {Q : α → DEnv → Prop} {a : α} {ρ : DEnv} (e : r = .ok a ρ) (h : Q a ρ) : WpX Z r Q := by subst e; exact ⟨h⟩
theorem wp_ok {α : Type} (a : α) (ρ : DEnv) (Q : α → DEnv → Prop) : WpX Z (.ok a ρ) Q = Q a ρ := by
  simp only [wpq] at *
  apply wq_ok <;> assumption
theorem wp_bad {α : Type} (Q : α → DEnv → Prop) : WpX Z (.bad : Res α) Q = False := by
  simp only [wpq] at *
  apply wq_bad <;> assumption
theorem wp_bind {α β : Type} (r : Res α) (k : α → DEnv → Res β) (Q : β → DEnv → Prop) : WpX Z (r.bind k) Q = WpX Z r fun a ρ => WpX Z (k a ρ) Q := by
  simp only [wpq] at *
  apply wq_bind <;> assumption
theorem wp_of {α : Type} (o : Option α) (ρ : DEnv) (Q : α → DEnv → Prop) : WpX Z (Res.of o ρ) Q = ∃ a, o = some a ∧ Q a ρ := by
  simp only [wpq] at *
  apply wq_of <;> assumption
theorem wp_of_some {α : Type} (a : α) (ρ : DEnv) (Q : α → DEnv → Prop) : WpX Z (Res.of (some a) ρ) Q = Q a ρ := by
  simp only [wpq] at *
  apply wq_of_some <;> assumption
section
variable (ρ : DEnv) (Q : PyData → DEnv → Prop) (S : Out → DEnv → Prop) (T : Bool → DEnv → Prop) (L : List PyData → DEnv → Prop) (O : OD → DEnv → Prop)
theorem wp_C (d : PyData) : WpX Z (dC d ρ) Q = Q d ρ := by
  simp only [wpq] at *
  apply wq_C <;> assumption
theorem wp_vr (i : Nat) : WpX Z (dVar i ρ) Q = cellQ Q (ρ[i]?) ρ := by
  simp only [wpq] at *
  apply wq_vr <;> assumption
theorem wp_of_ite {α : Type} {c : Prop} [Decidable c] (a : α) (K : α → DEnv → Prop) : WpX Z (Res.of (if c then some a else none) ρ) K = (c ∧ K a ρ) := by
  simp only [wpq] at *
  apply wq_of_ite <;> assumption
theorem wp_op (op : PyData → PyData → Option PyData) (f g : DEnv → Res PyData) : WpX Z (dOp op f g ρ) Q = WpX Z (f ρ) fun x ρ1 => WpX Z (g ρ1) fun y ρ2 => WpX Z (Res.of (op x y) ρ2) Q := by
  simp only [wpq] at *
  apply wq_op <;> assumption
theorem wp_un (op : PyData → Option PyData) (f : DEnv → Res PyData) : WpX Z (dUn op f ρ) Q = WpX Z (f ρ) fun x ρ1 => WpX Z (Res.of (op x) ρ1) Q := by
  simp only [wpq] at *
  apply wq_un <;> assumption
theorem wp_nil : WpX Z (dNil ρ) L = L [] ρ := by
  simp only [wpq] at *
  apply wq_nil <;> assumption
theorem wp_cons (f : DEnv → Res PyData) (g : DEnv → Res (List PyData)) : WpX Z (dCons f g ρ) L = WpX Z (f ρ) fun x ρ1 => WpX Z (g ρ1) fun xs ρ2 => L (x :: xs) ρ2 := by
  simp only [wpq] at *
  apply wq_cons <;> assumption
theorem wp_call (op : List PyData → Option PyData) (f : DEnv → Res (List PyData)) : WpX Z (dCall op f ρ) Q = WpX Z (f ρ) fun x ρ1 => WpX Z (Res.of (op x) ρ1) Q := by
  simp only [wpq] at *
  apply wq_call <;> assumption
theorem wp_tup (f : DEnv → Res (List PyData)) : WpX Z (dTup f ρ) Q = WpX Z (f ρ) fun x ρ1 => x.length ≤ sizeLine ∧ Q (.tuple x) ρ1 := by
  simp only [wpq] at *
  apply wq_tup <;> assumption
theorem wp_lst (f : DEnv → Res (List PyData)) : WpX Z (fLst f ρ) O = WpX Z (f ρ) fun x ρ1 => x.length ≤ sizeLine ∧ O (.lst x) ρ1 := by
  simp only [wpq] at *
  apply wq_lst <;> assumption
theorem wp_frz (f : DEnv → Res OD) : WpX Z (dFrz f ρ) Q = WpX Z (f ρ) (frzQ Q) := by
  simp only [wpq] at *
  apply wq_frz <;> assumption
theorem wp_tof (f : DEnv → Res PyData) : WpX Z (tOf f ρ) T = WpX Z (f ρ) (boolQ T) := by
  simp only [wpq] at *
  apply wq_tof <;> assumption
theorem wp_tru (f : DEnv → Res PyData) : WpX Z (tTru f ρ) T = WpX Z (f ρ) fun x ρ1 => WpX Z (Res.of (tru x) ρ1) T := by
  simp only [wpq] at *
  apply wq_tru <;> assumption
theorem wp_tnot (f : DEnv → Res Bool) : WpX Z (tNotD f ρ) T = WpX Z (f ρ) fun b ρ1 => T (!b) ρ1 := by
  simp only [wpq] at *
  apply wq_tnot <;> assumption
theorem wp_tand (f g : DEnv → Res Bool) : WpX Z (tAndD f g ρ) T = WpX Z (f ρ) fun b ρ1 => if b = true then WpX Z (g ρ1) T else T false ρ1 := by
  simp only [wpq] at *
  apply wq_tand <;> assumption
theorem wp_tor (f g : DEnv → Res Bool) : WpX Z (tOrD f g ρ) T = WpX Z (f ρ) fun b ρ1 => if b = true then T true ρ1 else WpX Z (g ρ1) T := by
  simp only [wpq] at *
  apply wq_tor <;> assumption
theorem wp_and (f g : DEnv → Res PyData) : WpX Z (dAndD f g ρ) Q = WpX Z (f ρ) (boolQ fun b ρ1 => if b = true then WpX Z (g ρ1) Q else Q (.bool false) ρ1) := by
  simp only [wpq] at *
  apply wq_and <;> assumption
theorem wp_or (f g : DEnv → Res PyData) : WpX Z (dOrD f g ρ) Q = WpX Z (f ρ) (boolQ fun b ρ1 => if b = true then Q (.bool true) ρ1 else WpX Z (g ρ1) Q) := by
  simp only [wpq] at *
  apply wq_or <;> assumption
theorem wp_not (f : DEnv → Res PyData) : WpX Z (dNotD f ρ) Q = WpX Z (f ρ) (boolQ fun b ρ1 => Q (.bool (!b)) ρ1) := by
  simp only [wpq] at *
  apply wq_not <;> assumption
theorem wp_if (c : DEnv → Res Bool) (f g : DEnv → Res PyData) : WpX Z (dIf c f g ρ) Q = WpX Z (c ρ) fun b ρ1 => if b = true then WpX Z (f ρ1) Q else WpX Z (g ρ1) Q := by
  simp only [wpq] at *
  apply wq_if <;> assumption
theorem wp_chain (op1 op2 : PyData → PyData → Option PyData) (f g h : DEnv → Res PyData) : WpX Z (dChain op1 op2 f g h ρ) Q = WpX Z (f ρ) fun x ρ1 => WpX Z (g ρ1) fun y ρ2 => WpX Z (Res.of (op1 x y) ρ2) (boolQ fun b ρ3 => if b = true then WpX Z (h ρ3) fun z ρ4 => WpX Z (Res.of (op2 y z) ρ4) Q else Q (.bool false) ρ3) := by
  simp only [wpq] at *
  apply wq_chain <;> assumption
theorem wp_len (f : DEnv → Res (LK × List PyData)) : WpX Z (dLen f ρ) Q = WpX Z (f ρ) fun kd ρ1 => Q (.int (kd.2.length : Nat)) ρ1 := by
  simp only [wpq] at *
  apply wq_len <;> assumption
theorem wp_tupleOf (f : DEnv → Res (LK × List PyData)) : WpX Z (dTupleOf f ρ) Q = WpX Z (f ρ) fun kd ρ1 => Q (.tuple kd.2) ρ1 := by
  simp only [wpq] at *
  apply wq_tupleOf <;> assumption
theorem wp_listOf (f : DEnv → Res (LK × List PyData)) : WpX Z (fListOf f ρ) O = WpX Z (f ρ) fun kd ρ1 => O (.lst kd.2) ρ1 := by
  simp only [wpq] at *
  apply wq_listOf <;> assumption
theorem wp_lof (f : DEnv → Res PyData) (K : LK × List PyData → DEnv → Prop) : WpX Z (lOf f ρ) K = WpX Z (f ρ) fun d ρ1 => WpX Z (Res.of (seqOf d) ρ1) K := by
  simp only [wpq] at *
  apply wq_lof <;> assumption
theorem wp_lname (i : Nat) (K : LK × List PyData → DEnv → Prop) : WpX Z (lName i ρ) K = WpX Z (Res.of ((nameD i ρ).bind seqOf) ρ) K := by
  simp only [wpq] at *
  apply wq_lname <;> assumption
theorem wp_guard {α : Type} {c : Prop} [Decidable c] (r : Res α) (K : α → DEnv → Prop) : WpX Z (if c then r else .bad) K = (c ∧ WpX Z r K) := by
  simp only [wpq] at *
  apply wq_guard <;> assumption
theorem wp_ixN (i : Nat) (f : DEnv → Res PyData) : WpX Z (dIxN i f ρ) Q = ((nameD i ρ).isSome = true ∧ WpX Z (f ρ) fun k ρ1 => WpX Z (Res.of ((nameD i ρ1).bind fun d => oIx d k) ρ1) Q) := by
  simp only [wpq] at *
  apply wq_ixN <;> assumption
theorem wp_inN (op : PyData → PyData → Option PyData) (i : Nat) (f : DEnv → Res PyData) : WpX Z (dInN op i f ρ) Q = WpX Z (f ρ) fun d ρ1 => WpX Z (Res.of ((nameD i ρ1).bind fun s => op d s) ρ1) Q := by
  simp only [wpq] at *
  apply wq_inN <;> assumption
theorem wp_indexN (i : Nat) (f : DEnv → Res PyData) : WpX Z (dIndexN i f ρ) Q = (isLst (nameD i ρ) = true ∧ WpX Z (f ρ) fun k ρ1 => WpX Z (Res.of ((nameD i ρ1).bind fun d => oIndex d k) ρ1) Q) := by
  simp only [wpq] at *
  apply wq_indexN <;> assumption
theorem wp_tupRg (f : DEnv → Res PyData) : WpX Z (dTupRg f ρ) Q = WpX Z (f ρ) (intQ fun n ρ1 => RgOk 0 n ∧ Q (.tuple (intsD 0 n.toNat)) ρ1) := by
  simp only [wpq] at *
  apply wq_tupRg <;> assumption
theorem wp_lstRg (f : DEnv → Res PyData) : WpX Z (fLstRg f ρ) O = WpX Z (f ρ) (intQ fun n ρ1 => RgOk 0 n ∧ O (.lst (intsD 0 n.toNat)) ρ1) := by
  simp only [wpq] at *
  apply wq_lstRg <;> assumption
theorem wp_sl (f : DEnv → Res PyData) (l u : DEnv → Res (Option Int)) : WpX Z (dSl f l u ρ) Q = WpX Z (f ρ) fun d ρ1 => WpX Z (l ρ1) fun lo ρ2 => WpX Z (u ρ2) fun hi ρ3 => WpX Z (Res.of (slOf d lo hi) ρ3) Q := by
  simp only [wpq] at *
  apply wq_sl <;> assumption
theorem wp_noPart (K : Option Int → DEnv → Prop) : WpX Z (oNoPart ρ) K = K none ρ := by
  simp only [wpq] at *
  apply wq_noPart <;> assumption
theorem wp_part (f : DEnv → Res PyData) (K : Option Int → DEnv → Prop) : WpX Z (oPart f ρ) K = WpX Z (f ρ) (intQ fun i ρ1 => K (some i) ρ1) := by
  simp only [wpq] at *
  apply wq_part <;> assumption
theorem wp_callV (den : DEnv → Res PyData) (f : DEnv → Res (List PyData)) : WpX Z (dCallV den f ρ) Q = WpX Z (f ρ) fun ds ρ1 => WpX Zn (den (ds.map .val)) fun d _ => Q d ρ1 := by
  simp only [wpq] at *
  apply wq_callV <;> assumption
theorem wp_callI (den : DEnv → Res PyData) (i : Nat) (f : DEnv → Res (List PyData)) : WpX Z (dCallI den i f ρ) Q = ((ρ[i]?.getD .un).isOwn = true ∧ WpX Z (f ρ) fun ds ρ1 => WpX Z (callIO den i ds ρ1) Q) := by
  simp only [wpq] at *
  apply wq_callI <;> assumption
theorem wp_callIO_own (den : DEnv → Res PyData) (i : Nat) (ds : List PyData) (o : OD) (h : ρ[i]? = some (.own o)) (k : WpX Zn (den (.io o :: ds.map .val)) fun d cs => ∃ o' r, cs = .io o' :: r ∧ Q d (ρ.set i (.own o'))) : WpX Z (callIO den i ds ρ) Q := by
  simp only [wpq] at *
  apply wq_callIO_own <;> assumption
theorem ws_seq (f g : DEnv → Res Out) : WpX Z (sSeq f g ρ) S = WpX Z (f ρ) (onNx (fun ρ1 => WpX Z (g ρ1) S) S) := by
  simp only [wpq] at *
  apply wsq_seq <;> assumption
theorem ws_nx : WpX Z (sNx ρ) S = S .nx ρ := by
  simp only [wpq] at *
  apply wsq_nx <;> assumption
theorem ws_bk : WpX Z (sBk ρ) S = S .bk ρ := by
  simp only [wpq] at *
  apply wsq_bk <;> assumption
theorem ws_ct : WpX Z (sCt ρ) S = S .ct ρ := by
  simp only [wpq] at *
  apply wsq_ct <;> assumption
theorem ws_ret (f : DEnv → Res PyData) : WpX Z (sRet f ρ) S = WpX Z (f ρ) fun d ρ1 => S (.rt d) ρ1 := by
  simp only [wpq] at *
  apply wsq_ret <;> assumption
theorem ws_retN : WpX Z (sRetN ρ) S = S (.rt .none) ρ := by
  simp only [wpq] at *
  apply wsq_retN <;> assumption
theorem ws_drop (f : DEnv → Res PyData) : WpX Z (sDrop f ρ) S = WpX Z (f ρ) fun _ ρ1 => S .nx ρ1 := by
  simp only [wpq] at *
  apply wsq_drop <;> assumption
theorem ws_if (c : DEnv → Res Bool) (f g : DEnv → Res Out) : WpX Z (sIf c f g ρ) S = WpX Z (c ρ) fun b ρ1 => if b = true then WpX Z (f ρ1) S else WpX Z (g ρ1) S := by
  simp only [wpq] at *
  apply wsq_if <;> assumption
theorem ws_asg (f : DEnv → Res PyData) (g : PyData → DEnv → Option DEnv) : WpX Z (sAsg f g ρ) S = WpX Z (f ρ) fun d ρ1 => WpX Z (nxOf (g d ρ1)) S := by
  simp only [wpq] at *
  apply wsq_asg <;> assumption
theorem ws_new (i : Nat) (f : DEnv → Res OD) : WpX Z (sNew i f ρ) S = WpX Z (f ρ) fun o ρ1 => WpX Z (nxOf (setO i o ρ1)) S := by
  simp only [wpq] at *
  apply wsq_new <;> assumption
theorem ws_nxOf (ρ1 : DEnv) : WpX Z (nxOf (some ρ1)) S = S .nx ρ1 := by
  simp only [wpq] at *
  apply wsq_nxOf <;> assumption
theorem ws_frz (i : Nat) (f : DEnv → Res Out) : WpX Z (sFrz i f ρ) S = WpX Z (f (frzC i ρ)) S := by
  simp only [wpq] at *
  apply wsq_frz <;> assumption
theorem ws_for (fi : DEnv → Res (List PyData)) (g : PyData → DEnv → Option DEnv) (fb : DEnv → Res Out) : WpX Z (sFor fi g fb ρ) S = WpX Z (fi ρ) fun ds ρ1 => WpX Z (forL g fb ds ρ1) S := by
  simp only [wpq] at *
  apply wsq_for <;> assumption
theorem wp_iseq (f : DEnv → Res PyData) : WpX Z (iSeq f ρ) L = WpX Z (f ρ) fun d ρ1 => WpX Z (Res.of ((seqOf d).map (·.2)) ρ1) L := by
  simp only [wpq] at *
  apply wq_iseq <;> assumption
theorem wp_irng (op : List PyData → Option (List PyData)) (f : DEnv → Res (List PyData)) : WpX Z (iRng op f ρ) L = WpX Z (f ρ) fun ds ρ1 => WpX Z (Res.of (op ds) ρ1) L := by
  simp only [wpq] at *
  apply wq_irng <;> assumption
theorem ws_app (i : Nat) (f : DEnv → Res PyData) : WpX Z (sApp i f ρ) S = (isHeld i ρ = true ∧ WpX Z (f ρ) fun d ρ1 => heldQ (fun ds => ds.length < sizeLine ∧ S .nx (setHeld i (.lst (ds ++ [d])) ρ1)) (heldL i ρ1)) := by
  simp only [wpq] at *
  apply wsq_app <;> assumption
theorem ws_setH (i : Nat) (f g : DEnv → Res PyData) : WpX Z (sSetH i f g ρ) S = WpX Z (f ρ) fun d ρ1 => isHeld i ρ1 = true ∧ WpX Z (g ρ1) (intQ fun k ρ2 => heldQ (fun ds => ixQ (fun j => S .nx (setHeld i (.lst (ds.set j d)) ρ2)) (ixN ds.length k)) (heldL i ρ2)) := by
  simp only [wpq] at *
  apply wsq_setH <;> assumption
theorem wp_popAt (i : Nat) (f : DEnv → Res PyData) : WpX Z (dPopAt i f ρ) Q = (isHeld i ρ = true ∧ WpX Z (f ρ) (intQ fun k ρ1 => heldQ (fun ds => ixQ (fun j => WpX Z (Res.of (ds[j]?) ρ1) fun d ρ1 => ds.length ≤ sizeLine ∧ Q d (setHeld i (.lst (ds.eraseIdx j)) ρ1)) (ixN ds.length k)) (heldL i ρ1))) := by
  simp only [wpq] at *
  apply wq_popAt <;> assumption
theorem wp_def (m : Nat) (body : DEnv → Res Out) (cs : DEnv) (h : WpX Zn (body (cs ++ List.replicate m .un)) (retQ cs Q)) : WpX Zn (defD m body cs) Q := by
  simp only [wpq] at *
  apply wq_def <;> assumption
theorem wp_lc (vs : List Nat) (fi : DEnv → Res (List PyData)) (gd : PyData → DEnv → Option DEnv) (ft : DEnv → Res Bool) (fe : DEnv → Res PyData) : WpX Z (fLc vs fi gd ft fe ρ) O = WpX Z (fi ρ) fun ds ρ1 => WpX Zn (lcL vs gd ft fe ds [] (wipeC ρ1 vs)) fun acc ρ2 => O (.lst acc) (unwipe vs ρ1 ρ2) := by
  simp only [wpq] at *
  apply wq_lc <;> assumption
end
end
def setVo (c : Option Cell) (i : Nat) (d : PyData) (ρ : DEnv) : Option DEnv := match c with
  | some (.io _) => none
  | some _ => some (ρ.set i (.val d))
  | none => none
theorem setV_eq (i : Nat) (d : PyData) (ρ : DEnv) : setV i d ρ = setVo (ρ[i]?) i d ρ := rfl
theorem setVo_val (x : PyData) (i : Nat) (d : PyData) (ρ : DEnv) : setVo (some (.val x)) i d ρ = some (ρ.set i (.val d)) := rfl
theorem setVo_un (i : Nat) (d : PyData) (ρ : DEnv) : setVo (some .un) i d ρ = some (ρ.set i (.val d)) := rfl
theorem setVo_own (x : OD) (i : Nat) (d : PyData) (ρ : DEnv) : setVo (some (.own x)) i d ρ = some (ρ.set i (.val d)) := rfl
def setOo (c : Option Cell) (i : Nat) (d : OD) (ρ : DEnv) : Option DEnv := match c with
  | some (.io _) => none
  | some _ => some (ρ.set i (.own d))
  | none => none
theorem setO_eq (i : Nat) (d : OD) (ρ : DEnv) : setO i d ρ = setOo (ρ[i]?) i d ρ := rfl
theorem setOo_val (x : PyData) (i : Nat) (d : OD) (ρ : DEnv) : setOo (some (.val x)) i d ρ = some (ρ.set i (.own d)) := rfl
theorem setOo_un (i : Nat) (d : OD) (ρ : DEnv) : setOo (some .un) i d ρ = some (ρ.set i (.own d)) := rfl
theorem setOo_own (x : OD) (i : Nat) (d : OD) (ρ : DEnv) : setOo (some (.own x)) i d ρ = some (ρ.set i (.own d)) := rfl
def nameO (c : Option Cell) : Option PyData := match c with
  | some (.val d) => some d
  | some (.own (.lst ds)) => some (.list ds)
  | some (.io (.lst ds)) => some (.list ds)
  | _ => none
theorem nameD_eq (i : Nat) (ρ : DEnv) : nameD i ρ = nameO (ρ[i]?) := rfl
theorem nameO_val (d : PyData) : nameO (some (.val d)) = some d := rfl
theorem nameO_own (ds : List PyData) : nameO (some (.own (.lst ds))) = some (.list ds) := rfl
theorem nameO_io (ds : List PyData) : nameO (some (.io (.lst ds))) = some (.list ds) := rfl
def heldO (c : Option Cell) : Option (List PyData) := match c with
  | some (.own (.lst ds)) => some ds
  | some (.io (.lst ds)) => some ds
  | _ => none
theorem heldL_eq (i : Nat) (ρ : DEnv) : heldL i ρ = heldO (ρ[i]?) := rfl
theorem heldO_own (ds : List PyData) : heldO (some (.own (.lst ds))) = some ds := rfl
theorem heldO_io (ds : List PyData) : heldO (some (.io (.lst ds))) = some ds := rfl
theorem isHeld_eq (i : Nat) (ρ : DEnv) : isHeld i ρ = (heldO (ρ[i]?)).isSome := by
  unfold isHeld
  rw [heldL_eq]
  cases heldO (ρ[i]?) <;> rfl
def setHeldO (c : Option Cell) (i : Nat) (o : OD) (ρ : DEnv) : DEnv := match c with
  | some (.own _) => ρ.set i (.own o)
  | some (.io _) => ρ.set i (.io o)
  | _ => ρ
theorem setHeld_eq (i : Nat) (o : OD) (ρ : DEnv) : setHeld i o ρ = setHeldO (ρ[i]?) i o ρ := rfl
theorem setHeldO_own (x : OD) (i : Nat) (o : OD) (ρ : DEnv) : setHeldO (some (.own x)) i o ρ = ρ.set i (.own o) := rfl
theorem setHeldO_io (x : OD) (i : Nat) (o : OD) (ρ : DEnv) : setHeldO (some (.io x)) i o ρ = ρ.set i (.io o) := rfl
def frzO (c : Option Cell) (i : Nat) (ρ : DEnv) : DEnv := match c with
  | some (.own (.lst ds)) => ρ.set i (.val (.list ds))
  | _ => ρ
theorem frzC_eq (i : Nat) (ρ : DEnv) : frzC i ρ = frzO (ρ[i]?) i ρ := rfl
theorem frzO_own (ds : List PyData) (i : Nat) (ρ : DEnv) : frzO (some (.own (.lst ds))) i ρ = ρ.set i (.val (.list ds)) := rfl
theorem frzO_val (d : PyData) (i : Nat) (ρ : DEnv) : frzO (some (.val d)) i ρ = ρ := rfl
theorem frzO_io (o : OD) (i : Nat) (ρ : DEnv) : frzO (some (.io o)) i ρ = ρ := rfl
theorem frzO_un (i : Nat) (ρ : DEnv) : frzO (some .un) i ρ = ρ := rfl
theorem own_own (o : OD) : (Cell.own o).isOwn = true := rfl
theorem own_io (o : OD) : (Cell.io o).isOwn = true := rfl
theorem isLst_some (ds : List PyData) : isLst (some (.list ds)) = true := rfl
theorem oAdd_int (i j : Int) : oAdd (.int i) (.int j) = some (.int (i + j)) := rfl
theorem oAdd_tup (xs ys : List PyData) : oAdd (.tuple xs) (.tuple ys) = if xs.length + ys.length ≤ sizeLine then some (.tuple (xs ++ ys)) else none := rfl
theorem oAdd_lst (xs ys : List PyData) : oAdd (.list xs) (.list ys) = if xs.length + ys.length ≤ sizeLine then some (.list (xs ++ ys)) else none := rfl
theorem oAdd_str (x y : Str) : oAdd (.str x) (.str y) = if x.length + y.length ≤ sizeLine then some (.str (x ++ y)) else none := rfl
theorem oSub_int (i j : Int) : oSub (.int i) (.int j) = some (.int (i - j)) := rfl
theorem oMul_int (i j : Int) : oMul (.int i) (.int j) = if CMul i j then some (.int (i * j)) else none := rfl
theorem oDiv_int (i j : Int) : oDiv (.int i) (.int j) = if 0 < j ∧ j < 1073741824 then some (.int (i / j)) else none := rfl
theorem oMod_int (i j : Int) : oMod (.int i) (.int j) = if 0 < j then some (.int (i % j)) else none := rfl
theorem oPow_int (i j : Int) : oPow (.int i) (.int j) = if 0 ≤ j ∧ j ≤ 1000000 ∧ i.natAbs < 2 ^ 64 then some (.int (i ^ j.toNat)) else none := rfl
theorem oNeg_int (i : Int) : oNeg (.int i) = some (.int (-i)) := rfl
theorem oLt_int (i j : Int) : oLt (.int i) (.int j) = some (.bool (decide (i < j))) := rfl
theorem oLe_int (i j : Int) : oLe (.int i) (.int j) = some (.bool (decide (i ≤ j))) := rfl
theorem oGt_int (i j : Int) : oGt (.int i) (.int j) = some (.bool (decide (j < i))) := rfl
theorem oGe_int (i j : Int) : oGe (.int i) (.int j) = some (.bool (decide (j ≤ i))) := rfl
theorem oIx_lst (ds : List PyData) (k : Int) : oIx (.list ds) (.int k) = atI ds k := rfl
theorem oIx_tup (ds : List PyData) (k : Int) : oIx (.tuple ds) (.int k) = atI ds k := rfl
theorem oInt_int (i : Int) : oInt [.int i] = some (.int i) := rfl
theorem oInt_bool (b : Bool) : oInt [.bool b] = some (.int (if b then 1 else 0)) := rfl
theorem oMax2_int (i j : Int) : oMax2 [.int i, .int j] = some (.int (if j > i then j else i)) := rfl
theorem oMin2_int (i j : Int) : oMin2 [.int i, .int j] = some (.int (if j < i then j else i)) := rfl
theorem oEq_int (i j : Int) : oEq (.int i) (.int j) = some (.bool (i == j)) := by
  unfold oEq
  rw [if_pos ⟨Shp.ok (.int (k := 0) i), Shp.ok (.int (k := 0) j)⟩, eqv_int]
theorem oNe_int (i j : Int) : oNe (.int i) (.int j) = some (.bool (i != j)) := by
  unfold oNe
  rw [if_pos ⟨Shp.ok (.int (k := 0) i), Shp.ok (.int (k := 0) j)⟩, eqv_int]
  rfl
theorem oEq_bool (i j : Bool) : oEq (.bool i) (.bool j) = some (.bool (i == j)) := by
  unfold oEq
  rw [if_pos ⟨Shp.ok (.bool (k := 0) i), Shp.ok (.bool (k := 0) j)⟩, eqv_bool]
theorem oNe_bool (i j : Bool) : oNe (.bool i) (.bool j) = some (.bool (i != j)) := by
  unfold oNe
  rw [if_pos ⟨Shp.ok (.bool (k := 0) i), Shp.ok (.bool (k := 0) j)⟩, eqv_bool]
  rfl
theorem oIsN_none (d : PyData) : oIsN d .none = some (.bool (isNone d)) := rfl
theorem oNotN_none (d : PyData) : oNotN d .none = some (.bool (!isNone d)) := rfl
theorem isNone_none : isNone .none = true := rfl
theorem isNone_int (i : Int) : isNone (.int i) = false := rfl
theorem isNone_tup (ds : List PyData) : isNone (.tuple ds) = false := rfl
theorem isNone_lst (ds : List PyData) : isNone (.list ds) = false := rfl
theorem isNone_str (x : Str) : isNone (.str x) = false := rfl
theorem tru_bool (b : Bool) : tru (.bool b) = some b := rfl
theorem tru_int (i : Int) : tru (.int i) = some (i != 0) := rfl
theorem tru_none : tru .none = some false := rfl
theorem tru_lst (ds : List PyData) : tru (.list ds) = some (!ds.isEmpty) := rfl
theorem tru_tup (ds : List PyData) : tru (.tuple ds) = some (!ds.isEmpty) := rfl
theorem seqOf_lst (ds : List PyData) : seqOf (.list ds) = some (.L, ds) := rfl
theorem seqOf_tup (ds : List PyData) : seqOf (.tuple ds) = some (.T, ds) := rfl
theorem slOf_lst (ds : List PyData) (lo hi : Option Int) : slOf (.list ds) lo hi = some (.list (cutD ds lo hi)) := rfl
theorem slOf_tup (ds : List PyData) (lo hi : Option Int) : slOf (.tuple ds) lo hi = some (.tuple (cutD ds lo hi)) := rfl
theorem rng1_int (j : Int) : rng1 [.int j] = if inR j then some (intsD 0 j.toNat) else none := rfl
theorem rng2_int (i j : Int) : rng2 [.int i, .int j] = if inR i ∧ inR j then some (intsD i (j - i).toNat) else none := rfl
theorem wipeC_nil (ρ : DEnv) : wipeC ρ [] = ρ := rfl
theorem wipeC_cons (ρ : DEnv) (v : Nat) (vs : List Nat) : wipeC ρ (v :: vs) = (wipeC ρ vs).set v .un := rfl
theorem backIO_nil (ρ : DEnv) : backIO [] ρ = [] := by cases ρ <;> rfl
theorem backIO_io' (o : OD) (cs : DEnv) (c : Cell) (ρ : DEnv) : backIO (.io o :: cs) (c :: ρ) = c :: backIO cs ρ := rfl
theorem backIO_val (d : PyData) (cs : DEnv) (c : Cell) (ρ : DEnv) : backIO (.val d :: cs) (c :: ρ) = .val d :: backIO cs ρ := rfl
theorem ixN_lit {n : Nat} {k : Int} (h0 : 0 ≤ k) (h1 : k < n) : ixN n k = some k.toNat := by unfold ixN; rw [if_pos h0, if_pos h1]
theorem atI_lit {α : Type} {l : List α} {k : Int} {x : α} (h0 : 0 ≤ k) (h : l[k.toNat]? = some x) : atI l k = some x := by
  unfold atI
  rw [ixN_lit h0 (by have := (List.getElem?_eq_some_iff.mp h).1; omega)]
  exact h
theorem atI_0 {α : Type} (a : α) (r : List α) : atI (a :: r) 0 = some a := atI_lit (by decide) rfl
theorem ixN_0 {α : Type} (a : α) (r : List α) : ixN (a :: r).length 0 = some 0 := ixN_lit (by decide) (by simp only [List.length_cons]; omega)
theorem atI_1 {α : Type} (a b : α) (r : List α) : atI (a :: b :: r) 1 = some b := atI_lit (by decide) rfl
theorem ixN_1 {α : Type} (a b : α) (r : List α) : ixN (a :: b :: r).length 1 = some 1 := ixN_lit (by decide) (by simp only [List.length_cons]; omega)
theorem atI_2 {α : Type} (a b c : α) (r : List α) : atI (a :: b :: c :: r) 2 = some c := atI_lit (by decide) rfl
theorem ixN_2 {α : Type} (a b c : α) (r : List α) : ixN (a :: b :: c :: r).length 2 = some 2 := ixN_lit (by decide) (by simp only [List.length_cons]; omega)
theorem atI_3 {α : Type} (a b c d : α) (r : List α) : atI (a :: b :: c :: d :: r) 3 = some d := atI_lit (by decide) rfl
theorem ixN_3 {α : Type} (a b c d : α) (r : List α) : ixN (a :: b :: c :: d :: r).length 3 = some 3 := ixN_lit (by decide) (by simp only [List.length_cons]; omega)
theorem atI_4 {α : Type} (a b c d e : α) (r : List α) : atI (a :: b :: c :: d :: e :: r) 4 = some e := atI_lit (by decide) rfl
theorem ixN_4 {α : Type} (a b c d e : α) (r : List α) : ixN (a :: b :: c :: d :: e :: r).length 4 = some 4 := ixN_lit (by decide) (by simp only [List.length_cons]; omega)
theorem atI_5 {α : Type} (a b c d e f : α) (r : List α) : atI (a :: b :: c :: d :: e :: f :: r) 5 = some f := atI_lit (by decide) rfl
theorem ixN_5 {α : Type} (a b c d e f : α) (r : List α) : ixN (a :: b :: c :: d :: e :: f :: r).length 5 = some 5 := ixN_lit (by decide) (by simp only [List.length_cons]; omega)
theorem atI_6 {α : Type} (a b c d e f g : α) (r : List α) : atI (a :: b :: c :: d :: e :: f :: g :: r) 6 = some g := atI_lit (by decide) rfl
theorem ixN_6 {α : Type} (a b c d e f g : α) (r : List α) : ixN (a :: b :: c :: d :: e :: f :: g :: r).length 6 = some 6 := ixN_lit (by decide) (by simp only [List.length_cons]; omega)
theorem atI_7 {α : Type} (a b c d e f g h : α) (r : List α) : atI (a :: b :: c :: d :: e :: f :: g :: h :: r) 7 = some h := atI_lit (by decide) rfl
theorem ixN_7 {α : Type} (a b c d e f g h : α) (r : List α) : ixN (a :: b :: c :: d :: e :: f :: g :: h :: r).length 7 = some 7 := ixN_lit (by decide) (by simp only [List.length_cons]; omega)
theorem len_0 {α : Type} : (([] : List α).length ≤ sizeLine) = True := eq_true (by show 0 ≤ sizeLine; decide)
theorem len_1 {α : Type} (a : α) : (([a] : List α).length ≤ sizeLine) = True := eq_true (by show 1 ≤ sizeLine; decide)
theorem len_2 {α : Type} (a b : α) : (([a, b] : List α).length ≤ sizeLine) = True := eq_true (by show 2 ≤ sizeLine; decide)
theorem len_3 {α : Type} (a b c : α) : (([a, b, c] : List α).length ≤ sizeLine) = True := eq_true (by show 3 ≤ sizeLine; decide)
theorem len_4 {α : Type} (a b c d : α) : (([a, b, c, d] : List α).length ≤ sizeLine) = True := eq_true (by show 4 ≤ sizeLine; decide)
theorem len_5 {α : Type} (a b c d e : α) : (([a, b, c, d, e] : List α).length ≤ sizeLine) = True := eq_true (by show 5 ≤ sizeLine; decide)
theorem len_6 {α : Type} (a b c d e f : α) : (([a, b, c, d, e, f] : List α).length ≤ sizeLine) = True := eq_true (by show 6 ≤ sizeLine; decide)
theorem len_7 {α : Type} (a b c d e f g : α) : (([a, b, c, d, e, f, g] : List α).length ≤ sizeLine) = True := eq_true (by show 7 ≤ sizeLine; decide)
theorem len_8 {α : Type} (a b c d e f g h : α) : (([a, b, c, d, e, f, g, h] : List α).length ≤ sizeLine) = True := eq_true (by show 8 ≤ sizeLine; decide)
end DL
set_option Elab.async false
set_option linter.all false
set_option maxRecDepth 100000
set_option maxHeartbeats 4000000
namespace DL
open PySem PySem.Spec PyProof.Rows L2
variable [Td]
/-- a turn's end: the next turn's J, or what is wanted behind the loop -/
def loopQ (J : DEnv → Prop) (S : Out → DEnv → Prop) (o : Out) (ρ : DEnv) : Prop := match o with
  | .nx => J ρ
  | .ct => J ρ
  | .bk => S .nx ρ
  | .rt d => S (.rt d) ρ
theorem loopQ_nx (J : DEnv → Prop) (S : Out → DEnv → Prop) (ρ : DEnv) : loopQ J S .nx ρ = J ρ := rfl
theorem loopQ_ct (J : DEnv → Prop) (S : Out → DEnv → Prop) (ρ : DEnv) : loopQ J S .ct ρ = J ρ := rfl
theorem loopQ_bk (J : DEnv → Prop) (S : Out → DEnv → Prop) (ρ : DEnv) : loopQ J S .bk ρ = S .nx ρ := rfl
theorem loopQ_rt (J : DEnv → Prop) (S : Out → DEnv → Prop) (d : PyData) (ρ : DEnv) : loopQ J S (.rt d) ρ = S (.rt d) ρ := rfl
theorem wp_forL_from {Z : Exn → DEnv → Prop} {gd : PyData → DEnv → Option DEnv} {fb : DEnv → Res Out} {S : Out → DEnv → Prop} (I : Nat → DEnv → Prop) : ∀ (ds : List PyData) (n : Nat) (ρ : DEnv), I n ρ →
    (∀ (i : Nat) (d : PyData) (ρ : DEnv), ds[i]? = some d → I (n + i) ρ → ∃ ρ1, gd d ρ = some ρ1 ∧ WpX Z (fb ρ1) (loopQ (I (n + i + 1)) S)) → (∀ ρ', I (n + ds.length) ρ' → S .nx ρ') → WpX Z (forL gd fb ds ρ) S
  | [], n, ρ, h, _, fin => .ok rfl (fin ρ h)
  | d :: ds, n, ρ, h, st, fin => by
    obtain ⟨ρ1, h1, h2⟩ := st 0 d ρ rfl h
    cases e : fb ρ1 with
    | bad => rw [e] at h2; exact h2.out.elim
    | err x ρ2 =>
      rw [e] at h2
      have e2 : forL gd fb (d :: ds) ρ = .err x ρ2 := by rw [forL, h1]; simp only [e]
      rw [e2]; exact ⟨h2.out⟩
    | ok o ρ2 =>
    rw [e] at h2
    have q : loopQ (I (n + 0 + 1)) S o ρ2 := h2.out
    have next : I (n + 1) ρ2 → WpX Z (forL gd fb ds ρ2) S := fun q => wp_forL_from I ds (n + 1) ρ2 q (fun i e τ hi hτ => by
        have := st (i + 1) e τ (by simpa using hi) (by rw [show n + (i + 1) = n + 1 + i by omega]; exact hτ)
        rw [show n + (i + 1) + 1 = n + 1 + i + 1 by omega] at this
        exact this) fun ρ' hq => fin ρ' (by rw [List.length_cons, show n + (ds.length + 1) = n + 1 + ds.length by omega]; exact hq)
    cases o with
    | nx =>
      have e2 : forL gd fb (d :: ds) ρ = forL gd fb ds ρ2 := by rw [forL, h1]; simp only [e]
      rw [e2]; exact next q
    | ct =>
      have e2 : forL gd fb (d :: ds) ρ = forL gd fb ds ρ2 := by rw [forL, h1]; simp only [e]
      rw [e2]; exact next q
    | bk => exact .ok (a := .nx) (ρ := ρ2) (by rw [forL, h1]; simp only [e]) q
    | rt v => exact .ok (a := .rt v) (ρ := ρ2) (by rw [forL, h1]; simp only [e]) q
/-- a loop by an invariant of the turn's number and the cells -/
theorem wp_forL {Z : Exn → DEnv → Prop} {gd : PyData → DEnv → Option DEnv} {fb : DEnv → Res Out} {S : Out → DEnv → Prop} {ds : List PyData} {ρ : DEnv} (I : Nat → DEnv → Prop) (h0 : I 0 ρ)
    (st : ∀ (i : Nat) (d : PyData) (ρ : DEnv), ds[i]? = some d → I i ρ → ∃ ρ1, gd d ρ = some ρ1 ∧ WpX Z (fb ρ1) (loopQ (I (i + 1)) S)) (fin : ∀ ρ', I ds.length ρ' → S .nx ρ') : WpX Z (forL gd fb ds ρ) S :=
  wp_forL_from I ds 0 ρ h0 (fun i d ρ hi h => by
    have := st i d ρ hi (by rw [Nat.zero_add] at h; exact h)
    rw [Nat.zero_add]
    exact this) fun ρ' h => fin ρ' (by rw [Nat.zero_add] at h; exact h)
theorem wp_lcL_from {vs : List Nat} {gd : PyData → DEnv → Option DEnv} {ft : DEnv → Res Bool} {fe : DEnv → Res PyData} {L : List PyData → DEnv → Prop} (I : Nat → List PyData → DEnv → Prop) : ∀ (ds : List PyData) (n : Nat) (acc : List PyData) (ρ : DEnv), I n acc ρ → acc.length + ds.length ≤ sizeLine →
    (∀ (i : Nat) (d : PyData) (acc : List PyData) (ρ : DEnv), ds[i]? = some d → I (n + i) acc ρ → ∃ ρ1, gd d ρ = some ρ1 ∧ WpX Zn (ft ρ1) fun b ρ2 => if b = true then WpX Zn (fe ρ2) fun y ρ3 => I (n + i + 1) (acc ++ [y]) (wipeC ρ3 vs) else I (n + i + 1) acc (wipeC ρ2 vs)) →
    (∀ acc ρ', I (n + ds.length) acc ρ' → L acc ρ') → WpX Zn (lcL vs gd ft fe ds acc ρ) L
  | [], n, acc, ρ, h, _, _, fin => .ok rfl (fin acc ρ h)
  | d :: ds, n, acc, ρ, h, hl, st, fin => by
    rw [List.length_cons] at hl
    obtain ⟨ρ1, h1, h2⟩ := st 0 d acc ρ rfl h
    obtain ⟨b, ρ2, e, q⟩ := h2.get
    have next : ∀ acc' ρ', I (n + 1) acc' ρ' → acc'.length + ds.length ≤ sizeLine → WpX Zn (lcL vs gd ft fe ds acc' ρ') L := fun acc' ρ' q hl => wp_lcL_from I ds (n + 1) acc' ρ' q hl (fun i e a τ hi hτ => by
        have := st (i + 1) e a τ (by simpa using hi) (by rw [show n + (i + 1) = n + 1 + i by omega]; exact hτ)
        rw [show n + (i + 1) + 1 = n + 1 + i + 1 by omega] at this
        exact this) fun a ρ' hq => fin a ρ' (by rw [List.length_cons, show n + (ds.length + 1) = n + 1 + ds.length by omega]; exact hq)
    cases b with
    | false =>
      rw [if_neg Bool.false_ne_true] at q
      have e2 : lcL vs gd ft fe (d :: ds) acc ρ = lcL vs gd ft fe ds acc (wipeC ρ2 vs) := by rw [lcL, h1]; simp only [e]
      rw [e2]; exact next _ _ q (by omega)
    | true =>
      rw [if_pos rfl] at q
      obtain ⟨y, ρ3, e3, q⟩ := q.get
      have e2 : lcL vs gd ft fe (d :: ds) acc ρ = lcL vs gd ft fe ds (acc ++ [y]) (wipeC ρ3 vs) := by
        rw [lcL, h1]; simp only [e, e3]; rw [if_pos (by omega)]
      rw [e2]; exact next _ _ q (by rw [List.length_append, List.length_singleton]; omega)
/-- a comprehension by an invariant of the turn's number, what is made and the cells -/
theorem wp_lcL {vs : List Nat} {gd : PyData → DEnv → Option DEnv} {ft : DEnv → Res Bool} {fe : DEnv → Res PyData} {L : List PyData → DEnv → Prop} {ds : List PyData} {ρ : DEnv} (I : Nat → List PyData → DEnv → Prop) (h0 : I 0 [] ρ) (hl : ds.length ≤ sizeLine)
    (st : ∀ (i : Nat) (d : PyData) (acc : List PyData) (ρ : DEnv), ds[i]? = some d → I i acc ρ → ∃ ρ1, gd d ρ = some ρ1 ∧ WpX Zn (ft ρ1) fun b ρ2 => if b = true then WpX Zn (fe ρ2) fun y ρ3 => I (i + 1) (acc ++ [y]) (wipeC ρ3 vs) else I (i + 1) acc (wipeC ρ2 vs))
    (fin : ∀ acc ρ', I ds.length acc ρ' → L acc ρ') : WpX Zn (lcL vs gd ft fe ds [] ρ) L :=
  wp_lcL_from I ds 0 [] ρ h0 (by rw [List.length_nil]; omega) (fun i d a ρ hi h => by
    have := st i d a ρ hi (by rw [Nat.zero_add] at h; exact h)
    rw [Nat.zero_add]
    exact this) fun a ρ' h => fin a ρ' (by rw [Nat.zero_add] at h; exact h)
theorem wp_tTrue {Z : Exn → DEnv → Prop} (ρ : DEnv) (T : Bool → DEnv → Prop) : WpX Z (tTrue ρ) T = T true ρ := by
  rw [wpq]; rfl
/-- a comprehension that leaves the cells as they are -/
theorem wp_lcMap {vs : List Nat} {gd : PyData → DEnv → Option DEnv} {fe : DEnv → Res PyData} {L : List PyData → DEnv → Prop} {ds : List PyData} {ρ : DEnv} (f : PyData → PyData) (hl : ds.length ≤ sizeLine)
    (st : ∀ d ∈ ds, ∃ ρ1, gd d ρ = some ρ1 ∧ WpX Zn (fe ρ1) fun y ρ3 => y = f d ∧ wipeC ρ3 vs = ρ) (fin : L (ds.map f) ρ) : WpX Zn (lcL vs gd tTrue fe ds [] ρ) L := by
  refine wp_lcL (fun i acc ρ' => ρ' = ρ ∧ acc = (ds.take i).map f) ⟨rfl, rfl⟩ hl (fun i d acc ρ' hd h => ?_) fun acc ρ' h => ?_
  · obtain ⟨rfl, rfl⟩ := h
    obtain ⟨ρ1, h1, h2⟩ := st d (List.mem_of_getElem? hd)
    refine ⟨ρ1, h1, ?_⟩
    rw [wp_tTrue, if_pos rfl]
    refine h2.mono fun y ρ3 ⟨e1, e2⟩ => ⟨e2, ?_⟩
    rw [e1, List.take_add_one, hd, List.map_append]
    rfl
  · obtain ⟨rfl, rfl⟩ := h
    rw [List.take_length]
    exact fin
/-- the numbers below n -/
def nI (n : Nat) : PyData := .int (n : Nat)
theorem inR_nat {n : Nat} (h : n ≤ 1000000) : inR (n : Nat) := ⟨by omega, by omega⟩
theorem small_line {n : Nat} (h : n ≤ 1000000) : n ≤ sizeLine := by show n ≤ 2 ^ 24; omega
theorem small_line' {n : Nat} (h : n ≤ 1000000) : n < sizeLine := by show n < 2 ^ 24; omega
/-- a slot that may be stored to -/
def Loose (c : Cell) : Prop := c = .un ∨ ∃ d, c = .val d
theorem Loose.un : Loose .un := .inl rfl
theorem Loose.val (d : PyData) : Loose (.val d) := .inr ⟨d, rfl⟩
theorem setV_fr {ρ : DEnv} {i : Nat} {c : Cell} (h : ρ[i]? = some c) (f : Loose c) (d : PyData) : setV i d ρ = some (ρ.set i (.val d)) := by
  rw [setV_eq, h]
  rcases f with rfl | ⟨e, rfl⟩ <;> rfl
theorem unwipe_one (v : Nat) (ρ ρ' : DEnv) : unwipe [v] ρ ρ' = ρ'.set v (ρ[v]?.getD .un) := by
  apply List.ext_getElem?
  intro i
  unfold unwipe
  rw [List.getElem?_mapIdx]
  by_cases h : v = i
  · subst h
    by_cases hl : v < ρ'.length
    · rw [List.getElem?_set_self hl, List.getElem?_eq_getElem hl]
      show some (if v ∈ [v] then _ else _) = _
      rw [if_pos (List.mem_singleton.mpr rfl)]
    · have e1 : ρ'[v]? = none := List.getElem?_eq_none (by omega)
      have e2 : (ρ'.set v (ρ[v]?.getD .un))[v]? = none := List.getElem?_eq_none (by rw [List.length_set]; omega)
      rw [e1, e2]
      rfl
  · rw [List.getElem?_set_ne h]
    cases ρ'[i]? with
    | none => rfl
    | some c =>
      show some (if i ∈ [v] then _ else c) = _
      rw [if_neg fun z => h (List.mem_singleton.mp z).symm]
theorem setVo_loose {c : Cell} (f : Loose c) (i : Nat) (d : PyData) (ρ : DEnv) : setVo (some c) i d ρ = some (ρ.set i (.val d)) := by
  rcases f with rfl | ⟨e, rfl⟩ <;> rfl
theorem isi_int_int (i : Int) : oIsi "int" (.int i) = some (.bool true) := rfl
theorem isi_bool_int (i : Int) : oIsi "bool" (.int i) = some (.bool false) := by
  show (kitB "int" "bool").map PyData.bool = _
  rw [show kitB "int" "bool" = some false by decide +kernel]
  rfl
theorem isi_bool_bool (i : Bool) : oIsi "bool" (.bool i) = some (.bool true) := rfl
theorem isi_int_bool (i : Bool) : oIsi "int" (.bool i) = some (.bool true) := by
  show (kitB "bool" "int").map PyData.bool = _
  rw [show kitB "bool" "int" = some true by decide +kernel]
  rfl
end DL
set_option Elab.async false
set_option linter.all false
set_option maxRecDepth 100000
set_option maxHeartbeats 4000000
namespace DL
open PySem PySem.Spec PyProof.Rows L2
variable [Td]
section
variable {κ : Type} [DecidableEq κ]
def valD (kvs : List (κ × PyData)) (k : κ) : Option PyData := (kvs.find? fun kv => decide (kv.1 = k)).map (·.2)
def putD (kvs : List (κ × PyData)) (k : κ) (d : PyData) : List (κ × PyData) := if (kvs.any fun kv => decide (kv.1 = k)) = true then kvs.map (fun kv => if kv.1 = k then (kv.1, d) else kv) else kvs ++ [(k, d)]
def mergeD (kvs more : List (κ × PyData)) : List (κ × PyData) := more.foldl (fun acc kv => putD acc kv.1 kv.2) kvs
variable {K : PySem.W.Frag} {G : Hp}
theorem kv_len : ∀ {vs : List (κ × V)} {kvs : List (κ × PyData)}, KvAll K G vs kvs → vs.length = kvs.length
  | _, _, .nil => rfl
  | _, _, .cons _ t => congrArg (· + 1) (kv_len t)
theorem kv_get {k : κ} {d : PyData} : ∀ {vs : List (κ × V)} {kvs : List (κ × PyData)}, KvAll K G vs kvs → valD kvs k = some d → ∃ v, valV vs k = some v ∧ Rp K G v d
  | _, _, .nil, h => by cases h
  | (k1, v1) :: vs, (k2, d2) :: kvs, .cons h t, e => by
    obtain ⟨h1, h2⟩ := h
    cases h1
    by_cases hk : k1 = k
    · subst hk
      have : valD ((k1, d2) :: kvs) k1 = some d2 := by unfold valD; rw [List.find?_cons_of_pos (by simp)]; rfl
      rw [this] at e
      cases e
      exact ⟨v1, valV_pos (p := (k1, v1)) rfl, h2⟩
    · have : valD ((k1, d2) :: kvs) k = valD kvs k := by unfold valD; rw [List.find?_cons_of_neg (by simpa using hk)]
      rw [this] at e
      obtain ⟨v, a, b⟩ := kv_get t e
      exact ⟨v, by rw [valV_neg (p := (k1, v1)) hk]; exact a, b⟩
theorem kv_any {k : κ} : ∀ {vs : List (κ × V)} {kvs : List (κ × PyData)}, KvAll K G vs kvs → (vs.any fun kv => decide (kv.1 = k)) = (kvs.any fun kv => decide (kv.1 = k))
  | _, _, .nil => rfl
  | (k1, v1) :: vs, (k2, d2) :: kvs, .cons h t => by
    obtain ⟨h1, _⟩ := h
    cases h1
    rw [List.any_cons, List.any_cons, kv_any t]
theorem kv_map {k : κ} {v : V} {d : PyData} (hd : Rp K G v d) : ∀ {vs : List (κ × V)} {kvs : List (κ × PyData)}, KvAll K G vs kvs → KvAll K G (vs.map fun kv => if kv.1 = k then (kv.1, v) else kv) (kvs.map fun kv => if kv.1 = k then (kv.1, d) else kv)
  | _, _, .nil => .nil
  | (k1, v1) :: vs, (k2, d2) :: kvs, .cons h t => by
    obtain ⟨h1, h2⟩ := h
    cases h1
    rw [List.map_cons, List.map_cons]
    refine .cons ?_ (kv_map hd t)
    show (if k1 = k then (k1, v) else (k1, v1)).1 = (if k1 = k then (k1, d) else (k1, d2)).1 ∧ Rp K G (if k1 = k then (k1, v) else (k1, v1)).2 (if k1 = k then (k1, d) else (k1, d2)).2
    by_cases hk : k1 = k
    · rw [if_pos hk, if_pos hk]; exact ⟨rfl, hd⟩
    · rw [if_neg hk, if_neg hk]; exact ⟨rfl, h2⟩
theorem kv_snoc {k : κ} {v : V} {d : PyData} (hd : Rp K G v d) : ∀ {vs : List (κ × V)} {kvs : List (κ × PyData)}, KvAll K G vs kvs → KvAll K G (vs ++ [(k, v)]) (kvs ++ [(k, d)])
  | _, _, .nil => .cons ⟨rfl, hd⟩ .nil
  | _ :: _, _ :: _, .cons h t => .cons h (kv_snoc hd t)
theorem kv_put {k : κ} {v : V} {d : PyData} (hd : Rp K G v d) {vs : List (κ × V)} {kvs : List (κ × PyData)} (h : KvAll K G vs kvs) : KvAll K G (putK vs k v) (putD kvs k d) := by
  unfold putK putD
  rw [kv_any h]
  by_cases hc : (kvs.any fun kv => decide (kv.1 = k)) = true
  · rw [if_pos hc, if_pos hc]; exact kv_map hd h
  · rw [if_neg hc, if_neg hc]; exact kv_snoc hd h
end
theorem kv_merge {K : PySem.W.Frag} {G : Hp} : ∀ {more : List (Key × V)} {moreD : List (Key × PyData)} {vs : List (Key × V)} {kvs : List (Key × PyData)}, KvAll K G vs kvs → KvAll K G more moreD → KvAll K G (mergeK vs more) (mergeD kvs moreD)
  | _, _, _, _, h, .nil => h
  | (k1, v1) :: more, (k2, d2) :: moreD, vs, kvs, h, .cons q t => by
    obtain ⟨h1, h2⟩ := q
    cases h1
    exact kv_merge (more := more) (moreD := moreD) (kv_put h2 h) t
def hobj (i : Nat) (ρ : DEnv) : Option OD := match ρ[i]? with
  | some (.own o) => some o
  | some (.io o) => some o
  | _ => none
theorem Rel.hobjAny {K : PySem.W.Frag} {G H : Hp} {σ : St} {ρ : DEnv} {i : Nat} {o : OD} (R : Rel K G σ H ρ) (h : hobj i ρ = some o) : ∃ p, σ[i]? = some (some (.ref p)) ∧ G p = none ∧ OwnAt K G H p o ∧
    ∀ (o' : OD) (u : HO), OwnAt K G (upd H p u) p o' → Rel K G σ (upd H p u) (setHeld i o' ρ) ∧ Stp G H σ ρ G (upd H p u) σ (setHeld i o' ρ) := by
  unfold hobj at h
  cases q : ρ[i]? with
  | none => rw [q] at h; cases h
  | some cl =>
    rw [q] at h
    obtain ⟨v0, e0, q0⟩ := R.cell i cl q
    cases cl with
    | fn _ _ => cases h
    | nd _ => cases h
    | un => cases h
    | val _ => cases h
    | own o => cases h; obtain ⟨b, rfl, g, h1⟩ := q0; exact ⟨b, e0, g, h1, fun o' u hn => by unfold setHeld; rw [q]; exact R.heldObj (mk := .own) (.inr rfl) q e0 g h1.ex hn⟩
    | io o => cases h; obtain ⟨b, rfl, g, h1⟩ := q0; exact ⟨b, e0, g, h1, fun o' u hn => by unfold setHeld; rw [q]; exact R.heldObj (mk := .io) (.inl rfl) q e0 g h1.ex hn⟩
def keyD : PyData → Option Key
  | .int i => some (.inl i)
  | .str x => some (.inr x)
  | _ => none
def keysD : List PyData → Option (List Key)
  | [] => some []
  | d :: ds => match keyD d, keysD ds with
    | some k, some ks => some (k :: ks)
    | _, _ => none
theorem keyD_kV {K : PySem.W.Frag} {G : Hp} {v : V} {d : PyData} {k : Key} (h : Rp K G v d) (e : keyD d = some k) : v = kV k := by
  cases h <;> cases e <;> rfl
/-- b[k] -/
def dDGet (i : Nat) (f : DEnv → Res PyData) : DEnv → Res PyData := fun ρ => if (ρ[i]?.getD .un).isOwn = true then (f ρ).bind fun k ρ1 => match hobj i ρ1 with
  | some (.dk kvs) => Res.of ((keyD k).bind fun k => valD kvs k) ρ1
  | _ => .bad else .bad
/-- b[(k, ..)] -/
def dDGetT (i : Nat) (f : DEnv → Res (List PyData)) : DEnv → Res PyData := fun ρ => if (ρ[i]?.getD .un).isOwn = true then (f ρ).bind fun ds ρ1 => if ds.length ≤ sizeLine then match hobj i ρ1 with
  | some (.dt kvs) => Res.of ((keysD ds).bind fun k => valD kvs k) ρ1
  | _ => .bad else .bad else .bad
/-- b[k] = e -/
def sDPutD (i : Nat) (f g : DEnv → Res PyData) : DEnv → Res Out := fun ρ => (f ρ).bind fun d ρ1 => if (ρ1[i]?.getD .un).isOwn = true then (g ρ1).bind fun k ρ2 => match hobj i ρ2, keyD k with
  | some (.dk kvs), some k => if kvs.length < sizeLine then .ok .nx (setHeld i (.dk (putD kvs k d)) ρ2) else .bad
  | _, _ => .bad else .bad
def sDPutT (i : Nat) (f : DEnv → Res PyData) (g : DEnv → Res (List PyData)) : DEnv → Res Out := fun ρ => (f ρ).bind fun d ρ1 => if (ρ1[i]?.getD .un).isOwn = true then (g ρ1).bind fun ds ρ2 => if ds.length ≤ sizeLine then match hobj i ρ2, keysD ds with
  | some (.dt kvs), some k => if kvs.length < sizeLine then .ok .nx (setHeld i (.dt (putD kvs k d)) ρ2) else .bad
  | _, _ => .bad else .bad else .bad
section
variable {X : Cx} {E : WX} {a b : Expr} {es : List Expr} {fa fb : DEnv → Res PyData} {fs : DEnv → Res (List PyData)} {pos p px sp : Pos} {x : Str}
theorem e_dget (i : Nat) (hu : X.A.units + 1 < cLine) (hx : PE X (.Name x px) (tVar i)) (ha : EJ X E a fa) (hs : NoSl a) : EJ X E (.Subscript (.Name x px) a pos) (dDGet i fa) := by
  obtain ⟨t, q, p⟩ := ha
  refine ⟨_, pe_dget hu hx q hs, fun σ G H ρ Q R h => ?_⟩
  unfold dDGet at h
  by_cases hc : (ρ[i]?.getD .un).isOwn = true
  case neg => rw [if_neg hc] at h; exact h.elim
  rw [if_pos hc] at h
  obtain ⟨b, e0⟩ := R.heldV hc
  refine ⟨.ref b, e0, p σ G H ρ _ R (Post.bind h fun G1 H1 y d ρ1 R1 S1 hy h1 => ?_)⟩
  cases q0 : hobj i ρ1 with
  | none => rw [q0] at h1; exact h1.elim
  | some o =>
    rw [q0] at h1
    obtain ⟨b1, f0, g1, o1, _⟩ := R1.hobjAny q0
    rw [e0] at f0
    cases f0
    cases o with
    | dk kvs =>
      obtain ⟨vs, u1, u2⟩ := o1
      cases q1 : keyD d with
      | none => simp only [q1] at h1; exact h1.elim
      | some k =>
        cases q2 : valD kvs k with
        | none => simp only [q1, Option.bind_some, q2] at h1; exact h1.elim
        | some c =>
          simp only [q1, Option.bind_some, q2] at h1
          obtain ⟨v, w1, w2⟩ := kv_get u2 q2
          exact ⟨b, v, rfl, .inl ⟨vs, k, .inl u1, keyD_kV hy q1, w1.symm⟩, Post.done R1 h1 w2⟩
    | _ => exact h1.elim
theorem s_dput (i : Nat) (hu : X.A.units + 1 < cLine) (hx : PE X (.Name x px) (tVar i)) (ha : EJ X E a fa) (hb : EJ X E b fb) (hs : swapsWith a (some (.Subscript (.Name x px) b sp)) pos.line X.env = pure false := by rfl) : SJ X E (.Assign [.Subscript (.Name x px) b sp] a pos) (sDPutD i fa fb) := by
  obtain ⟨t, q, p⟩ := ha
  obtain ⟨tb, qb, pb⟩ := hb
  refine ⟨_, ps_dput hu hx qb q hs, fun σ G H ρ D R h => p σ G H ρ _ R (SPost.bind h fun G1 H1 y d ρ1 R1 S1 hy h1 => ?_)⟩
  by_cases hc : (ρ1[i]?.getD .un).isOwn = true
  case neg => rw [if_neg hc] at h1; exact h1.elim
  rw [if_pos hc] at h1
  obtain ⟨b, e0⟩ := R1.heldV hc
  refine ⟨.ref b, e0, pb σ G1 H1 ρ1 _ R1 (SPost.bind h1 fun G2 H2 z k ρ2 R2 S2 hz h2 => ?_)⟩
  cases q0 : hobj i ρ2 with
  | none => rw [q0] at h2; exact h2.elim
  | some o =>
    rw [q0] at h2
    obtain ⟨b1, f0, g1, o1, f3⟩ := R2.hobjAny q0
    rw [e0] at f0
    cases f0
    cases o with
    | dk kvs =>
      obtain ⟨vs, u1, u2⟩ := o1
      cases q1 : keyD k with
      | none => simp only [q1] at h2; exact h2.elim
      | some kk =>
        simp only [q1] at h2
        by_cases hz2 : kvs.length < sizeLine
        case neg => rw [if_neg hz2] at h2; exact h2.elim
        rw [if_pos hz2] at h2
        have hl := kv_len u2
        obtain ⟨R3, S3⟩ := f3 (.dk (putD kvs kk d)) (.dK (putK vs kk y)) ⟨_, upd_same, kv_put (Rp.mono S2.same hy) u2⟩
        exact ⟨b, _, rfl, .inl ⟨vs, kk, u1, keyD_kV hz q1, by omega, rfl⟩, h2 _ _ _ R3 S3⟩
    | _ => exact h2.elim
def fNewT : DEnv → Res OD := fun ρ => .ok (.dt []) ρ
def fNewK : DEnv → Res OD := fun ρ => .ok (.dk []) ρ
/-- a display's pairs, its keys texts -/
structure DispJ (X : Cx) (E : WX) (pos : Pos) (keys : List (Option Expr)) (es : List Expr) (ks : List Key) (f : DEnv → Res (List PyData)) : Prop where
  len : keys.length = es.length ∧ keys.all (·.isSome) = true ∧ keys.length = ks.length
  ex : ∃ trs, PPs X pos keys es trs ∧ ∀ (σ : St) (G H : Hp) (ρ : DEnv) (Q : List (V × V) → Hp → Prop), Rel X.K G σ H ρ →
    Post X.K X.mg E (fun G' ps ds => ∃ kvs : List (Key × V), ps = kvs.map (fun kv => (kV kv.1, kv.2)) ∧ KvAll X.K G' kvs (ks.zip ds) ∧ kvs.length = ks.length) σ G H ρ Q (f ρ) → tPairs trs σ H Q
theorem dp_nil : DispJ X E pos [] [] [] dNil := ⟨⟨rfl, rfl, rfl⟩, [], pps_nil, fun σ G H ρ Q R h => Post.done R h ⟨[], rfl, .nil, rfl⟩⟩
theorem dp_cons {keys : List (Option Expr)} {ks : List Key} {j : Nat} {kp : Pos} (ha : EJ X E a fa) (hr : DispJ X E pos keys es ks fs) : DispJ X E pos (some (.Constant (.str x) j kp) :: keys) (a :: es) (.inr x :: ks) (dCons fa fs) := by
  obtain ⟨ta, qa, pa⟩ := ha
  obtain ⟨⟨l1, l2, l3⟩, trs, q, p⟩ := hr
  refine ⟨⟨congrArg (· + 1) l1, l2, congrArg (· + 1) l3⟩, (tC (.str x), ta) :: trs, pps_cons pe_str qa q, fun σ G H ρ Q R h => ?_⟩
  show ta σ H fun y H1 => tPairs trs σ H1 fun ps H2 => Q ((.str x, y) :: ps) H2
  refine pa σ G H ρ _ R (Post.bind h fun G1 H1 y d ρ1 R1 S1 hy h1 => p σ G1 H1 ρ1 _ R1 (Post.bind h1 fun G2 H2 ps ds ρ2 R2 S2 hps h2 => ?_))
  obtain ⟨kvs, e1, e2, e3⟩ := hps
  exact Post.done R2 h2 ⟨(.inr x, y) :: kvs, by rw [e1]; rfl, .cons ⟨rfl, Rp.mono S2.same hy⟩ e2, congrArg (· + 1) e3⟩
def fDisp (ks : List Key) (f : DEnv → Res (List PyData)) : DEnv → Res OD := fun ρ => (f ρ).bind fun ds ρ1 => .ok (.dk (mergeD [] (ks.zip ds))) ρ1
theorem f_disp {keys : List (Option Expr)} {ks : List Key} (h : DispJ X E pos keys es ks fs) (h0 : keys ≠ []) (h15 : keys.length ≤ 15) : FJ X E (.Dict keys es pos) (fDisp ks fs) := by
  obtain ⟨⟨l1, l2, l3⟩, trs, q, p⟩ := h
  refine ⟨_, pe_disp q l2 l1 h0 h15, fun σ G H ρ Q R h => fun r hr => ?_⟩
  have n1 : ¬ OwnL σ ρ r := fun z => by obtain ⟨w, e⟩ := R.ownH z; rw [hr] at e; cases e
  have n2 : ¬ OwnI σ ρ r := fun z => by obtain ⟨w, e⟩ := R.ownHI z; rw [hr] at e; cases e
  have R0 := R.beside (R.noneG hr) n1 n2 (.dK [])
  refine p σ G _ ρ _ R0 ?_
  unfold fDisp at h
  have eH : DL.era r (upd H r (.dK [])) = H := by
    rw [era_upd]
    funext b
    by_cases hb : b = r
    · subst hb; rw [era_same, hr]
    · rw [era_ne hb]
  have back : ∀ {G1 H1 : Hp} {ρ1 : DEnv}, Stp G (upd H r (.dK [])) σ ρ G1 H1 σ ρ1 → Stp G H σ ρ G1 H1 σ ρ1 := fun S => by
    have := S.era r
    rw [eH] at this
    exact this.unera
  cases z : fs ρ with
  | bad => rw [z] at h; exact h
  | err x c => rw [z] at h; exact fun G1 H1 cc od R1 S1 hh => h G1 H1 cc od R1 (back S1) hh
  | ok ds ρ1 =>
    rw [z] at h
    intro G1 H1 ps R1 S1 hps
    obtain ⟨kvs, e1, e2, e3⟩ := hps
    obtain ⟨t1, t2, t3, t4⟩ := S1.track (R.noneG hr) upd_same n1 n2
    refine ⟨t2, kvs, e1, by omega, ?_⟩
    have R2 := R1.beside t1 t3 t4 (.dK (mergeK [] kvs))
    refine h G1 _ r R2 ?_ t1 ⟨_, upd_same, kv_merge .nil e2⟩ hr t3 t4
    have := S1.era r
    rw [eH, ← era_upd (o := HO.dK (mergeK [] kvs))] at this
    exact this.unera
end
def RPost (K : PySem.W.Frag) (mg : Str → Option Value) (E : WX) (D : Ends) (σ : St) (G H : Hp) (ρ : DEnv) : Res OD → Prop
  | .ok o ρ' => ∀ G' H' σ' p, Rel K G' σ' H' ρ' → Stp G H σ ρ G' H' σ' ρ' → G' p = none → OwnAt K G' H' p o → H p = none → ¬ OwnL σ' ρ' p → ¬ OwnI σ' ρ' p → D.rt (.ref p) H'
  | .err x ρ' => ∀ G' H' σ' c od, Rel K G' σ' H' ρ' → Stp G H σ ρ G' H' σ' ρ' → ErrAt K mg G' H' x c od → E c od σ' H'
  | .bad => False
structure FBJ (X : Cx) (E : WX) (sts : List Stmt) (f : DEnv → Res OD) : Prop where
  ex : ∃ t : TS, PSs X sts t ∧ ∀ (σ : St) (G H : Hp) (ρ : DEnv) (D : Ends), Rel X.K G σ H ρ → RPost X.K X.mg E D σ G H ρ (f ρ) → t D σ H
def seqF (f : DEnv → Res Out) (g : DEnv → Res OD) : DEnv → Res OD := fun ρ => match f ρ with
  | .ok .nx ρ1 => g ρ1
  | .err x ρ1 => .err x ρ1
  | _ => .bad
def frzF (i : Nat) (f : DEnv → Res OD) : DEnv → Res OD := fun ρ => f (frzC i ρ)
def spDF (K : PySem.W.Frag) (mg : Str → Option Value) (n : Nat) (den : DEnv → Res OD) : Sp := fun vs H Q E => ∃ (G : Hp) (cs : DEnv), vs.length = n ∧ cs.all Cell.isArg = true ∧ Rel K G (vs.map some) H cs ∧ FPost K mg (upE E) (vs.map some) G H cs Q (den cs)
def defF (m : Nat) (body : DEnv → Res OD) : DEnv → Res OD := fun cs => match body (cs ++ List.replicate m .un) with
  | .ok o ρ => .ok o (backIO cs ρ)
  | .err x ρ => .err x (backIO cs ρ)
  | .bad => .bad
structure KeptF (P : Program) (w : World) (K : PySem.W.Frag) (mg : Str → Option Value) (base : Heap) (CX : CXT) (k : Nat) (x : Str) (ps : List Str) (den : DEnv → Res OD) : Prop where
  ex : ∃ (f : Addr) (fd : FuncData), mg x = some (.ref f) ∧ PySem.W.keepIn K (.ref f) = true ∧ Binds K fd ps [] ∧ FnOk P w K mg base CX k f fd ps (spDF K mg ps.length den)
theorem fb_ret {X : Cx} {E : WX} {e : Expr} {ff : DEnv → Res OD} {pos : Pos} (h : FJ X E e ff) : FBJ X E [.Return (some e) pos] ff := by
  obtain ⟨t, q, p⟩ := h
  refine ⟨_, pss_one (ps_ret q), fun σ G H ρ D R h => p σ G H ρ _ R ?_⟩
  cases r : ff ρ with
  | bad => rw [r] at h; exact h
  | err x c => rw [r] at h; exact fun G' H' c od R' S' hh => h G' H' σ c od R' S' hh
  | ok o ρ1 => rw [r] at h; exact fun G' H' p R' S' q1 q2 q3 q4 q5 => h G' H' σ p R' S' q1 q2 q3 q4 q5
theorem RPost.from {K : PySem.W.Frag} {mg : Str → Option Value} {E : WX} {D : Ends} {σ σ1 : St} {G H G1 H1 : Hp} {ρ ρ1 : DEnv} {r : Res OD} (s : Stp G H σ ρ G1 H1 σ1 ρ1) (h : RPost K mg E D σ G H ρ r) : RPost K mg E D σ1 G1 H1 ρ1 r := by
  cases r with
  | ok o ρ' => exact fun G' H' σ' p R S q1 q2 q3 q4 q5 => h G' H' σ' p R (s.trans S) q1 q2 (s.keep p q3) q4 q5
  | err x ρ' => exact fun G' H' σ' c od R S q => h G' H' σ' c od R (s.trans S) q
  | bad => exact h
theorem fb_cons {X : Cx} {E : WX} {st : Stmt} {rest : List Stmt} {f : DEnv → Res Out} {g : DEnv → Res OD} (h : SJ X E st f) (h2 : FBJ X E rest g) : FBJ X E (st :: rest) (seqF f g) := by
  obtain ⟨t, q, p⟩ := h
  obtain ⟨t2, q2, p2⟩ := h2
  refine ⟨_, pss_cons q q2, fun σ G H ρ D R h => p σ G H ρ _ R ?_⟩
  unfold seqF at h
  cases r : f ρ with
  | bad => rw [r] at h; exact h
  | err x ρ' => rw [r] at h; exact h
  | ok o ρ' =>
    rw [r] at h
    cases o with
    | nx => exact fun G' H' σ' R' S' => p2 σ' G' H' ρ' D R' (RPost.from S' h)
    | bk => exact h.elim
    | ct => exact h.elim
    | rt d => exact h.elim
section
variable {P : Program} {w : World} {K : PySem.W.Frag} {mg : Str → Option Value} {base : Heap}
theorem keptF_of {x qual : Str} {st : Stmt} {f : Addr} {fd : FuncData} {N ps : List Str} {k m : Nat} {body : DEnv → Res OD} (D : IsDef K mg x qual st ps f fd) (S : FnScope N ps (defScope st)) (hN : N.length = ps.length + m)
    (hb : ∀ (cdv : Value) (A : Around) (outer : List Env) (s : Shared) (H : Hp) (E : XK), Room k (A.deeper (envOfC qual (defScope st) s.heap.objs.size f cdv)) → FBJ (cxOf CX0 P w K mg base N qual (defScope st) f cdv A outer s H E).nox (upE E) (defBody st) body) :
    KeptF P w K mg base CX0 (k + 1) x ps (defF m body) := by
  refine ⟨f, fd, D.gl, D.fn.kp, D.bi, D.fn.ok S (fun vs H Q E h => ?_) fun cdv A outer s H vs Q E hr h => ?_⟩
  · obtain ⟨_, _, h, _⟩ := h
    exact h
  · obtain ⟨G, cs, hl, ha, R, h⟩ := h
    obtain ⟨t, q, p⟩ := (hb cdv A outer s H E hr).ex
    refine ⟨t, q, ?_⟩
    have hst : L2.start N vs = vs.map some ++ List.replicate m none := by
      unfold L2.start
      rw [hN, hl]
      congr 2
      omega
    rw [hst]
    have R0 := R.ext m
    have p' : ∀ (σ : St) (G H : Hp) (ρ : DEnv) (D : Ends), Rel K G σ H ρ → RPost K mg (upE E) D σ G H ρ (body ρ) → t D σ H := p
    refine p' _ G H (cs ++ List.replicate m .un) _ R0 ?_
    show RPost K mg (upE E) _ (vs.map some ++ List.replicate m none) G H (cs ++ List.replicate m .un) (body (cs ++ List.replicate m .un))
    unfold defF at h
    cases r : body (cs ++ List.replicate m .un) with
    | bad => rw [r] at h; exact h
    | err x ρ' =>
      rw [r] at h
      intro G' H' σ' c od R' S' q
      obtain ⟨R2, S2⟩ := back_ok ha R R' S'
      exact h G' H' c od R2 S2 q
    | ok o ρ' =>
      rw [r] at h
      intro G' H' σ' p R' S' q1 q2 q3 q4 q5
      obtain ⟨R2, S2⟩ := back_ok ha R R' S'
      have hcs : cs.length ≤ ρ'.length := by
        have h1 := S'.len
        have h2 := R'.len
        have h3 := R.len
        rw [List.length_append, List.length_replicate] at h1
        omega
      refine h G' H' p R2 S2 q1 q2 q3 (fun z => ?_) fun z => ?_
      · obtain ⟨i, o2, z1, z2⟩ := z
        rcases backIO_get cs ρ' i _ hcs z1 with ⟨⟨o3, y⟩, y2⟩ | ⟨_, y⟩
        · have hi : (cs ++ List.replicate m Cell.un)[i]? = some (.io o3) := by
            rw [List.getElem?_append_left (List.getElem?_eq_some_iff.mp y).1]; exact y
          obtain ⟨_, o4, y3⟩ := S'.io i o3 hi
          rw [y2] at y3
          cases y3
        · have := List.all_eq_true.mp ha _ (List.mem_of_getElem? y)
          cases this
      · have z := (S2.owni p).mp z
        obtain ⟨u, hu⟩ := R.ownHI z
        rw [q3] at hu
        cases hu
end
def dCallF (den : DEnv → Res OD) (fs : DEnv → Res (List PyData)) : DEnv → Res OD := fun ρ => (fs ρ).bind fun ds ρ1 => match den (ds.map .val) with
  | .ok d _ => .ok d ρ1
  | _ => .bad
theorem f_callF {X : Cx} {E : WX} {e : Expr} {es : List Expr} {fs : DEnv → Res (List PyData)} {den : DEnv → Res OD} {pos p : Pos} {x : Str} {k : Nat} {ps : List Str} (F : KeptF X.prog X.w X.K X.mg X.base CX0 k x ps den) (hn : es.length + 1 = ps.length) (hr : Room k X.A) (hg : Gl X x) (ha : AJ X E (e :: es) fs) (hdb : (x == ("__debug__" : Str)) = false := by decide)
    (he : starEach (e :: es) X.env = (false, eval e X.env) :: starEach es X.env := by rfl) (hpl : (backTo pos (starEach es X.env)).any (·.1) = false := by rfl) :
    FJ X E (.Call (.Name x p) (e :: es) [] pos) (dCallF den fs) := by
  obtain ⟨f, fd, gm, kp, bi, F⟩ := F
  obtain ⟨hl, t, q, p⟩ := ha
  refine ⟨_, pe_call F hr hg gm kp bi .nil pass0 q hdb he hpl, fun σ G H ρ Q R h => p σ G H ρ _ R ?_⟩
  unfold dCallF at h
  cases r : fs ρ with
  | bad => rw [r] at h; exact h
  | err x c => rw [r] at h; exact h
  | ok ds ρ1 =>
    rw [r] at h
    intro G1 H1 vs R1 S1 hv
    have h1 : FPost X.K X.mg E σ G1 H1 ρ1 Q (match den (ds.map .val) with
      | .ok d _ => .ok d ρ1
      | _ => .bad) := FPost.from S1 h
    rw [List.append_nil]
    refine ⟨G1, ds.map .val, by rw [RpAll.len hv]; exact (hl ρ ds ρ1 r).trans hn, vals_arg ds, vals_rel R1.gh R1.tab hv, ?_⟩
    cases r2 : den (ds.map .val) with
    | bad => rw [r2] at h1; exact h1
    | err x c => rw [r2] at h1; exact h1.elim
    | ok d cs =>
      rw [r2] at h1
      intro G' H' b R' S' q1 q2 q3 q4 q5
      obtain ⟨R2, S2⟩ := call_step R1 hv R'.gh R'.tab S'
      refine h1 G' H' b R2 S2 q1 q2 q3 (fun z => ?_) fun z => ?_
      · obtain ⟨u, hu⟩ := R1.ownH z; rw [q3] at hu; cases hu
      · obtain ⟨u, hu⟩ := R1.ownHI z; rw [q3] at hu; cases hu
end DL
set_option Elab.async false
set_option linter.all false
set_option maxRecDepth 100000
set_option maxHeartbeats 4000000
namespace DL
open PySem PySem.Spec PyProof.Rows L2
variable [Td]
def dkQ (K : List (Key × PyData) → Prop) (o : Option OD) : Prop := match o with
  | some (.dk kvs) => K kvs
  | _ => False
def dtQ (K : List (List Key × PyData) → Prop) (o : Option OD) : Prop := match o with
  | some (.dt kvs) => K kvs
  | _ => False
def keyQ {κ : Type} (K : κ → Prop) (o : Option κ) : Prop := match o with
  | some k => K k
  | none => False
theorem dkQ_dk (K : List (Key × PyData) → Prop) (kvs : List (Key × PyData)) : dkQ K (some (.dk kvs)) = K kvs := rfl
theorem dtQ_dt (K : List (List Key × PyData) → Prop) (kvs : List (List Key × PyData)) : dtQ K (some (.dt kvs)) = K kvs := rfl
theorem keyQ_some {κ : Type} (K : κ → Prop) (k : κ) : keyQ K (some k) = K k := rfl
def hobjO (c : Option Cell) : Option OD := match c with
  | some (.own o) => some o
  | some (.io o) => some o
  | _ => none
theorem hobj_eq (i : Nat) (ρ : DEnv) : hobj i ρ = hobjO (ρ[i]?) := rfl
theorem hobjO_own (o : OD) : hobjO (some (.own o)) = some o := rfl
theorem hobjO_io (o : OD) : hobjO (some (.io o)) = some o := rfl
theorem keyD_int (i : Int) : keyD (.int i) = some (.inl i) := rfl
theorem keyD_str (x : Str) : keyD (.str x) = some (.inr x) := rfl
theorem keysD_nil : keysD [] = some [] := rfl
theorem keysD_int (i : Int) (ds : List PyData) : keysD (.int i :: ds) = (keysD ds).map (.inl i :: ·) := by
  show (match some (Sum.inl i : Key), keysD ds with
    | some k, some ks => some (k :: ks)
    | _, _ => none) = _
  cases keysD ds <;> rfl
section
variable {Z : Exn → DEnv → Prop} (ρ : DEnv) (Q : PyData → DEnv → Prop) (S : Out → DEnv → Prop) (O : OD → DEnv → Prop)
theorem wp_dget (i : Nat) (f : DEnv → Res PyData) : WpX Z (dDGet i f ρ) Q = ((ρ[i]?.getD .un).isOwn = true ∧ WpX Z (f ρ) fun k ρ1 => dkQ (fun kvs => WpX Z (Res.of ((keyD k).bind fun k => valD kvs k) ρ1) Q) (hobj i ρ1)) := by
  unfold dDGet; rw [wp_guard, wp_bind]; congr 1; congr 1; funext k ρ1
  cases hobj i ρ1 with
  | none => exact wp_bad _
  | some o => cases o <;> first | rfl | exact wp_bad _
theorem wp_dgetT (i : Nat) (f : DEnv → Res (List PyData)) : WpX Z (dDGetT i f ρ) Q = ((ρ[i]?.getD .un).isOwn = true ∧ WpX Z (f ρ) fun ds ρ1 => ds.length ≤ sizeLine ∧ dtQ (fun kvs => WpX Z (Res.of ((keysD ds).bind fun k => valD kvs k) ρ1) Q) (hobj i ρ1)) := by
  unfold dDGetT; rw [wp_guard, wp_bind]; congr 1; congr 1; funext k ρ1
  rw [wp_guard]; congr 1
  cases hobj i ρ1 with
  | none => exact wp_bad _
  | some o => cases o <;> first | rfl | exact wp_bad _
theorem ws_dput (i : Nat) (f g : DEnv → Res PyData) : WpX Z (sDPutD i f g ρ) S = WpX Z (f ρ) fun d ρ1 => (ρ1[i]?.getD .un).isOwn = true ∧ WpX Z (g ρ1) fun k ρ2 => dkQ (fun kvs => keyQ (fun k => kvs.length < sizeLine ∧ S .nx (setHeld i (.dk (putD kvs k d)) ρ2)) (keyD k)) (hobj i ρ2) := by
  unfold sDPutD; rw [wp_bind]; congr 1; funext d ρ1
  rw [wp_guard, wp_bind]; congr 1; congr 1; funext k ρ2
  cases hobj i ρ2 with
  | none => exact wp_bad _
  | some o =>
    cases o with
    | dk kvs =>
      show WpX Z (match some (OD.dk kvs), keyD k with
        | some (.dk kvs), some k => if kvs.length < sizeLine then .ok .nx (setHeld i (.dk (putD kvs k d)) ρ2) else .bad
        | _, _ => .bad) S = keyQ _ (keyD k)
      cases keyD k with
      | none => exact wp_bad _
      | some kk => exact (wp_guard _ _).trans (congrArg _ (wp_ok _ _ _))
    | _ => exact wp_bad _
theorem ws_dputT (i : Nat) (f : DEnv → Res PyData) (g : DEnv → Res (List PyData)) : WpX Z (sDPutT i f g ρ) S = WpX Z (f ρ) fun d ρ1 => (ρ1[i]?.getD .un).isOwn = true ∧ WpX Z (g ρ1) fun ds ρ2 => ds.length ≤ sizeLine ∧ dtQ (fun kvs => keyQ (fun k => kvs.length < sizeLine ∧ S .nx (setHeld i (.dt (putD kvs k d)) ρ2)) (keysD ds)) (hobj i ρ2) := by
  unfold sDPutT; rw [wp_bind]; congr 1; funext d ρ1
  rw [wp_guard, wp_bind]; congr 1; congr 1; funext k ρ2
  rw [wp_guard]; congr 1
  cases hobj i ρ2 with
  | none => exact wp_bad _
  | some o =>
    cases o with
    | dt kvs =>
      show WpX Z (match some (OD.dt kvs), keysD k with
        | some (.dt kvs), some k => if kvs.length < sizeLine then .ok .nx (setHeld i (.dt (putD kvs k d)) ρ2) else .bad
        | _, _ => .bad) S = keyQ _ (keysD k)
      cases keysD k with
      | none => exact wp_bad _
      | some kk => exact (wp_guard _ _).trans (congrArg _ (wp_ok _ _ _))
    | _ => exact wp_bad _
theorem wp_newT : WpX Z (fNewT ρ) O = O (.dt []) ρ := wp_ok _ _ _
theorem wp_newK : WpX Z (fNewK ρ) O = O (.dk []) ρ := wp_ok _ _ _
theorem wp_disp (ks : List Key) (f : DEnv → Res (List PyData)) : WpX Z (fDisp ks f ρ) O = WpX Z (f ρ) fun ds ρ1 => O (.dk (mergeD [] (ks.zip ds))) ρ1 := by
  unfold fDisp; rw [wp_bind]; congr 1; funext ds ρ1; exact wp_ok _ _ _
theorem wp_callF (den : DEnv → Res OD) (f : DEnv → Res (List PyData)) : WpX Z (dCallF den f ρ) O = WpX Z (f ρ) fun ds ρ1 => WpX Zn (den (ds.map .val)) fun d _ => O d ρ1 := by
  unfold dCallF; rw [wp_bind]; congr 1; funext ds ρ1
  cases den (ds.map .val) with
  | ok d c => exact (wp_ok _ _ _).trans (wp_ok d c fun d _ => O d ρ1).symm
  | err x c => exact (wp_bad _).trans (propext ⟨False.elim, fun h => h.out.elim⟩)
  | bad => exact (wp_bad _).trans (wp_bad _).symm
def nxF (K : DEnv → Prop) (o : Out) (ρ : DEnv) : Prop := match o with
  | .nx => K ρ
  | _ => False
theorem nxF_nx (K : DEnv → Prop) : nxF K .nx ρ = K ρ := rfl
theorem wf_seq (f : DEnv → Res Out) (g : DEnv → Res OD) : WpX Z (seqF f g ρ) O = WpX Z (f ρ) (nxF fun ρ1 => WpX Z (g ρ1) O) := by
  unfold seqF
  cases f ρ with
  | ok o ρ1 =>
    rw [wp_ok]
    cases o <;> first | rfl | exact wp_bad _
  | err x c => exact propext ⟨fun h => ⟨h.out⟩, fun h => ⟨h.out⟩⟩
  | bad => exact (wp_bad _).trans (wp_bad _).symm
theorem wf_frz (i : Nat) (f : DEnv → Res OD) : WpX Z (frzF i f ρ) O = WpX Z (f (frzC i ρ)) O := rfl
def retF (cs : DEnv) (O : OD → DEnv → Prop) (o : OD) (ρ : DEnv) : Prop := O o (backIO cs ρ)
theorem retF_eq (cs : DEnv) (o : OD) : retF cs O o ρ = O o (backIO cs ρ) := rfl
theorem wp_defF (m : Nat) (body : DEnv → Res OD) (cs : DEnv) (h : WpX Zn (body (cs ++ List.replicate m .un)) (retF cs O)) : WpX Zn (defF m body cs) O := by
  unfold defF
  cases e : body (cs ++ List.replicate m .un) with
  | ok o ρ => rw [e] at h; exact ⟨h.out⟩
  | err x ρ => rw [e] at h; exact h.out.elim
  | bad => rw [e] at h; exact h.out.elim
end
theorem frzO_dk (kvs : List (Key × PyData)) (i : Nat) (ρ : DEnv) : frzO (some (.own (.dk kvs))) i ρ = ρ := rfl
theorem frzO_dt (kvs : List (List Key × PyData)) (i : Nat) (ρ : DEnv) : frzO (some (.own (.dt kvs))) i ρ = ρ := rfl
def boxO (row : List Int) (at_ : Int) : OD := .dk [(.inr "row", .list (row.map .int)), (.inr "at", .int at_)]
theorem box_merge (row : List Int) (a : Int) : OD.dk (mergeD [] (List.zip [Sum.inr "row", Sum.inr "at"] [.list (row.map .int), .int a])) = boxO row a := rfl
theorem box_row (row : List Int) (a : Int) : valD [((Sum.inr "row" : Key), PyData.list (row.map .int)), ((Sum.inr "at" : Key), .int a)] (Sum.inr "row" : Key) = some (.list (row.map .int)) := rfl
theorem box_at (row : List Int) (a : Int) : valD [((Sum.inr "row" : Key), PyData.list (row.map .int)), ((Sum.inr "at" : Key), .int a)] (Sum.inr "at" : Key) = some (.int a) := rfl
theorem box_put (row : List Int) (a b : Int) : putD [((Sum.inr "row" : Key), PyData.list (row.map .int)), ((Sum.inr "at" : Key), .int a)] (Sum.inr "at" : Key) (.int b) = [((Sum.inr "row" : Key), PyData.list (row.map .int)), ((Sum.inr "at" : Key), .int b)] := rfl
end DL
set_option Elab.async false
set_option linter.all false
set_option maxRecDepth 100000
set_option maxHeartbeats 4000000
namespace DL
open PySem PySem.Spec PyProof.Rows L2
variable [Td]
section
variable {K : PySem.W.Frag} {G H : Hp} {σ : St} {ρ : DEnv} {i : Nat} {c0 : Cell}
theorem Rel.setUn (R : Rel K G σ H ρ) (h0 : ρ[i]? = some c0) (hio : ∀ o, c0 ≠ .io o) (v : Option V) :
    Rel K G (σ.set i v) H (ρ.set i .un) ∧ Stp G H σ ρ G H (σ.set i v) (ρ.set i .un) := by
  obtain ⟨v0, hv0, _⟩ := R.cell i c0 h0
  refine ⟨⟨R.gh, by rw [List.length_set, List.length_set]; exact R.len, fun j c e => ?_, fun j k p hjk a b => ?_, R.tab⟩, ⟨Same.refl _, fun _ _ h _ _ => h, fun _ h => h, fun _ _ h => .inl h, fun b => ?_, fun j o e => ?_, fun j o e => ?_, by first | rfl | simp⟩⟩
  · rcases getset e with ⟨rfl, rfl, _⟩ | ⟨ne, e⟩
    · exact ⟨v, setself hv0, trivial⟩
    · rw [List.getElem?_set_ne (Ne.symm ne)]
      exact R.cell j c e
  · obtain ⟨a1, c1, a2, a3⟩ := a
    obtain ⟨b1, c2, b2, b3⟩ := b
    rcases getset a2 with ⟨rfl, rfl, _⟩ | ⟨ne, e⟩
    · cases a3
    · rcases getset b2 with ⟨rfl, rfl, _⟩ | ⟨ne2, e2⟩
      · cases b3
      · rw [List.getElem?_set_ne (Ne.symm ne)] at a1
        rw [List.getElem?_set_ne (Ne.symm ne2)] at b1
        exact R.sep j k p hjk ⟨a1, c1, e, a3⟩ ⟨b1, c2, e2, b3⟩
  · rintro ⟨j, o, e, w⟩
    rcases getset e with ⟨rfl, z, _⟩ | ⟨ne, e⟩
    · cases z
    · rw [List.getElem?_set_ne (Ne.symm ne)] at w
      exact .inl ⟨j, o, e, w⟩
  · by_cases hj : j = i
    · subst hj
      rw [h0] at e
      exact absurd (Option.some.inj e) (hio o)
    · rw [List.getElem?_set_ne (Ne.symm hj), List.getElem?_set_ne (Ne.symm hj)]
      exact ⟨rfl, o, e⟩
  · rcases getset e with ⟨rfl, z, _⟩ | ⟨ne, e⟩
    · cases z
    · exact ⟨o, e⟩
end
theorem kept_ofX {P : Program} {w : World} {K : PySem.W.Frag} {mg : Str → Option Value} {base : Heap} {x qual : Str} {st : Stmt} {f : Addr} {fd : FuncData} {N ps : List Str} {k m : Nat} {body : DEnv → Res Out} (D : IsDef K mg x qual st ps f fd) (S : FnScope N ps (defScope st)) (hN : N.length = ps.length + m)
    (hb : ∀ (cdv : Value) (A : Around) (outer : List Env) (s : Shared) (H : Hp) (E : XK), Room k (A.deeper (envOfC qual (defScope st) s.heap.objs.size f cdv)) → BJ (cxOf (CX P w) P w K mg base N qual (defScope st) f cdv A outer s H E) (upE E) (defBody st) body) :
    Kept P w K mg base (CX P w) (k + 1) x ps (defD m body) := by
  refine ⟨f, fd, D.gl, D.fn.kp, D.bi, D.fn.okX S (fun vs H Q E h => ?_) fun cdv A outer s H vs Q E hr h => ?_⟩
  · obtain ⟨_, _, h, _⟩ := h
    exact h
  · obtain ⟨G, cs, hl, ha, R, h⟩ := h
    obtain ⟨t, q, p⟩ := (hb cdv A outer s H E hr).ex
    refine ⟨t, q, ?_⟩
    have hst : L2.start N vs = vs.map some ++ List.replicate m none := by
      unfold L2.start
      rw [hN, hl]
      congr 2
      omega
    rw [hst]
    have R0 := R.ext m
    have p' : ∀ (σ : St) (G H : Hp) (ρ : DEnv) (D : Ends), Rel K G σ H ρ → SPost K mg (upE E) D σ G H ρ (body ρ) → t D σ H := p
    refine p' _ G H (cs ++ List.replicate m .un) _ R0 ?_
    show SPost K mg (upE E) _ (vs.map some ++ List.replicate m none) G H (cs ++ List.replicate m .un) (body (cs ++ List.replicate m .un))
    unfold defD at h
    cases r : body (cs ++ List.replicate m .un) with
    | bad => rw [r] at h; exact h
    | err x ρ' =>
      rw [r] at h
      intro G' H' σ' c od R' S' q
      obtain ⟨R2, S2⟩ := back_ok ha R R' S'
      exact h G' H' c od R2 S2 q
    | ok o ρ' =>
      rw [r] at h
      cases o with
      | nx =>
        intro G' H' σ' R' S'
        obtain ⟨R2, S2⟩ := back_ok ha R R' S'
        exact h G' H' .non R2 S2 .non
      | rt d =>
        intro G' H' σ' v R' S' q
        obtain ⟨R2, S2⟩ := back_ok ha R R' S'
        exact h G' H' v R2 S2 q
      | bk => exact h.elim
      | ct => exact h.elim
/-- what is proved where nothing is raised holds where something may be -/
theorem BJ.nox {X : Cx} {E : WX} {sts : List Stmt} {f : DEnv → Res Out} (h : BJ X.nox E sts f) : BJ X E sts f := by
  obtain ⟨t, q, p⟩ := h
  exact ⟨t, q.nox, p⟩
def dCallX (den : DEnv → Res PyData) (fs : DEnv → Res (List PyData)) : DEnv → Res PyData := fun ρ => (fs ρ).bind fun ds ρ1 => match den (ds.map .val) with
  | .ok d _ => .ok d ρ1
  | .err x _ => .err x ρ1
  | .bad => .bad
theorem e_callX {X : Cx} {W : WX} {e : Expr} {es : List Expr} {fs : DEnv → Res (List PyData)} {den : DEnv → Res PyData} {pos p : Pos} {x : Str} {k : Nat} {ps : List Str} (tk : Takes X W) (F : Kept X.prog X.w X.K X.mg X.base (CX X.prog X.w) k x ps den) (hn : es.length + 1 = ps.length) (hr : Room k X.A) (hg : Gl X x) (ha : AJ X W (e :: es) fs) (hdb : (x == ("__debug__" : Str)) = false := by decide)
    (he : starEach (e :: es) X.env = (false, eval e X.env) :: starEach es X.env := by rfl) (hpl : (backTo pos (starEach es X.env)).any (·.1) = false := by rfl) :
    EJ X W (.Call (.Name x p) (e :: es) [] pos) (dCallX den fs) := by
  obtain ⟨f, fd, gm, kp, bi, F⟩ := F
  obtain ⟨hl, t, q, p⟩ := ha
  refine ⟨_, pe_callS F hr hg gm kp bi (fun σ => passAt tk σ) q hdb he hpl, fun σ G H ρ Q R h => p σ G H ρ _ R ?_⟩
  unfold dCallX at h
  cases r : fs ρ with
  | bad => rw [r] at h; exact h
  | err x c => rw [r] at h; exact h
  | ok ds ρ1 =>
    rw [r] at h
    intro G1 H1 vs R1 S1 hv
    have h1 : EPost X W σ G1 H1 ρ1 Q (match den (ds.map .val) with
      | .ok d _ => .ok d ρ1
      | .err x _ => .err x ρ1
      | .bad => .bad) := Post.from S1 h
    refine ⟨G1, ds.map .val, by rw [RpAll.len hv]; exact (hl ρ ds ρ1 r).trans hn, vals_arg ds, vals_rel R1.gh R1.tab hv, ?_⟩
    cases r2 : den (ds.map .val) with
    | bad => rw [r2] at h1; exact h1
    | err x cs =>
      rw [r2] at h1
      intro G' H' c od R' S' q
      obtain ⟨R2, S2⟩ := call_step R1 hv R'.gh R'.tab S'
      exact h1 G' H' c od R2 S2 q
    | ok d cs =>
      rw [r2] at h1
      intro G' H' v R' S' q
      obtain ⟨R2, S2⟩ := call_step R1 hv R'.gh R'.tab S'
      exact h1 G' H' v R2 S2 q
structure ExF (K : PySem.W.Frag) (mg : Str → Option Value) (x : Str) : Prop where
  ex : ∃ C, mg x = some (.ref C) ∧ PySem.W.excIn K C [.type "ValueError", .type "Exception", .type "BaseException", .type "object"] "ValueError.__new__" = true ∧ PySem.W.keepIn K (.ref C) = true ∧
    PySem.W.subIn K (.ref C) (.type "BaseException") = some true ∧ PySem.W.typeIn K (.ref C) = some (.type "type")
def sRaise (x : Str) (f : DEnv → Res (List PyData)) : DEnv → Res Out := fun ρ => (f ρ).bind fun ds ρ1 => if ds.length ≤ sizeLine then .err ⟨x, []⟩ ρ1 else .bad
theorem s_raise {X : Cx} {W : WX} {e : Expr} {es : List Expr} {fs : DEnv → Res (List PyData)} {pos p pos' : Pos} {x : Str} (hc : X.calm = true) (tk : Takes X W) (F : ExF X.K X.mg x) (hg : Gl X x) (ha : AJ X W (e :: es) fs) (hdb : (x == ("__debug__" : Str)) = false := by decide)
    (he : starEach (e :: es) X.env = (false, eval e X.env) :: starEach es X.env := by rfl) (hpl : (backTo pos (starEach es X.env)).any (·.1) = false := by rfl) :
    SJ X W (.Raise (some (.Call (.Name x p) (e :: es) [] pos)) none pos') (sRaise x fs) := by
  obtain ⟨C, g, ex, kp, sb, ty⟩ := F
  obtain ⟨hl, t, q, p⟩ := ha
  refine ⟨_, ps_raise hc tk (pmk_ownA PySem.F.excBase_ValueError ex g kp (raises_own sb ty) hg q hdb he hpl), fun σ G H ρ D R h => p σ G H ρ _ R (SPost.bind h fun G1 H1 xs ds ρ1 R1 S1 hx h1 => ?_)⟩
  by_cases hz : ds.length ≤ sizeLine
  case neg => rw [if_neg hz] at h1; exact h1.elim
  rw [if_pos hz] at h1
  have hl2 := RpAll.len hx
  exact ⟨by omega, h1 G1 H1 σ (.ref C) none R1 Stp.refl ⟨C, g, rfl, rfl⟩⟩
def setU (i : Nat) (ρ : DEnv) : Option DEnv := match ρ[i]? with
  | some (.io _) => none
  | some _ => some (ρ.set i .un)
  | none => none
def endU (i : Nat) (o : Out) (ρ : DEnv) : Res Out := match o with
  | .rt d => .ok (.rt d) ρ
  | o => match setU i ρ with
    | some ρ' => .ok o ρ'
    | none => .bad
def endR (i : Nat) : Res Out → Res Out
  | .ok o ρ => endU i o ρ
  | _ => .bad
def sTryAs (i : Nat) (m : Str → Option Bool) (fb : DEnv → Res Out) (fs : Exn → DEnv → Res Out) : DEnv → Res Out := fun ρ => match fb ρ with
  | .err x ρ1 => match m x.cls with
    | some true => match setU i ρ1 with
      | some ρ2 => endR i (fs x ρ2)
      | none => .bad
    | some false => .err x ρ1
    | none => .bad
  | r => r
theorem setU_some {i : Nat} {ρ ρ' : DEnv} (h : setU i ρ = some ρ') : ∃ c0, ρ[i]? = some c0 ∧ (∀ o, c0 ≠ .io o) ∧ ρ' = ρ.set i .un := by
  unfold setU at h
  cases q : ρ[i]? with
  | none => rw [q] at h; cases h
  | some c =>
    rw [q] at h
    cases c with
    | io o => cases h
    | fn _ _ => cases h; exact ⟨_, rfl, fun _ z => (nomatch z), rfl⟩
    | nd _ => cases h; exact ⟨_, rfl, fun _ z => (nomatch z), rfl⟩
    | un => cases h; exact ⟨_, rfl, fun _ z => (nomatch z), rfl⟩
    | val o => cases h; exact ⟨_, rfl, fun _ z => (nomatch z), rfl⟩
    | own o => cases h; exact ⟨_, rfl, fun _ z => (nomatch z), rfl⟩
/-- a block, read by its meaning -/
def tBlk (K : PySem.W.Frag) (mg : Str → Option Value) (E : WX) (f : DEnv → Res Out) : TS := fun D σ H => ∃ G ρ, Rel K G σ H ρ ∧ SPost K mg E D σ G H ρ (f ρ)
theorem pss_t {X : Cx} {E : WX} {sts : List Stmt} {f : DEnv → Res Out} (h : BJ X E sts f) : PSs X sts (tBlk X.K X.mg E f) := by
  obtain ⟨t, q, p⟩ := h
  exact ⟨fun pins s σ H D I hh => q.run pins s σ H D I (by obtain ⟨G, ρ, R, hs⟩ := hh; exact p σ G H ρ D R hs)⟩
/-- a suite: it knows the exception, whose name is in slot i -/
structure UJ (X : Cx) (i : Nat) (sts : List Stmt) (f : Exn → DEnv → Res Out) : Prop where
  ex : ∀ (a : Addr) (oe : Obj) (C : Addr) (od : Option Addr) (pn : List (Addr × Obj)), Zc (.ref C) od oe → (∃ vs, oe.data = .fields vs) →
    ∃ t : TS, PSs (X.suite a ((a, oe) :: pn)) sts t ∧ ∀ (σ : St) (G H : Hp) (ρ : DEnv) (D : Ends) (x : Exn), Rel X.K G σ H ρ → σ[i]? = some (some (.ref a)) → H a = none → ErrAt X.K X.mg G H x (.ref C) od →
      SPost X.K X.mg W0 D σ G H ρ (f x ρ) → t D σ H
def tSuite (K : PySem.W.Frag) (mg : Str → Option Value) (i : Nat) (fs : Exn → DEnv → Res Out) : Addr → Value → Option Addr → TS := fun a cls d D σ H =>
  ∃ (G : Hp) (ρ : DEnv) (x : Exn) (C : Addr), cls = .ref C ∧ Rel K G σ H ρ ∧ σ[i]? = some (some (.ref a)) ∧ H a = none ∧ ErrAt K mg G H x (.ref C) d ∧ SPost K mg W0 D σ G H ρ (fs x ρ)
theorem suite_t {X : Cx} {i : Nat} {sts : List Stmt} {f : Exn → DEnv → Res Out} (h : UJ X i sts f) (a : Addr) (oe : Obj) (cls : Value) (d : Option Addr) (pn : List (Addr × Obj)) (hz : Zc cls d oe) (hf : ∃ vs, oe.data = .fields vs) :
    PSs (X.suite a ((a, oe) :: pn)) sts (tSuite X.K X.mg i f a cls d) := by
  refine ⟨fun pins s σ H D I hh => ?_⟩
  obtain ⟨G, ρ, x, C, rfl, R, h1, h2, h3, h4⟩ := hh
  obtain ⟨t, q, p⟩ := h.ex a oe C d pn hz hf
  exact q.run pins s σ H D I (p σ G H ρ D x R h1 h2 h3 h4)
/-- what a handler takes, by the classes' names -/
abbrev Matches (K : PySem.W.Frag) (mg : Str → Option Value) (c : Value) (m : Str → Option Bool) : Prop := ∀ n b, m n = some b → ∀ C, mg n = some (.ref C) → PySem.W.exmOne K (.ref C) c = some b
theorem try_read {X : Cx} {W : WX} {c : Value} {i : Nat} {m : Str → Option Bool} {fb : DEnv → Res Out} {fs : Exn → DEnv → Res Out} (hm : Matches X.K X.mg c m) {σ : St} {G H : Hp} {ρ : DEnv} {D : Ends} (R : Rel X.K G σ H ρ) (h : SPost X.K X.mg W D σ G H ρ (sTryAs i m fb fs ρ)) :
    tBlk X.K X.mg (wAs X.K c i (tSuite X.K X.mg i fs) W D) fb D σ H := by
  refine ⟨G, ρ, R, ?_⟩
  unfold sTryAs at h
  cases r : fb ρ with
  | bad => rw [r] at h; exact h
  | ok o ρ1 => rw [r] at h; cases o <;> exact h
  | err x ρ1 =>
    rw [r] at h
    intro G1 H1 σ1 cc od R1 S1 hE
    obtain ⟨C, g1, rfl, g3⟩ := hE
    have hE : ErrAt X.K X.mg G1 H1 x (.ref C) od := ⟨C, g1, rfl, g3⟩
    have h : SPost X.K X.mg W D σ G H ρ (match m x.cls with
      | some true => match setU i ρ1 with
        | some ρ2 => endR i (fs x ρ2)
        | none => .bad
      | some false => .err x ρ1
      | none => .bad) := h
    cases q : m x.cls with
    | none => rw [q] at h; exact h.elim
    | some b =>
      rw [q] at h
      refine ⟨b, hm _ _ q C g1, fun hb a ha => ?_, fun hb => ?_⟩
      · subst hb
        have h : SPost X.K X.mg W D σ G H ρ (match setU i ρ1 with
          | some ρ2 => endR i (fs x ρ2)
          | none => .bad) := h
        cases q2 : setU i ρ1 with
        | none => rw [q2] at h; exact h.elim
        | some ρ2 =>
          rw [q2] at h
          obtain ⟨c0, h0, hio, rfl⟩ := setU_some q2
          obtain ⟨v0, hv0, _⟩ := R1.cell i c0 h0
          obtain ⟨R2, S2⟩ := R1.setUn h0 hio (some (.ref a))
          have h : SPost X.K X.mg W D (σ1.set i (some (.ref a))) G1 H1 (ρ1.set i .un) (endR i (fs x (ρ1.set i .un))) := SPost.from (S1.trans S2) h
          refine ⟨G1, _, x, C, rfl, R2, setself hv0, ha, hE, ?_⟩
          -- the suite's ends: the name is gone
          cases r2 : fs x (ρ1.set i .un) with
          | bad => rw [r2] at h; exact h
          | err y ρ3 => rw [r2] at h; exact h.elim
          | ok o ρ3 =>
            rw [r2] at h
            have h : SPost X.K X.mg W D (σ1.set i (some (.ref a))) G1 H1 (ρ1.set i .un) (endU i o ρ3) := h
            have done : ∀ {k : St → Hp → Prop}, (∀ ρ4, setU i ρ3 = some ρ4 → ∀ G' H' σ', Rel X.K G' σ' H' ρ4 → Stp G1 H1 (σ1.set i (some (.ref a))) (ρ1.set i .un) G' H' σ' ρ4 → k σ' H') → (∃ ρ4, setU i ρ3 = some ρ4) →
                ∀ G' H' σ', Rel X.K G' σ' H' ρ3 → Stp G1 H1 (σ1.set i (some (.ref a))) (ρ1.set i .un) G' H' σ' ρ3 → k (σ'.set i none) H' := fun {k} hk he G' H' σ' R' S' => by
              obtain ⟨ρ4, e4⟩ := he
              obtain ⟨c1, k0, kio, rfl⟩ := setU_some e4
              obtain ⟨R5, S5⟩ := R'.setUn k0 kio none
              exact hk _ e4 G' H' _ R5 (S'.trans S5)
            cases o with
            | rt d => exact h
            | nx =>
              cases q3 : setU i ρ3 with
              | none => unfold endU at h; rw [q3] at h; exact h.elim
              | some ρ4 =>
                unfold endU at h; rw [q3] at h
                exact done (k := D.nx) (fun ρ5 e5 => by rw [q3] at e5; cases e5; exact h) ⟨ρ4, q3⟩
            | bk =>
              cases q3 : setU i ρ3 with
              | none => unfold endU at h; rw [q3] at h; exact h.elim
              | some ρ4 =>
                unfold endU at h; rw [q3] at h
                exact done (k := D.bk) (fun ρ5 e5 => by rw [q3] at e5; cases e5; exact h) ⟨ρ4, q3⟩
            | ct =>
              cases q3 : setU i ρ3 with
              | none => unfold endU at h; rw [q3] at h; exact h.elim
              | some ρ4 =>
                unfold endU at h; rw [q3] at h
                exact done (k := D.ct) (fun ρ5 e5 => by rw [q3] at e5; cases e5; exact h) ⟨ρ4, q3⟩
      · subst hb
        exact h G1 H1 σ1 (.ref C) od R1 S1 hE
theorem s_tryAs {X : Cx} {W : WX} {x n : Str} {c : Value} {body suite : List Stmt} {b₀ : Stmt} {np pos pos' : Pos} {m : Str → Option Bool} {fb : DEnv → Res Out} {fs : Exn → DEnv → Res Out} (i : Nat)
    (hs : X.stack = X.env :: X.outer) (hf : X.env.frame = some X.env.locals) (hN : X.N.Nodup) (hi : X.N[i]? = some n) (hln : X.env.kindOf n = some .local) (hc : Names X x c) (tk : Takes X W) (hm : Matches X.K X.mg c m)
    (hb : ∀ (W' : WX) (pn : List (Addr × Obj)) (xe : Value → Shared → Prop), Takes (X.tr pn xe) W' → PassesOwn (model X.prog X.w) X.A X.env xe → BJ (X.tr pn xe) W' body fb) (hu : UJ X i (b₀ :: suite) fs) :
    SJ X W (.Try body [.ExceptHandler (some (.Name x np)) (some n) (b₀ :: suite) pos'] [] [] pos) (sTryAs i m fb fs) :=
  ⟨_, ps_try_as (tb := fun W' => tBlk X.K X.mg W' fb) (ts := tSuite X.K X.mg i fs) hs hf hN hi hln hc tk (fun W' pn xe t1 t2 => pss_t (hb W' pn xe t1 t2)) (fun a oe cls d pn hz hv => suite_t hu a oe cls d pn hz hv), fun σ G H ρ D R h => try_read hm R h⟩
/-- isinstance(n, T) of the caught one -/
structure IsF (K : PySem.W.Frag) (mg : Str → Option Value) (D : Value) (q : Str → Option Bool) : Prop where
  ex : ∀ n b, q n = some b → ∀ C, mg n = some (.ref C) → ExcC K C ∧ PySem.W.kitOne K (.ref C) D = some b
structure UE (X : Cx) (i : Nat) (e : Expr) (f : Exn → DEnv → Res PyData) : Prop where
  ex : ∀ (a : Addr) (oe : Obj) (C : Addr) (od : Option Addr) (pn : List (Addr × Obj)), Zc (.ref C) od oe → (∃ vs, oe.data = .fields vs) →
    ∃ t : TE, PE (X.suite a ((a, oe) :: pn)) e t ∧ ∀ (σ : St) (G H : Hp) (ρ : DEnv) (Q : VK) (x : Exn), Rel X.K G σ H ρ → σ[i]? = some (some (.ref a)) → H a = none → ErrAt X.K X.mg G H x (.ref C) od →
      Post X.K X.mg W0 (Rp X.K) σ G H ρ Q (f x ρ) → t σ H Q
theorem u_ret {X : Cx} {i : Nat} {e : Expr} {f : Exn → DEnv → Res PyData} {pos : Pos} (h : UE X i e f) : UJ X i [.Return (some e) pos] (fun x => sRet (f x)) := by
  refine ⟨fun a oe C od pn hz hv => ?_⟩
  obtain ⟨t, q, p⟩ := h.ex a oe C od pn hz hv
  refine ⟨_, pss_one (ps_ret q), fun σ G H ρ D x R h1 h2 h3 hh => p σ G H ρ _ x R h1 h2 h3 (SPost.bind hh fun G1 H1 v d ρ1 R1 S1 hx h4 => h4 G1 H1 σ v R1 Stp.refl hx)⟩
end DL
set_option Elab.async false
set_option linter.all false
set_option maxRecDepth 100000
set_option maxHeartbeats 4000000
namespace DL
open PySem PySem.Spec PyProof.Rows L2
variable [Td]
/-- what enumerate walks, of a list or of a tuple -/
def enumsOf : PyData → Option (List PyData)
  | .list ds => some (numbered 0 ds)
  | .tuple ds => some (numbered 0 ds)
  | _ => none
def iEnumsD (f : DEnv → Res (List PyData)) : DEnv → Res (List PyData) := fun ρ => (f ρ).bind fun ds ρ1 => match ds with
  | [d] => Res.of (enumsOf d) ρ1
  | _ => .bad
theorem wp_ienums {Z : Exn → DEnv → Prop} (f : DEnv → Res (List PyData)) (ρ : DEnv) (L : List PyData → DEnv → Prop) : WpX Z (iEnumsD f ρ) L = WpX Z (f ρ) fun ds ρ1 => match ds with
    | [d] => WpX Z (Res.of (enumsOf d) ρ1) L
    | _ => False := by
  unfold iEnumsD
  rw [wp_bind]
  congr 1
  funext ds ρ1
  cases ds with
  | nil => exact wp_bad _
  | cons d r => cases r <;> first | rfl | exact wp_bad _
end DL
set_option Elab.async false
set_option linter.all false
set_option maxRecDepth 100000
set_option maxHeartbeats 4000000
namespace DL
open PySem PySem.Spec PyProof.Rows L2
variable [Td]
def oAddI : PyData → PyData → Option PyData
  | .int i, .int j => some (.int (i + j))
  | _, _ => none
def oSubI : PyData → PyData → Option PyData
  | .int i, .int j => some (.int (i - j))
  | _, _ => none
theorem oAddI_int (i j : Int) : oAddI (.int i) (.int j) = some (.int (i + j)) := rfl
theorem oSubI_int (i j : Int) : oSubI (.int i) (.int j) = some (.int (i - j)) := rfl
def augQ (K : PyData → Prop) (c : Option Cell) : Prop := match c with
  | some (.val d) => K d
  | _ => False
theorem augQ_val (K : PyData → Prop) (d : PyData) : augQ K (some (.val d)) = K d := rfl
theorem ws_aug {Z : Exn → DEnv → Prop} (i : Nat) (op : PyData → PyData → Option PyData) (f : DEnv → Res PyData) (ρ : DEnv) (S : Out → DEnv → Prop) : WpX Z (sAug i op f ρ) S = augQ (fun d => WpX Z (f ρ) fun e ρ1 => WpX Z (nxOf ((op d e).bind fun c => setV i c ρ1)) S) (ρ[i]?) := by
  unfold sAug
  cases ρ[i]? with
  | none => exact wp_bad _
  | some c =>
    cases c with
    | val d => exact wp_bind _ _ _
    | _ => exact wp_bad _
def insI (x : Int) : List Int → List Int
  | [] => [x]
  | y :: r => if x ≤ y then x :: y :: r else y :: insI x r
def sortI : List Int → List Int
  | [] => []
  | x :: r => insI x (sortI r)
def fSorted (f : DEnv → Res PyData) : DEnv → Res OD := fun ρ => (f ρ).bind fun d ρ1 => match d with
  | .list ds => match unInts ds with
    | some ns => .ok (.lst ((sortI ns).map .int)) ρ1
    | none => .bad
  | _ => .bad
def oInts (d : PyData) : Option (List Int) := match d with
  | .list ds => unInts ds
  | _ => none
theorem wp_sorted {Z : Exn → DEnv → Prop} (f : DEnv → Res PyData) (ρ : DEnv) (O : OD → DEnv → Prop) : WpX Z (fSorted f ρ) O = WpX Z (f ρ) fun d ρ1 => keyQ (fun ns => O (.lst ((sortI ns).map .int)) ρ1) (oInts d) := by
  unfold fSorted
  rw [wp_bind]
  congr 1
  funext d ρ1
  cases d with
  | list ds =>
    show WpX Z (match unInts ds with
      | some ns => .ok (.lst ((sortI ns).map .int)) ρ1
      | none => .bad) O = keyQ _ (unInts ds)
    cases unInts ds with
    | none => exact wp_bad _
    | some ns => exact wp_ok _ _ _
  | _ => exact wp_bad _
end DL
set_option Elab.async false
set_option linter.all false
set_option maxRecDepth 100000
set_option maxHeartbeats 4000000
namespace DL
open PySem PySem.Spec PyProof.Rows L2
variable [Td]
def tupCons : PyData → Bool
  | .tuple (_ :: _) => true
  | _ => false
def notNT : PyData → Bool
  | .none => false
  | .tuple _ => false
  | _ => true
def sortB (ds : List PyData) : Bool := (ds.all fun d => ds.all fun e => PySem.W.alike d e) && (ds.all tupCons || ds.all notNT) && (ds.all fun d => d.canLay0 && decide (d.depth ≤ 60))
def sortDs (ds : List PyData) : List PyData := ds.mergeSort (PySem.W.dataLe false fun d => d)
def fSortD (f : DEnv → Res PyData) : DEnv → Res OD := fun ρ => (f ρ).bind fun d ρ1 => match d with
  | .list ds => if sortB ds = true then .ok (.lst (sortDs ds)) ρ1 else .bad
  | _ => .bad
theorem wp_sortD {Z : Exn → DEnv → Prop} (f : DEnv → Res PyData) (ρ : DEnv) (O : OD → DEnv → Prop) : WpX Z (fSortD f ρ) O = WpX Z (f ρ) fun d ρ1 => match d with
    | .list ds => sortB ds = true ∧ O (.lst (sortDs ds)) ρ1
    | _ => False := by
  unfold fSortD
  rw [wp_bind]
  congr 1
  funext d ρ1
  cases d with
  | list ds => exact (wp_guard _ _).trans (congrArg _ (wp_ok _ _ _))
  | _ => exact wp_bad _
end DL
set_option Elab.async false
set_option linter.all false
set_option maxRecDepth 100000
set_option maxHeartbeats 4000000
namespace DL
open PySem PySem.Spec PyProof.Rows L2
variable [Td]
theorem wp_izip {Z : Exn → DEnv → Prop} (f : DEnv → Res (List PyData)) (ρ : DEnv) (L : List PyData → DEnv → Prop) : WpX Z (iZipD f ρ) L = WpX Z (f ρ) fun ds ρ1 => match ds with
    | [d, e] => WpX Z (Res.of (zipOf d e) ρ1) L
    | _ => False := by
  unfold iZipD
  rw [wp_bind]
  congr 1
  funext ds ρ1
  match ds with
  | [] => exact wp_bad _
  | [_] => exact wp_bad _
  | [_, _] => rfl
  | _ :: _ :: _ :: _ => exact wp_bad _
theorem isi_int_str (x : Str) : oIsi "int" (.str x) = some (.bool false) := by
  show (kitB "str" "int").map PyData.bool = _
  rw [show kitB "str" "int" = some false by decide +kernel]
  rfl
theorem isi_int_tup (xs : List PyData) : oIsi "int" (.tuple xs) = some (.bool false) := by
  show (kitB "tuple" "int").map PyData.bool = _
  rw [show kitB "tuple" "int" = some false by decide +kernel]
  rfl
theorem isi_tup_tup (xs : List PyData) : oIsi "tuple" (.tuple xs) = some (.bool true) := rfl
theorem isi_tup_int (i : Int) : oIsi "tuple" (.int i) = some (.bool false) := by
  show (kitB "int" "tuple").map PyData.bool = _
  rw [show kitB "int" "tuple" = some false by decide +kernel]
  rfl
theorem isi_tup_str (x : Str) : oIsi "tuple" (.str x) = some (.bool false) := by
  show (kitB "str" "tuple").map PyData.bool = _
  rw [show kitB "str" "tuple" = some false by decide +kernel]
  rfl
end DL
set_option Elab.async false
set_option linter.all false
set_option maxRecDepth 100000
set_option maxHeartbeats 4000000
namespace DL
open PySem PySem.Spec PyProof.Rows L2
variable [Td]
def oShl : PyData → PyData → Option PyData
  | .int i, .int j => if 0 ≤ j ∧ j ≤ 1000000 ∧ i.natAbs < 2 ^ 64 then some (.int (i * 2 ^ j.toNat)) else none
  | _, _ => none
def oShr : PyData → PyData → Option PyData
  | .int i, .int j => if 0 ≤ j then some (.int (i / 2 ^ j.toNat)) else none
  | _, _ => none
def oOr : PyData → PyData → Option PyData
  | .int i, .int j => some (.int (Builtin.bitOr i j))
  | _, _ => none
def oAnd : PyData → PyData → Option PyData
  | .int i, .int j => some (.int (Builtin.bitAnd i j))
  | _, _ => none
def oXor : PyData → PyData → Option PyData
  | .int i, .int j => some (.int (Builtin.bitXor i j))
  | _, _ => none
theorem oShl_int (i j : Int) : oShl (.int i) (.int j) = if 0 ≤ j ∧ j ≤ 1000000 ∧ i.natAbs < 2 ^ 64 then some (.int (i * 2 ^ j.toNat)) else none := rfl
theorem oShr_int (i j : Int) : oShr (.int i) (.int j) = if 0 ≤ j then some (.int (i / 2 ^ j.toNat)) else none := rfl
theorem oOr_int (i j : Int) : oOr (.int i) (.int j) = some (.int (Builtin.bitOr i j)) := rfl
theorem oAnd_int (i j : Int) : oAnd (.int i) (.int j) = some (.int (Builtin.bitAnd i j)) := rfl
theorem oXor_int (i j : Int) : oXor (.int i) (.int j) = some (.int (Builtin.bitXor i j)) := rfl
section
variable {X : Cx} {E : WX}
/-- x[e1] op= e2 -/
def sAugH (i : Nat) (op : PyData → PyData → Option PyData) (g f : DEnv → Res PyData) : DEnv → Res Out := fun ρ => if isHeld i ρ = true then (g ρ).bind fun k ρ1 => match heldL i ρ1, k with
  | some ds, .int k => match ds[k.toNat]? with
    | some old => if 0 ≤ k then (f ρ1).bind fun d ρ2 => match op old d, heldL i ρ2 with
      | some c, some ds2 => if k.toNat < ds2.length then .ok .nx (setHeld i (.lst (ds2.set k.toNat c)) ρ2) else .bad
      | _, _ => .bad else .bad
    | none => .bad
  | _, _ => .bad else .bad
end
def someQ {α : Type} (K : α → Prop) (o : Option α) : Prop := match o with
  | some a => K a
  | none => False
theorem someQ_some {α : Type} (K : α → Prop) (a : α) : someQ K (some a) = K a := rfl
theorem someQ_ite {α : Type} {c : Prop} [Decidable c] (K : α → Prop) (o : Option α) : someQ K (if c then o else none) = (c ∧ someQ K o) := by
  by_cases h : c
  · rw [if_pos h]; exact propext ⟨fun q => ⟨h, q⟩, fun q => q.2⟩
  · rw [if_neg h]; exact propext ⟨fun q => q.elim, fun q => absurd q.1 h⟩
theorem ws_augH {Z : Exn → DEnv → Prop} (i : Nat) (op : PyData → PyData → Option PyData) (g f : DEnv → Res PyData) (ρ : DEnv) (S : Out → DEnv → Prop) : WpX Z (sAugH i op g f ρ) S = (isHeld i ρ = true ∧ WpX Z (g ρ) (intQ fun k ρ1 => heldQ (fun ds => someQ (fun old => 0 ≤ k ∧ WpX Z (f ρ1) fun d ρ2 => someQ (fun c => heldQ (fun ds2 => k.toNat < ds2.length ∧ S .nx (setHeld i (.lst (ds2.set k.toNat c)) ρ2)) (heldL i ρ2)) (op old d)) (ds[k.toNat]?)) (heldL i ρ1))) := by
  unfold sAugH
  rw [wp_guard]
  congr 1
  rw [wp_bind]
  congr 1
  funext k ρ1
  cases k with
  | int k =>
    show WpX Z (match heldL i ρ1, PyData.int k with | some ds, .int k => _ | _, _ => _) S = heldQ _ (heldL i ρ1)
    cases heldL i ρ1 with
    | none => exact wp_bad _
    | some ds =>
      show WpX Z (match ds[k.toNat]? with | some old => _ | none => _) S = someQ _ (ds[k.toNat]?)
      cases ds[k.toNat]? with
      | none => exact wp_bad _
      | some old =>
        show WpX Z (if 0 ≤ k then _ else .bad) S = _
        rw [wp_guard, someQ_some, wp_bind]
        congr 1
        congr 1
        funext d ρ2
        cases op old d with
        | none => exact wp_bad _
        | some c =>
          cases heldL i ρ2 with
          | none => exact wp_bad _
          | some ds2 =>
            show WpX Z (if k.toNat < ds2.length then Res.ok Out.nx _ else .bad) S = _
            rw [wp_guard, wp_ok]; rfl
  | _ => cases heldL i ρ1 <;> exact wp_bad _
/-- [..] * n: a new list that is held -/
def repOf (d e : PyData) : Option (List PyData) := match d, e with
  | .list xs, .int j => if -(2 ^ 63) ≤ j ∧ j < 2 ^ 63 ∧ xs.length * j.toNat ≤ sizeLine then some (List.replicate j.toNat xs).flatten else none
  | _, _ => none
theorem repOf_int (xs : List PyData) (j : Int) : repOf (.list xs) (.int j) = if -(2 ^ 63) ≤ j ∧ j < 2 ^ 63 ∧ xs.length * j.toNat ≤ sizeLine then some (List.replicate j.toNat xs).flatten else none := rfl
def fRep (f g : DEnv → Res PyData) : DEnv → Res OD := fun ρ => (f ρ).bind fun d ρ1 => (g ρ1).bind fun e ρ2 => match repOf d e with
  | some xs => .ok (.lst xs) ρ2
  | none => .bad
theorem wp_rep {Z : Exn → DEnv → Prop} (f g : DEnv → Res PyData) (ρ : DEnv) (O : OD → DEnv → Prop) : WpX Z (fRep f g ρ) O = WpX Z (f ρ) fun d ρ1 => WpX Z (g ρ1) fun e ρ2 => someQ (fun xs => O (.lst xs) ρ2) (repOf d e) := by
  unfold fRep
  rw [wp_bind]
  congr 1
  funext d ρ1
  rw [wp_bind]
  congr 1
  funext e ρ2
  cases repOf d e with
  | none => exact wp_bad _
  | some xs => exact wp_ok _ _ _
theorem isi_lst_lst (xs : List PyData) : oIsi "list" (.list xs) = some (.bool true) := rfl
end DL
set_option Elab.async false
set_option linter.all false
set_option maxRecDepth 100000
set_option maxHeartbeats 4000000
namespace DL
open PySem PySem.Spec PyProof.Rows L2
end DL
set_option Elab.async false
set_option linter.all false
set_option maxRecDepth 100000
set_option maxHeartbeats 4000000
namespace DL
open PySem PySem.Spec PyProof.Rows L2
variable [Td]
def dedup : List Int → List Int
  | [] => []
  | x :: l => if x ∈ dedup l then dedup l else x :: dedup l
def sortSet (ns : List Int) : List Int := sortI (dedup ns)
def fSortSet (f : DEnv → Res PyData) : DEnv → Res OD := fun ρ => (f ρ).bind fun d ρ1 => match d with
  | .tuple ds => match unInts ds with
    | some ns => if ns.length < 64 then .ok (.lst ((sortSet ns).map .int)) ρ1 else .bad
    | none => .bad
  | _ => .bad
def oTupInts (d : PyData) : Option (List Int) := match d with
  | .tuple ds => unInts ds
  | _ => none
theorem wp_sortSet {Z : Exn → DEnv → Prop} (f : DEnv → Res PyData) (ρ : DEnv) (O : OD → DEnv → Prop) : WpX Z (fSortSet f ρ) O = WpX Z (f ρ) fun d ρ1 => keyQ (fun ns => ns.length < 64 ∧ O (.lst ((sortSet ns).map .int)) ρ1) (oTupInts d) := by
  unfold fSortSet
  rw [wp_bind]
  congr 1
  funext d ρ1
  cases d with
  | tuple ds =>
    show WpX Z (match unInts ds with
      | some ns => if ns.length < 64 then .ok (.lst ((sortSet ns).map .int)) ρ1 else .bad
      | none => .bad) O = keyQ _ (unInts ds)
    cases unInts ds with
    | none => exact wp_bad _
    | some ns => exact (wp_guard _ _).trans (congrArg _ (wp_ok _ _ _))
  | _ => exact wp_bad _
mutual
def keepD : PyData → Bool
  | .none => true
  | .bool _ => true
  | .int _ => true
  | .str _ => true
  | .tuple ds => keepAll ds
  | _ => false
def keepAll : List PyData → Bool
  | [] => true
  | d :: ds => keepD d && keepAll ds
end
theorem rd_keep {G G' : Hp} {a q : Addr} {xs ys : List V} (hq : G q = some (.lst ys)) (hk : ∀ b u, G b = some u → b ≠ q → G' b = some u) (h : Rd G a (.tup xs)) : Rd G' a (.tup xs) := by
  rcases h with h | ⟨o, h⟩
  · exact .inl (hk _ _ h fun z => by rw [z, hq] at h; cases h)
  · exact .inr ⟨o, hk _ _ h fun z => by rw [z, hq] at h; cases h⟩
mutual
theorem Rp.keep {K : PySem.W.Frag} {G G' : Hp} {q : Addr} {ys : List V} (hq : G q = some (.lst ys)) (hk : ∀ b u, G b = some u → b ≠ q → G' b = some u) : ∀ {v : V} {d : PyData}, Rp K G v d → keepD d = true → Rp K G' v d
  | _, _, .non, _ => .non
  | _, _, .bl b, _ => .bl b
  | _, _, .int i, _ => .int i
  | _, _, .str x, _ => .str x
  | _, _, .lst h a, c => nomatch (show false = true from c)
  | _, _, .tup h a, c => .tup (h.elim (fun z => .inl (rd_keep hq hk z)) .inr) (RpAll.keep hq hk a c)
  | _, _, .scr h, c => nomatch (show false = true from c)
theorem RpAll.keep {K : PySem.W.Frag} {G G' : Hp} {q : Addr} {ys : List V} (hq : G q = some (.lst ys)) (hk : ∀ b u, G b = some u → b ≠ q → G' b = some u) : ∀ {vs : List V} {ds : List PyData}, RpAll K G vs ds → keepAll ds = true → RpAll K G' vs ds
  | _, _, .nil, _ => .nil
  | _, _, .cons h t, c => by
    have c' : (keepD _ && keepAll _) = true := c
    exact .cons (Rp.keep hq hk h (Bool.and_eq_true_iff.mp c').1) (RpAll.keep hq hk t (Bool.and_eq_true_iff.mp c').2)
end
end DL
set_option Elab.async false
set_option linter.all false
set_option maxRecDepth 100000
set_option maxHeartbeats 4000000
namespace DL
open PySem PySem.Spec PyProof.Rows L2
variable [Td]
def dcL (vs : List Nat) (gd : PyData → DEnv → Option DEnv) (ft : DEnv → Res Bool) (fk fv : DEnv → Res PyData) : List PyData → List (Key × PyData) → DEnv → Res (List (Key × PyData))
  | [], acc, ρ => .ok acc ρ
  | d :: ds, acc, ρ => match gd d ρ with
    | none => .bad
    | some ρ1 => match ft ρ1 with
      | .ok true ρ2 => match fk ρ2 with
        | .ok kd ρ3 => match fv ρ3 with
          | .ok y ρ4 => match keyD kd with
            | some k => if acc.length < sizeLine then dcL vs gd ft fk fv ds (putD acc k y) (wipeC ρ4 vs) else .bad
            | none => .bad
          | _ => .bad
        | _ => .bad
      | .ok false ρ2 => dcL vs gd ft fk fv ds acc (wipeC ρ2 vs)
      | _ => .bad
def fDc (vs : List Nat) (fi : DEnv → Res (List PyData)) (gd : PyData → DEnv → Option DEnv) (ft : DEnv → Res Bool) (fk fv : DEnv → Res PyData) : DEnv → Res OD := fun ρ => (fi ρ).bind fun ds ρ1 => match dcL vs gd ft fk fv ds [] (wipeC ρ1 vs) with
  | .ok acc ρ2 => .ok (.dk acc) (unwipe vs ρ1 ρ2)
  | _ => .bad
section
variable {X : Cx} {E : WX} {e tg iter kx vx : Expr} {ifs : List Expr} {scope : Scope} {fk fv : DEnv → Res PyData} {ft : DEnv → Res Bool} {fi : DEnv → Res (List PyData)} {gd : PyData → DEnv → Option DEnv} {pos : Pos} {vs is : List Nat}
def fKeys (f : DEnv → Res OD) : DEnv → Res OD := fun ρ => (f ρ).bind fun o ρ1 => match o with
  | .dk kvs => .ok (.lst (kvs.map fun kv => keyDat kv.1)) ρ1
  | _ => .bad
def dInK (neg : Bool) (i : Nat) (f : DEnv → Res PyData) : DEnv → Res PyData := fun ρ => (f ρ).bind fun y ρ1 => match hobj i ρ1 with
  | some (.dk kvs) => match keyD y with
    | some k => .ok (.bool (if neg then !(valD kvs k).isSome else (valD kvs k).isSome)) ρ1
    | none => .bad
  | _ => .bad
def dLenK (i : Nat) : DEnv → Res PyData := fun ρ => match hobj i ρ with
  | some (.dk kvs) => .ok (.int (kvs.length : Nat)) ρ
  | _ => .bad
def sExt (i : Nat) (f : DEnv → Res OD) : DEnv → Res Out := fun ρ => if isHeld i ρ = true then (f ρ).bind fun o ρ1 => match heldL i ρ1, o with
  | some ds, .lst es => if ds.length + es.length ≤ sizeLine then .ok .nx (setHeld i (.lst (ds ++ es)) ρ1) else .bad
  | _, _ => .bad else .bad
end
section
variable {Z : Exn → DEnv → Prop} (ρ : DEnv) (Q : PyData → DEnv → Prop) (S : Out → DEnv → Prop) (O : OD → DEnv → Prop)
theorem wp_dc (vs : List Nat) (fi : DEnv → Res (List PyData)) (gd : PyData → DEnv → Option DEnv) (ft : DEnv → Res Bool) (fk fv : DEnv → Res PyData) : WpX Z (fDc vs fi gd ft fk fv ρ) O = WpX Z (fi ρ) fun ds ρ1 => WpX Zn (dcL vs gd ft fk fv ds [] (wipeC ρ1 vs)) fun acc ρ2 => O (.dk acc) (unwipe vs ρ1 ρ2) := by
  unfold fDc
  rw [wp_bind]
  congr 1
  funext ds ρ1
  cases dcL vs gd ft fk fv ds [] (wipeC ρ1 vs) with
  | ok a ρ2 => rw [wp_ok, wp_ok]
  | err x c => rw [wpq]; rfl
  | bad => rw [wpq]; rfl
theorem wp_keys (f : DEnv → Res OD) : WpX Z (fKeys f ρ) O = WpX Z (f ρ) fun o ρ1 => dkQ (fun kvs => O (.lst (kvs.map fun kv => keyDat kv.1)) ρ1) (some o) := by
  unfold fKeys
  rw [wp_bind]
  congr 1
  funext o ρ1
  cases o with
  | dk kvs => exact wp_ok _ _ _
  | _ => exact wp_bad _
theorem wp_inK (neg : Bool) (i : Nat) (f : DEnv → Res PyData) : WpX Z (dInK neg i f ρ) Q = WpX Z (f ρ) fun y ρ1 => dkQ (fun kvs => keyQ (fun k => Q (.bool (if neg then !(valD kvs k).isSome else (valD kvs k).isSome)) ρ1) (keyD y)) (hobj i ρ1) := by
  unfold dInK
  rw [wp_bind]
  congr 1
  funext y ρ1
  cases hobj i ρ1 with
  | none => exact wp_bad _
  | some o =>
    cases o with
    | dk kvs =>
      show WpX Z (match keyD y with
        | some k => .ok (.bool (if neg then !(valD kvs k).isSome else (valD kvs k).isSome)) ρ1
        | none => .bad) Q = keyQ _ (keyD y)
      cases keyD y with
      | none => exact wp_bad _
      | some k => exact wp_ok _ _ _
    | _ => exact wp_bad _
theorem wp_lenK (i : Nat) : WpX Z (dLenK i ρ) Q = dkQ (fun kvs => Q (.int (kvs.length : Nat)) ρ) (hobj i ρ) := by
  unfold dLenK
  cases hobj i ρ with
  | none => exact wp_bad _
  | some o =>
    cases o with
    | dk kvs => exact wp_ok _ _ _
    | _ => exact wp_bad _
def lstQ (K : List PyData → Prop) : OD → Prop
  | .lst es => K es
  | _ => False
theorem lstQ_lst (K : List PyData → Prop) (es : List PyData) : lstQ K (.lst es) = K es := rfl
theorem ws_ext (i : Nat) (f : DEnv → Res OD) : WpX Z (sExt i f ρ) S = (isHeld i ρ = true ∧ WpX Z (f ρ) fun o ρ1 => heldQ (fun ds => lstQ (fun es => ds.length + es.length ≤ sizeLine ∧ S .nx (setHeld i (.lst (ds ++ es)) ρ1)) o) (heldL i ρ1)) := by
  unfold sExt
  rw [wp_guard, wp_bind]
  congr 1
  congr 1
  funext o ρ1
  cases heldL i ρ1 with
  | none => exact wp_bad _
  | some ds =>
    cases o with
    | lst es => exact (wp_guard _ _).trans (congrArg _ (wp_ok _ _ _))
    | _ => exact wp_bad _
end
end DL
set_option Elab.async false
set_option linter.all false
set_option maxRecDepth 100000
set_option maxHeartbeats 4000000
namespace DL
open PySem PySem.Spec PyProof.Rows L2
variable [Td]
def lcH (i : Nat) (vs : List Nat) (gd : PyData → DEnv → Option DEnv) (ft : DEnv → Res Bool) (fe : DEnv → Res PyData) : Nat → Nat → List PyData → DEnv → Res (List PyData)
  | 0, _, _, _ => .bad
  | n + 1, j, acc, ρ => match heldL i ρ with
    | none => .bad
    | some ds => match ds[j]? with
      | none => .ok acc ρ
      | some d => match gd d ρ with
        | none => .bad
        | some ρ1 => match ft ρ1 with
          | .ok true ρ2 => match fe ρ2 with
            | .ok y ρ3 => if acc.length < sizeLine then lcH i vs gd ft fe n (j + 1) (acc ++ [y]) (wipeC ρ3 vs) else .bad
            | _ => .bad
          | .ok false ρ2 => lcH i vs gd ft fe n (j + 1) acc (wipeC ρ2 vs)
          | _ => .bad
def fLcH (i : Nat) (vs : List Nat) (gd : PyData → DEnv → Option DEnv) (ft : DEnv → Res Bool) (fe : DEnv → Res PyData) : DEnv → Res OD := fun ρ => if isHeld i ρ = true then match lcH i vs gd ft fe (sizeLine + 1) 0 [] (wipeC ρ vs) with
  | .ok acc ρ2 => .ok (.lst acc) (unwipe vs ρ ρ2)
  | _ => .bad else .bad
theorem wp_fLcH {Z : Exn → DEnv → Prop} (ρ : DEnv) (O : OD → DEnv → Prop) (i : Nat) (vs : List Nat) (gd : PyData → DEnv → Option DEnv) (ft : DEnv → Res Bool) (fe : DEnv → Res PyData) : WpX Z (fLcH i vs gd ft fe ρ) O = (isHeld i ρ = true ∧ WpX Zn (lcH i vs gd ft fe (sizeLine + 1) 0 [] (wipeC ρ vs)) fun acc ρ2 => O (.lst acc) (unwipe vs ρ ρ2)) := by
  unfold fLcH
  rw [wp_guard]
  congr 1
  cases lcH i vs gd ft fe (sizeLine + 1) 0 [] (wipeC ρ vs) with
  | ok a ρ2 => rw [wp_ok, wp_ok]
  | err x c => rw [wpq]; rfl
  | bad => rw [wpq]; rfl
end DL
set_option Elab.async false
set_option linter.all false
set_option maxRecDepth 100000
set_option maxHeartbeats 4000000
namespace DL
open PySem PySem.Spec PyProof.Rows L2
variable [Td]
section
variable {K : PySem.W.Frag} {mg : Str → Option Value} {E : WX}
def tI (K : PySem.W.Frag) (mg : Str → Option Value) (f : DEnv → Res (List PyData)) : TI := fun σ H R => ∃ G ρ, Rel K G σ H ρ ∧ IPost K mg W0 σ G H ρ R (f ρ)
theorem pi_t {X : Cx} {tg iter : Expr} {f : DEnv → Res (List PyData)} (h : IJ X W0 tg iter f) : PI X tg iter (tI X.K X.mg f) := by
  obtain ⟨t, q, p⟩ := h
  exact ⟨fun pins s σ H R I ⟨G, ρ, Rr, h⟩ => q.run pins s σ H R I (p σ G H ρ R Rr h)⟩
end
def lc2 (vs vs1 : List Nat) (gd : PyData → DEnv → Option DEnv) (ft : DEnv → Res Bool) (fi1 : DEnv → Res (List PyData)) (gd1 : PyData → DEnv → Option DEnv) (ft1 : DEnv → Res Bool) (fe : DEnv → Res PyData) : List PyData → List PyData → DEnv → Res (List PyData)
  | [], acc, ρ => .ok acc ρ
  | d :: ds, acc, ρ => match gd d ρ with
    | none => .bad
    | some ρ1 => match ft ρ1 with
      | .ok true ρ2 => match fi1 ρ2 with
        | .ok ds1 ρ3 => match lcL vs1 gd1 ft1 fe ds1 acc (wipeC ρ3 vs1) with
          | .ok acc' ρ4 => lc2 vs vs1 gd ft fi1 gd1 ft1 fe ds acc' (wipeC ρ4 vs)
          | _ => .bad
        | _ => .bad
      | .ok false ρ2 => lc2 vs vs1 gd ft fi1 gd1 ft1 fe ds acc (wipeC ρ2 vs)
      | _ => .bad
def fLc2 (vs vs1 : List Nat) (fi : DEnv → Res (List PyData)) (gd : PyData → DEnv → Option DEnv) (ft : DEnv → Res Bool) (fi1 : DEnv → Res (List PyData)) (gd1 : PyData → DEnv → Option DEnv) (ft1 : DEnv → Res Bool) (fe : DEnv → Res PyData) : DEnv → Res OD := fun ρ => (fi ρ).bind fun ds ρ1 =>
  match lc2 vs vs1 gd ft fi1 gd1 ft1 fe ds [] (wipeC ρ1 vs) with
  | .ok acc ρ2 => .ok (.lst acc) (unwipe vs ρ1 ρ2)
  | _ => .bad
section
variable {Z : Exn → DEnv → Prop} {ρ : DEnv} {O : OD → DEnv → Prop} {vs vs1 : List Nat} {fi1 : DEnv → Res (List PyData)} {gd gd1 : PyData → DEnv → Option DEnv} {ft ft1 : DEnv → Res Bool} {fe : DEnv → Res PyData}
theorem wp_fLc2 (fi : DEnv → Res (List PyData)) : WpX Z (fLc2 vs vs1 fi gd ft fi1 gd1 ft1 fe ρ) O = WpX Z (fi ρ) fun ds ρ1 => WpX Zn (lc2 vs vs1 gd ft fi1 gd1 ft1 fe ds [] (wipeC ρ1 vs)) fun acc ρ2 => O (.lst acc) (unwipe vs ρ1 ρ2) := by
  unfold fLc2
  rw [wp_bind]
  congr 1
  funext ds ρ1
  cases lc2 vs vs1 gd ft fi1 gd1 ft1 fe ds [] (wipeC ρ1 vs) with
  | ok a ρ2 => rw [wp_ok, wp_ok]
  | err x c => rw [wpq]; rfl
  | bad => rw [wpq]; rfl
end
end DL
set_option Elab.async false
set_option linter.all false
set_option maxRecDepth 100000
set_option maxHeartbeats 4000000
namespace DL
open PySem PySem.Spec PyProof.Rows L2
variable [Td]
/-- every item of the list is a tuple of whole numbers -/
def TupRows (h : Heap) (vs : List Value) (rows : List (List Int)) : Prop := ∀ (i : Nat) (v : Value), vs[i]? = some v → ∃ a its, v = .ref a ∧ IsTup h a its ∧ IntsAre its.toList (rows.getD i [])
theorem TupRows.mono {h h' : Heap} {vs : List Value} {rows : List (List Int)} (T : TupRows h vs rows) (k : ∀ b o, h.get? b = some o → h'.get? b = some o) : TupRows h' vs rows := fun i v e => by
  obtain ⟨a, its, e1, ⟨o, q1, q2⟩, e3⟩ := T i v e
  exact ⟨a, its, e1, ⟨o, k _ _ q1, q2⟩, e3⟩
end DL
set_option Elab.async false
set_option linter.all false
set_option maxRecDepth 100000
set_option maxHeartbeats 4000000
namespace DL
open PySem PySem.Spec PyProof.Rows L2
variable [Td]
def frzKO (c : Option Cell) (i : Nat) (ρ : DEnv) : DEnv := match c with
  | some (.own (.dk kvs)) => ρ.set i (.val (dkD kvs))
  | _ => ρ
def sFrzK (i : Nat) (f : DEnv → Res Out) : DEnv → Res Out := fun ρ => f (frzKO ρ[i]? i ρ)
def unps : List (PyData × PyData) → Option (List (Key × PyData))
  | [] => some []
  | (k, d) :: r => match keyD k with
    | some k => (unps r).map ((k, d) :: ·)
    | none => none
def undk : PyData → Option (List (Key × PyData))
  | .dict ((.bool true, .none) :: ps) => unps ps
  | _ => none
theorem unps_dk : ∀ kvs : List (Key × PyData), unps (kvs.map fun kv => (keyDat kv.1, kv.2)) = some kvs
  | [] => rfl
  | (.inl i, d) :: kvs => by
    show (unps (kvs.map fun kv => (keyDat kv.1, kv.2))).map ((.inl i, d) :: ·) = _
    rw [unps_dk kvs]; rfl
  | (.inr i, d) :: kvs => by
    show (unps (kvs.map fun kv => (keyDat kv.1, kv.2))).map ((.inr i, d) :: ·) = _
    rw [unps_dk kvs]; rfl
theorem undk_dk (kvs : List (Key × PyData)) : undk (dkD kvs) = some kvs := unps_dk kvs
def dKGet (i : Nat) (f : DEnv → Res PyData) : DEnv → Res PyData := fun ρ => match ρ[i]? with
  | some (.val _) => (f ρ).bind fun k ρ1 => match ρ1[i]? with
    | some (.val d) => Res.of ((undk d).bind fun kvs => (keyD k).bind fun k => valD kvs k) ρ1
    | _ => .bad
  | _ => .bad
section
variable {Z : Exn → DEnv → Prop} {ρ : DEnv} {Q : PyData → DEnv → Prop} {S : Out → DEnv → Prop}
theorem ws_frzK (i : Nat) (f : DEnv → Res Out) : WpX Z (sFrzK i f ρ) S = WpX Z (f (frzKO ρ[i]? i ρ)) S := rfl
theorem frzKO_own (kvs : List (Key × PyData)) (i : Nat) (ρ : DEnv) : frzKO (some (.own (.dk kvs))) i ρ = ρ.set i (.val (dkD kvs)) := rfl
theorem frzKO_val (d : PyData) (i : Nat) (ρ : DEnv) : frzKO (some (.val d)) i ρ = ρ := rfl
theorem wp_kget (i : Nat) (f : DEnv → Res PyData) : WpX Z (dKGet i f ρ) Q = cellQ (fun _ _ => WpX Z (f ρ) fun k ρ1 => cellQ (fun d ρ1 => WpX Z (Res.of ((undk d).bind fun kvs => (keyD k).bind fun k => valD kvs k) ρ1) Q) ρ1[i]? ρ1) ρ[i]? ρ := by
  unfold dKGet
  cases ρ[i]? with
  | none => exact wp_bad _
  | some c =>
    cases c with
    | val d =>
      show WpX Z ((f ρ).bind _) Q = WpX Z (f ρ) _
      rw [wp_bind]
      congr 1
      funext k ρ1
      cases ρ1[i]? with
      | none => exact wp_bad _
      | some c => cases c <;> first | rfl | exact wp_bad _
    | _ => exact wp_bad _
end
end DL
set_option Elab.async false
set_option linter.all false
set_option maxRecDepth 100000
set_option maxHeartbeats 4000000
namespace DL
open PySem PySem.Spec PyProof.Rows L2
end DL
set_option Elab.async false
set_option linter.all false
set_option maxRecDepth 100000
set_option maxHeartbeats 4000000
namespace DL
open PySem PySem.Spec PyProof.Rows L2
variable [Td]
def putP (f : Str) (d : PyData) : List (Str × PyData) → List (Str × PyData)
  | [] => [(f, d)]
  | p :: r => if p.1 = f then (p.1, d) :: r else p :: putP f d r
def getP (f : Str) : List (Str × PyData) → Option PyData
  | [] => none
  | p :: r => if p.1 = f then some p.2 else getP f r
/-- b.f -/
def dFld (c : Str) (i : Nat) (f : Str) : DEnv → Res PyData := fun ρ => match hobj i ρ with
  | some (.ins c' fs) => if c' = c then Res.of (getP f fs) ρ else .bad
  | _ => .bad
/-- b.f = e -/
def sFSet (c : Str) (i : Nat) (f : Str) (fa : DEnv → Res PyData) : DEnv → Res Out := fun ρ => (fa ρ).bind fun d ρ1 => match hobj i ρ1 with
  | some (.ins c' fs) => if c' = c ∧ fs.length < 1000 then .ok .nx (setHeld i (.ins c (putP f d fs)) ρ1) else .bad
  | _ => .bad
/-- b.m(es) -/
def insOk (c m : Str) (o : Option OD) : Bool := match o with
  | some (.ins c' fs) => decide (c' = c) && (getP m fs).isNone
  | _ => false
def dMeth (c m : Str) (den : DEnv → Res PyData) (i : Nat) (fs : DEnv → Res (List PyData)) : DEnv → Res PyData := fun ρ => if insOk c m (hobj i ρ) = true then dCallI den i fs ρ else .bad
/-- C(es) -/
def fMake (c : Str) (den : DEnv → Res PyData) (fs : DEnv → Res (List PyData)) : DEnv → Res OD := fun ρ => (fs ρ).bind fun ds ρ1 => match den (.io (.ins c []) :: ds.map .val) with
  | .ok .none (.io o' :: _) => .ok o' ρ1
  | _ => .bad
def insQ (K : Str → List (Str × PyData) → Prop) (o : Option OD) : Prop := match o with
  | some (.ins c fs) => K c fs
  | _ => False
theorem insQ_ins (K : Str → List (Str × PyData) → Prop) (c : Str) (fs : List (Str × PyData)) : insQ K (some (.ins c fs)) = K c fs := rfl
section
variable {Z : Exn → DEnv → Prop} (ρ : DEnv) (Q : PyData → DEnv → Prop) (S : Out → DEnv → Prop) (O : OD → DEnv → Prop)
theorem wp_fld (c : Str) (i : Nat) (f : Str) : WpX Z (dFld c i f ρ) Q = insQ (fun c' fs => c' = c ∧ WpX Z (Res.of (getP f fs) ρ) Q) (hobj i ρ) := by
  unfold dFld
  cases hobj i ρ with
  | none => exact wp_bad _
  | some o =>
    cases o with
    | ins c' fs => exact wp_guard _ _
    | _ => exact wp_bad _
theorem ws_fset (c : Str) (i : Nat) (f : Str) (fa : DEnv → Res PyData) : WpX Z (sFSet c i f fa ρ) S = WpX Z (fa ρ) fun d ρ1 => insQ (fun c' fs => (c' = c ∧ fs.length < 1000) ∧ S .nx (setHeld i (.ins c (putP f d fs)) ρ1)) (hobj i ρ1) := by
  unfold sFSet
  rw [wp_bind]
  congr 1
  funext d ρ1
  cases hobj i ρ1 with
  | none => exact wp_bad _
  | some o =>
    cases o with
    | ins c' fs => exact (wp_guard _ _).trans (congrArg _ (wp_ok _ _ _))
    | _ => exact wp_bad _
theorem wp_meth (c m : Str) (den : DEnv → Res PyData) (i : Nat) (fs : DEnv → Res (List PyData)) : WpX Z (dMeth c m den i fs ρ) Q = (insOk c m (hobj i ρ) = true ∧ WpX Z (dCallI den i fs ρ) Q) := by
  unfold dMeth
  exact wp_guard _ _
def mkQ (O : OD → Prop) (d : PyData) (cs : DEnv) : Prop := match d, cs with
  | .none, .io o :: _ => O o
  | _, _ => False
theorem mkQ_io (O : OD → Prop) (o : OD) (cs : DEnv) : mkQ O .none (.io o :: cs) = O o := rfl
theorem wp_make (c : Str) (den : DEnv → Res PyData) (fs : DEnv → Res (List PyData)) : WpX Z (fMake c den fs ρ) O = WpX Z (fs ρ) fun ds ρ1 => WpX Zn (den (.io (.ins c []) :: ds.map .val)) (mkQ fun o => O o ρ1) := by
  unfold fMake
  rw [wp_bind]
  congr 1
  funext ds ρ1
  cases den (.io (.ins c []) :: ds.map .val) with
  | bad => exact (wp_bad _).trans (wp_bad _).symm
  | err x c => exact (wp_bad _).trans (propext ⟨False.elim, fun h => h.out.elim⟩)
  | ok d cs =>
    refine Eq.trans ?_ (wp_ok d cs (mkQ fun o => O o ρ1)).symm
    cases d with
    | none =>
      cases cs with
      | nil => exact wp_bad _
      | cons c0 cs =>
        cases c0 with
        | io o => exact wp_ok _ _ _
        | _ => exact wp_bad _
    | _ => exact wp_bad _
end
end DL
set_option Elab.async false
set_option linter.all false
set_option maxRecDepth 100000
set_option maxHeartbeats 4000000
namespace DL
open PySem PySem.Spec PyProof.Rows L2
variable [Td]
def dRev (f : DEnv → Res PyData) : DEnv → Res PyData := fun ρ => (f ρ).bind fun d ρ1 => match d with
  | .list ds => .ok (.list ds.reverse) ρ1
  | _ => .bad
def sortDr (ds : List PyData) : List PyData := ds.mergeSort (PySem.W.dataLe true fun d => d)
def fSortDr (f : DEnv → Res PyData) : DEnv → Res OD := fun ρ => (f ρ).bind fun d ρ1 => match d with
  | .list ds => if sortB ds = true then .ok (.lst (sortDr ds)) ρ1 else .bad
  | _ => .bad
end DL
set_option Elab.async false
set_option linter.all false
set_option maxRecDepth 100000
set_option maxHeartbeats 4000000
namespace DL
open PySem PySem.Spec PyProof.Rows L2
variable [Td]
/-- n - 1, .., 0 -/
def revD (n : Nat) : List PyData := (List.range n).map fun i => .int ((n : Int) - 1 - (i : Nat))
section
variable {X : Cx} {E : WX} {tg a : Expr} {fa : DEnv → Res PyData} {pos pos2 pos3 p p2 p3 : Pos}
def revOf : PyData → Option (List PyData)
  | .int j => if 0 ≤ j ∧ j ≤ 16777216 then some (revD j.toNat) else none
  | _ => none
/-- list(reversed(range(a))) -/
def fLstRev (f : DEnv → Res PyData) : DEnv → Res OD := fun ρ => (f ρ).bind fun d ρ1 => match revOf d with
  | some ds => .ok (.lst ds) ρ1
  | none => .bad
def iRevRg (f : DEnv → Res PyData) : DEnv → Res (List PyData) := fun ρ => (f ρ).bind fun d ρ1 => Res.of (revOf d) ρ1
variable {Z : Exn → DEnv → Prop} (ρ : DEnv) (Q : PyData → DEnv → Prop) (O : OD → DEnv → Prop) (L : List PyData → DEnv → Prop)
def rlQ (K : List PyData → Prop) (d : PyData) : Prop := match d with
  | .list ds => K ds
  | _ => False
theorem rlQ_list (K : List PyData → Prop) (ds : List PyData) : rlQ K (.list ds) = K ds := rfl
theorem wp_rev (f : DEnv → Res PyData) : WpX Z (dRev f ρ) Q = WpX Z (f ρ) fun d ρ1 => rlQ (fun ds => Q (.list ds.reverse) ρ1) d := by
  unfold dRev
  rw [wp_bind]
  congr 1
  funext d ρ1
  cases d with
  | list ds => exact wp_ok _ _ _
  | _ => exact wp_bad _
theorem wp_sortDr (f : DEnv → Res PyData) : WpX Z (fSortDr f ρ) O = WpX Z (f ρ) fun d ρ1 => rlQ (fun ds => sortB ds = true ∧ O (.lst (sortDr ds)) ρ1) d := by
  unfold fSortDr
  rw [wp_bind]
  congr 1
  funext d ρ1
  cases d with
  | list ds => exact (wp_guard _ _).trans (congrArg _ (wp_ok _ _ _))
  | _ => exact wp_bad _
def roQ (K : List PyData → Prop) (o : Option (List PyData)) : Prop := match o with
  | some ds => K ds
  | none => False
theorem roQ_some (K : List PyData → Prop) (ds : List PyData) : roQ K (some ds) = K ds := rfl
theorem wp_lstRev (f : DEnv → Res PyData) : WpX Z (fLstRev f ρ) O = WpX Z (f ρ) fun d ρ1 => roQ (fun ds => O (.lst ds) ρ1) (revOf d) := by
  unfold fLstRev
  rw [wp_bind]
  congr 1
  funext d ρ1
  cases revOf d with
  | none => exact wp_bad _
  | some ds => exact wp_ok _ _ _
theorem wp_irevRg (f : DEnv → Res PyData) : WpX Z (iRevRg f ρ) L = WpX Z (f ρ) fun d ρ1 => roQ (fun ds => L ds ρ1) (revOf d) := by
  unfold iRevRg
  rw [wp_bind]
  congr 1
  funext d ρ1
  cases revOf d with
  | none => exact wp_bad _
  | some ds => exact wp_ok _ _ _
end
end DL
set_option Elab.async false
set_option linter.all false
set_option maxRecDepth 100000
set_option maxHeartbeats 4000000
namespace DL
open PySem PySem.Spec PyProof.Rows L2
end DL
set_option Elab.async false
set_option linter.all false
set_option maxRecDepth 100000
namespace DL
open PySem PySem.Spec PyProof PyProof.Rows L2
end DL
set_option Elab.async false
set_option linter.all false
set_option maxRecDepth 100000
set_option maxHeartbeats 4000000
namespace DL
open PySem PySem.Spec PyProof PyProof.Rows L2
end DL
set_option Elab.async false
set_option linter.all false
set_option maxRecDepth 100000
set_option maxHeartbeats 4000000
namespace DL
open PySem PySem.Spec PyProof PyProof.Rows L2
abbrev KRow := NestedKey × Value × Value
def entX (w : World) (x : KRow) : DictEntry := ⟨x.1.hash w, x.2.1, x.2.2⟩
structure XRows (w : World) (h : Heap) (es : Array DictEntry) (xs : List KRow) : Prop where
  rows : es.toList = xs.map (entX w)
  nd : (xs.map (·.1)).Nodup
  key : ∀ x ∈ xs, NestedIs h x.1 x.2.1 ∧ x.1.depth ≤ 8
section
variable {prog : Program} {w : World} {A : Around} {E : Value → Shared → Prop} {s : Shared} {es : Array DictEntry} {xs : List KRow} {k : NestedKey} {u : Value}
theorem XRows.size {h : Heap} (R : XRows w h es xs) : es.size = xs.length := by
  rw [← Array.length_toList, R.rows, List.length_map]
theorem XRows.get {h : Heap} (R : XRows w h es xs) (j : Nat) : es[j]? = (xs[j]?).map (entX w) := by
  rw [← Array.getElem?_toList, R.rows, List.getElem?_map]
end
variable [Td]
def keyXs (f : PyData → Option NestedKey) : List PyData → Option (List NestedKey)
  | [] => some []
  | d :: ds => match f d, keyXs f ds with
    | some k, some ks => some (k :: ks)
    | _, _ => none
def unFt1 : PyData → Option (List PyData)
  | .dict [(.bool true, .bool true), (.tuple ds, .none)] => some ds
  | _ => none
def keyX : Nat → PyData → Option NestedKey
  | _, .none => some .none
  | _, .bool b => some (.num (if b = true then 1 else 0))
  | _, .int i => some (.num i)
  | _, .str x => some (.text x)
  | n + 1, .tuple ds => (keyXs (keyX n) ds).map .tup
  | n + 1, .dict kvs => match unFt1 (.dict kvs) with
    | some ds => (keyXs (keyX n) ds).map .tup
    | none => none
  | _, _ => none
end DL
set_option Elab.async false
set_option linter.all false
set_option maxRecDepth 100000
set_option maxHeartbeats 4000000
namespace DL
open PySem PySem.Spec PyProof PyProof.Rows L2
variable [Td]
def NsR (K : PySem.W.Frag) (G : Hp) (v : V) (d : PyData) : Prop := ∃ b vs ds, v = .ref b ∧ G b = some (.tup vs) ∧ d = .tuple ds ∧ RpAll K G vs ds
theorem NsR.rp {K : PySem.W.Frag} {G : Hp} {v : V} {d : PyData} (h : NsR K G v d) : Rp K G v d := by
  obtain ⟨b, vs, ds, rfl, g, rfl, r⟩ := h
  exact .tup (SqT.of g) r
end DL
set_option Elab.async false
set_option linter.all false
set_option maxRecDepth 100000
set_option maxHeartbeats 4000000
namespace DL
open PySem PySem.Spec PyProof PyProof.Rows L2
end DL
set_option Elab.async false
set_option linter.all false
set_option maxRecDepth 100000
set_option maxHeartbeats 4000000
namespace DL
open PySem PySem.Spec PyProof PyProof.Rows L2
variable [Td]
section
variable {P : Program} {w : World} {A : Around} {E : Value → Shared → Prop} {s : Shared} {a : Addr} {L : List (Addr × List Key)} {o : Obj} {es : Array (Int × Value)} {ep : Nat} {t : SetTable}
theorem SK0.size (R : SK0 P w s.heap a L o es ep t) : es.size = L.length := by
  have h := congrArg List.length R.rows
  rw [Array.length_toList] at h
  rw [h]
  exact List.length_map ..
end
section
variable {X : Cx} {pins : List (Addr × Obj)} {σ : St} {H : Hp} {s : Shared} {a b : Addr} {A : Around} {E : Value → Shared → Prop} {L : List (Addr × List Key)} {k : List Key}
theorem SK0.ty {P : Program} {w : World} {o : Obj} {es : Array (Int × Value)} {ep : Nat} {t : SetTable} (R : SK0 P w s.heap a L o es ep t) : s.TypeIs (.ref a) "set" := ⟨o, R.at_, R.exact_.1⟩
end
end DL
set_option Elab.async false
set_option linter.all false
set_option maxRecDepth 100000
set_option maxHeartbeats 4000000
namespace DL
open PySem PySem.Spec PyProof.Rows L2
end DL
set_option Elab.async false
set_option linter.all false
set_option maxRecDepth 100000
set_option maxHeartbeats 4000000
namespace DL
open PySem PySem.Spec PyProof PyProof.Rows L2
end DL
set_option Elab.async false
set_option linter.all false
set_option maxRecDepth 100000
set_option maxHeartbeats 4000000
namespace DL
open PySem PySem.Spec PyProof PyProof.Rows L2
variable [Td]
structure ClR where
  wi : TI
  g : TG
  tt : TT
  vs : List Nat
structure ClJ (Y : Cx) (c : Comprehension) (r : ClR) : Prop where
  pi : PI Y c.target c.iter r.wi
  pg : PG Y c.target r.g
  pt : PTs Y c.ifs r.tt
inductive ClJs (Y : Cx) : List Comprehension → List ClR → Prop where
  | nil : ClJs Y [] []
  | cons {c : Comprehension} {r : ClR} {cs : List Comprehension} {rs : List ClR} : ClJ Y c r → ClJs Y cs rs → ClJs Y (c :: cs) (r :: rs)
end DL
set_option Elab.async false
set_option linter.all false
set_option maxRecDepth 100000
set_option maxHeartbeats 4000000
namespace DL
open PySem PySem.Spec PyProof PyProof.Rows L2
variable [Td]
structure MCl where
  fi : DEnv → Res (List PyData)
  gd : PyData → DEnv → Option DEnv
  ft : DEnv → Res Bool
  is : List Nat
  vs : List Nat
def MCl.r (K : PySem.W.Frag) (mg : Str → Option Value) (c : MCl) : ClR := ⟨tI K mg c.fi, tG K c.is c.gd, tT K mg c.ft, c.vs⟩
structure MJ (Y : Cx) (c : Comprehension) (m : MCl) : Prop where
  i : IJ Y W0 c.target c.iter m.fi
  g : GJ Y c.target m.is m.gd
  t : PTs Y c.ifs (tT Y.K Y.mg m.ft)
inductive MJs (Y : Cx) : List Comprehension → List MCl → Prop where
  | nil : MJs Y [] []
  | cons {c : Comprehension} {m : MCl} {cs : List Comprehension} {ms : List MCl} : MJ Y c m → MJs Y cs ms → MJs Y (c :: cs) (m :: ms)
theorem MJs.cl {Y : Cx} : ∀ {cs : List Comprehension} {ms : List MCl}, MJs Y cs ms → ClJs Y cs (ms.map (MCl.r Y.K Y.mg))
  | _, _, .nil => .nil
  | _, _, .cons h t => .cons ⟨pi_t h.i, pg_t h.g, h.t⟩ t.cl
end DL
set_option Elab.async false
set_option linter.all false
set_option maxRecDepth 100000
set_option maxHeartbeats 4000000
namespace DL
open PySem PySem.Spec PyProof PyProof.Rows L2
end DL
set_option Elab.async false
set_option linter.all false
set_option maxRecDepth 100000
set_option maxHeartbeats 4000000
namespace DL
open PySem PySem.Spec PyProof PyProof.Rows L2
variable [Td]
def dFTup (fs : DEnv → Res (List PyData)) : DEnv → Res PyData := fun ρ => (fs ρ).bind fun ds ρ1 => if ds.length ≤ sizeLine then .ok (ftD ds) ρ1 else .bad
def unFt : PyData → Option (List PyData)
  | .dict [(.bool true, .bool true), (.tuple ds, .none)] => some ds
  | _ => none
section
variable {Z : Exn → DEnv → Prop} {ρ : DEnv} {Q : PyData → DEnv → Prop}
theorem wp_ftup (f : DEnv → Res (List PyData)) : WpX Z (dFTup f ρ) Q = WpX Z (f ρ) fun ds ρ1 => ds.length ≤ sizeLine ∧ Q (ftD ds) ρ1 := by
  unfold dFTup; rw [wp_bind]; congr 1; funext ds ρ1; rw [wp_guard, wp_ok]
end
end DL
set_option Elab.async false
set_option linter.all false
set_option maxRecDepth 100000
set_option maxHeartbeats 4000000
namespace PySem.SeqAt
open PySem PySem.Spec
open MeetsSeq MeetsSeq2 MeetsSeq3 SeqRoads2
end PySem.SeqAt
namespace DL
open PySem PySem.Spec PyProof PyProof.Rows L2
end DL
set_option Elab.async false
set_option linter.all false
set_option maxRecDepth 100000
set_option maxHeartbeats 4000000
namespace DL
open PySem PySem.Spec PyProof PyProof.Rows L2 PySem.W
variable [Td]
def gStarD (gs : List PyData → DEnv → Option DEnv) : PyData → DEnv → Option DEnv := fun d ρ => match d with
  | .tuple (a :: rest) => if rest.length + 1 ≤ 16384 then gs [a, .list rest] ρ else none
  | _ => none
theorem gStarD_tup (gs : List PyData → DEnv → Option DEnv) (a : PyData) (rest : List PyData) (ρ : DEnv) : gStarD gs (.tuple (a :: rest)) ρ = if rest.length + 1 ≤ 16384 then gs [a, .list rest] ρ else none := rfl
end DL
set_option Elab.async false
set_option linter.all false
set_option maxRecDepth 100000
set_option maxHeartbeats 4000000
namespace DL
open PySem PySem.Spec PyProof PyProof.Rows L2
variable [Td]
def dStar (f : DEnv → Res PyData) (g : DEnv → Res (List PyData)) : DEnv → Res (List PyData) := fun ρ => (f ρ).bind fun d ρ1 => (Res.of (seqOf d) ρ1).bind fun kd ρ2 => (g ρ2).bind fun ys ρ3 => .ok (kd.2 ++ ys) ρ3
section
variable {Z : Exn → DEnv → Prop} {ρ : DEnv} {L : List PyData → DEnv → Prop}
theorem wp_star (f : DEnv → Res PyData) (g : DEnv → Res (List PyData)) : WpX Z (dStar f g ρ) L = WpX Z (f ρ) fun d ρ1 => WpX Z (Res.of (seqOf d) ρ1) fun kd ρ2 => WpX Z (g ρ2) fun ys ρ3 => L (kd.2 ++ ys) ρ3 := by
  unfold dStar
  rw [wp_bind]; congr 1; funext d ρ1
  rw [wp_bind]; congr 1; funext kd ρ2
  rw [wp_bind]; congr 1; funext ys ρ3
  exact wp_ok _ _ _
end
end DL
set_option Elab.async false
set_option linter.all false
set_option maxRecDepth 100000
set_option maxHeartbeats 4000000
namespace DL
open PySem PySem.Spec PyProof PyProof.Rows L2
end DL
set_option Elab.async false
set_option linter.all false
set_option maxRecDepth 100000
set_option maxHeartbeats 4000000
namespace DL
open PySem PySem.Spec PyProof PyProof.Rows L2
variable [Td]
/-- what the module holds at one key -/
def KdAt (K : PySem.W.Frag) (a : Addr) (z : Str) : Option PyData → Prop
  | none => PySem.W.nsIn K a z = some none
  | some d => ∃ u v, PySem.W.nsIn K a z = some (some u) ∧ RelV v u ∧ ∀ G, Rp K G v d
/-- the module's dict nm holds kvs -/
structure KDc (K : PySem.W.Frag) (w : World) (mg : Str → Option Value) (nm : Str) (kvs : List (Str × PyData)) : Prop where
  ex : ∃ (a : Addr) (es : Array DictEntry) (n : Nat), mg nm = some (.ref a) ∧ KDict K w a es n ∧ ∀ z, KdAt K a z (kvs.lookup z)
theorem KdAt.get {K : PySem.W.Frag} {a : Addr} {z : Str} {o : Option PyData} (h : KdAt K a z o) : ∃ r : Option Value, PySem.W.nsIn K a z = some r ∧ r.isSome = o.isSome := by
  cases o with
  | none => exact ⟨none, h, rfl⟩
  | some d => obtain ⟨u, v, e, _⟩ := h; exact ⟨some u, e, rfl⟩
end DL
set_option Elab.async false
set_option linter.all false
set_option maxRecDepth 100000
set_option maxHeartbeats 4000000
namespace DL
open PySem PySem.Spec PyProof PyProof.Rows L2
variable [Td]
def zipM (d e : PyData) : Option (List PyData) := (seqOf d).bind fun a => (seqOf e).map fun b => paired a.2 b.2
def iZipDM (f : DEnv → Res (List PyData)) : DEnv → Res (List PyData) := fun ρ => (f ρ).bind fun ds ρ1 => match ds with
  | [d, e] => Res.of (zipM d e) ρ1
  | _ => .bad
section
variable {Z : Exn → DEnv → Prop} {L : List PyData → DEnv → Prop} {ρ : DEnv}
theorem wp_izipM {Z : Exn → DEnv → Prop} (f : DEnv → Res (List PyData)) (ρ : DEnv) (L : List PyData → DEnv → Prop) : WpX Z (iZipDM f ρ) L = WpX Z (f ρ) fun ds ρ1 => match ds with
    | [d, e] => WpX Z (Res.of (zipM d e) ρ1) L
    | _ => False := by
  unfold iZipDM
  rw [wp_bind]
  congr 1
  funext ds ρ1
  match ds with
  | [] => exact wp_bad _
  | [_] => exact wp_bad _
  | [_, _] => rfl
  | _ :: _ :: _ :: _ => exact wp_bad _
theorem zipM_lst (xs ys : List PyData) : zipM (.list xs) (.list ys) = some (paired xs ys) := rfl
theorem zipM_tup (xs ys : List PyData) : zipM (.tuple xs) (.tuple ys) = some (paired xs ys) := rfl
theorem zipM_tl (xs ys : List PyData) : zipM (.tuple xs) (.list ys) = some (paired xs ys) := rfl
theorem zipM_lt (xs ys : List PyData) : zipM (.list xs) (.tuple ys) = some (paired xs ys) := rfl
theorem gCons_eq (g : PyData → DEnv → Option DEnv) (gs : List PyData → DEnv → Option DEnv) (d : PyData) (ds : List PyData) (ρ : DEnv) : gConsD g gs (d :: ds) ρ = (g d ρ).bind (gs ds) := rfl
theorem gNil_eq (ρ : DEnv) : gNilD [] ρ = some ρ := rfl
end
end DL
set_option Elab.async false
set_option linter.all false
set_option maxRecDepth 100000
set_option maxHeartbeats 4000000
namespace DL
open PySem PySem.Spec PyProof PyProof.Rows L2
variable [Td]
/-- a dict of the module: its name, what it holds -/
structure TabD where
  nm : Str
  kvs : List (Str × PyData)
def fB : PyData → Value → Bool
  | .int i, .int j _ => decide (i = j)
  | .str x, .str y _ => decide (x = y)
  | _, _ => false
def fsB : List PyData → List Value → Bool
  | [], [] => true
  | d :: ds, u :: us => fB d u && fsB ds us
  | _, _ => false
def tupB (K : PySem.W.Frag) (ds : List PyData) (a : Addr) : Bool := match K.lookup a with
  | some ⟨.type c, _, .seq its _, _⟩ => decide (c = "tuple") && (decide (ds.length ≤ 1000) && fsB ds its.toList)
  | _ => false
def dvB (K : PySem.W.Frag) (d : PyData) (u : Value) : Bool := match d with
  | .tuple ds => (match u with
    | .ref a => tupB K ds a
    | _ => false)
  | d => fB d u
theorem fB_ok {d : PyData} {u : Value} (h : fB d u = true) : ∃ v, RelV v u ∧ ∀ K G, Rp K G v d := by
  unfold fB at h
  split at h
  · rename_i i j t
    cases of_decide_eq_true h
    exact ⟨.int i, ⟨t, rfl⟩, fun _ _ => .int i⟩
  · rename_i x y t
    cases of_decide_eq_true h
    exact ⟨.str x, ⟨t, rfl⟩, fun _ _ => .str x⟩
  · cases h
theorem fsB_ok : ∀ {ds : List PyData} {us : List Value}, fsB ds us = true → ∃ vs, Vals vs us ∧ vs.length = ds.length ∧ ∀ K G, RpAll K G vs ds
  | [], [], _ => ⟨[], .nil, rfl, fun _ _ => .nil⟩
  | [], _ :: _, h => by cases h
  | _ :: _, [], h => by cases h
  | d :: ds, u :: us, h => by
    obtain ⟨h1, h2⟩ := He.ba (show (fB d u && fsB ds us) = true from h)
    obtain ⟨v, r, p⟩ := fB_ok h1
    obtain ⟨vs, rs, l, ps⟩ := fsB_ok h2
    exact ⟨v :: vs, .cons r rs, by rw [List.length_cons, List.length_cons, l], fun K G => .cons (p K G) (ps K G)⟩
theorem tupB_ok {K : PySem.W.Frag} {ds : List PyData} {a : Addr} (h : tupB K ds a = true) (G : Hp) : Rp K G (.ref a) (.tuple ds) := by
  unfold tupB at h
  cases q : K.lookup a with
  | none => rw [q] at h; cases h
  | some o =>
    obtain ⟨oc, od, dt, osl⟩ := o
    rw [q] at h
    cases oc with
    | type c =>
      cases dt with
      | seq its n =>
        obtain ⟨h1, h2⟩ := He.ba (show (decide (c = "tuple") && (decide (ds.length ≤ 1000) && fsB ds its.toList)) = true from h)
        obtain ⟨h2, h3⟩ := He.ba h2
        have e1 : c = "tuple" := of_decide_eq_true h1
        subst e1
        obtain ⟨vs, rs, l, ps⟩ := fsB_ok h3
        have hl : ds.length ≤ 1000 := of_decide_eq_true h2
        exact .tup (.inr ⟨_, its, n, q, rfl, rfl, Nat.le_trans (show its.size ≤ 1000 by have := rs.length; have e : its.toList.length = its.size := Array.length_toList; omega) (by decide), rs⟩) (ps K G)
      | _ => cases h
    | _ => cases h
theorem dvB_ok {K : PySem.W.Frag} {d : PyData} {u : Value} (h : dvB K d u = true) : ∃ v, RelV v u ∧ ∀ G, Rp K G v d := by
  unfold dvB at h
  split at h
  · rename_i ds
    split at h
    · rename_i a
      exact ⟨.ref a, rfl, tupB_ok h⟩
    · cases h
  · obtain ⟨v, r, p⟩ := fB_ok h
    exact ⟨v, r, fun G => p K G⟩
def vB (K : PySem.W.Frag) (t : TabD) : Bool := t.kvs.all fun q => match PySem.W.nsIn K (He.ga K t.nm) q.1 with
  | some (some u) => dvB K q.2 u
  | _ => false
abbrev AlV : Type := He.Al × (List (Option (List (Option (Str × Int)))) × Bool)
def obsV (fa : List He.Fa) (fn : List He.FnD) (ts : List TabD) (K : PySem.W.Frag) : AlV := (He.obsE fa fn K, (ts.map fun t => He.dicW K (He.ga K t.nm), ts.all (vB K)))
def valV (fn : List He.FnD) (ts : List TabD) (w : World) : AlV := (He.valE fn, (ts.map fun t => some (He.keysIn w.params (t.kvs.map (·.1))), true))
def SaysV (fa : List He.Fa) (fn : List He.FnD) (ts : List TabD) (w : World) (K : PySem.W.Frag) : Prop := obsV fa fn ts K = valV fn ts w
theorem keyOf_none {z : Str} {P : Params} : ∀ {l : List DictEntry} {ks : List Str}, l.map He.keyOf = He.keysIn P ks → z ∉ ks → l.find? (·.key.isStr z) = none ∧ l.any (·.refKey) = false
  | [], _, _, _ => ⟨rfl, rfl⟩
  | e :: r, [], h, _ => by cases h
  | e :: r, k :: ks, h, hz => by
    have h1 : He.keyOf e :: r.map He.keyOf = some (k, PyData.keyHash P k) :: He.keysIn P ks := h
    injection h1 with h2 h3
    obtain ⟨i1, i2⟩ := keyOf_none h3 fun q => hz (List.mem_cons_of_mem _ q)
    unfold He.keyOf at h2
    split at h2
    · rename_i x t q
      have h4 := Option.some.inj h2
      obtain ⟨h5, h6⟩ := Prod.mk.inj h4
      have ne : (e.key.isStr z) = false := by
        rw [q]
        show (x == z) = false
        rw [h5]
        exact beq_eq_false_iff_ne.mpr fun y => hz (by rw [y]; exact List.mem_cons_self ..)
      refine ⟨?_, ?_⟩
      · rw [List.find?_cons, ne]; exact i1
      · rw [List.any_cons, i2, Bool.or_false]
        unfold DictEntry.refKey
        rw [q]
    · cases h2
section
variable {fa : List He.Fa} {fn : List He.FnD} {ts : List TabD} {w : World} {K : PySem.W.Frag} {h : Heap} {mg : Str → Option Value}
theorem SaysV.e (c : SaysV fa fn ts w K) : He.SaysE fa fn K := congrArg (fun z : AlV => z.1) c
theorem SaysV.tab (c : SaysV fa fn ts w K) (X : K.In h) (G : h.Ns mainGlobals mg) (i : Nat) {t : TabD} (hg : mg t.nm = some (.ref (He.ga K t.nm))) (ht : ts[i]? = some t := by rfl) : KDc K w mg t.nm t.kvs := by
  have e : ts.map (fun t => He.dicW K (He.ga K t.nm)) = ts.map fun t => some (He.keysIn w.params (t.kvs.map (·.1))) := congrArg (fun z : AlV => z.2.1) c
  have e2 : (ts.map fun t => He.dicW K (He.ga K t.nm))[i]? = (ts.map fun t => some (He.keysIn w.params (t.kvs.map (·.1))))[i]? := by rw [e]
  rw [List.getElem?_map, List.getElem?_map, ht] at e2
  have e3 : He.dicW K (He.ga K t.nm) = some (He.keysIn w.params (t.kvs.map (·.1))) := Option.some.inj e2
  have v : ts.all (vB K) = true := congrArg (fun z : AlV => z.2.2) c
  have v2 : vB K t = true := List.all_eq_true.mp v t (List.mem_of_getElem? ht)
  obtain ⟨es, n, D⟩ := He.dicW_ok e3
  refine ⟨⟨_, es, n, hg, D, fun z => ?_⟩⟩
  cases q : t.kvs.lookup z with
  | some d =>
    have h2 := List.all_eq_true.mp v2 (z, d) (PySem.mem_of_lookup q)
    have h2 : (match PySem.W.nsIn K (He.ga K t.nm) z with
      | some (some u) => dvB K d u
      | _ => false) = true := h2
    cases y : PySem.W.nsIn K (He.ga K t.nm) z with
    | none => rw [y] at h2; cases h2
    | some r =>
      rw [y] at h2
      cases r with
      | none => cases h2
      | some u =>
        obtain ⟨v, r, p⟩ := dvB_ok h2
        exact ⟨u, v, y, r, p⟩
  | none =>
    show PySem.W.nsIn K _ z = some none
    have hz : z ∉ t.kvs.map (·.1) := fun m => by
      obtain ⟨p, hp, rfl⟩ := List.mem_map.mp m
      exact absurd q (by
        have : ∀ l : List (Str × PyData), p ∈ l → l.lookup p.1 ≠ none := fun l => by
          induction l with
          | nil => intro h; cases h
          | cons x l ih =>
            intro h
            rw [show x = (x.1, x.2) from rfl, List.lookup_cons]
            split
            · intro z; cases z
            · rename_i ne
              rcases List.mem_cons.mp h with e | h
              · subst e
                simp at ne
              · exact ih h
        exact this _ hp)
    have hd := e3
    unfold He.dicW at hd
    unfold PySem.W.nsIn
    have hk : K.lookup (He.ga K t.nm) = some ⟨.type "dict", none, .dict es n, #[]⟩ := D.at_
    rw [hk] at hd ⊢
    have hd : (match decide (("dict" : String) = "dict") && ((#[] : Array (Option Value)).isEmpty && !(He.ga K t.nm == sysModules)) with
      | true => some (es.toList.map He.keyOf)
      | false => none) = some (He.keysIn w.params (t.kvs.map (·.1))) := hd
    split at hd
    · have hd := Option.some.inj hd
      obtain ⟨a1, a2⟩ := keyOf_none hd hz
      show (match es.toList.find? (·.key.isStr z) with
        | some e => some (some e.val)
        | none => if es.toList.any (·.refKey) then none else some none) = some none
      rw [a1, a2]
      rfl
    · cases hd
end
end DL
set_option Elab.async false
set_option linter.all false
set_option maxRecDepth 100000
set_option maxHeartbeats 4000000
namespace DL
open PySem PySem.Spec PyProof PyProof.Rows L2
variable [Td]
/-- an argument: the object that a slot holds, or data -/
abbrev MArg := Nat ⊕ PyData
inductive MixAll (K : PySem.W.Frag) (G : Hp) (σ : St) : List V → List MArg → Prop where
  | nil : MixAll K G σ [] []
  | slot {v : V} {vs : List V} {i : Nat} {as : List MArg} : σ[i]? = some (some v) → MixAll K G σ vs as → MixAll K G σ (v :: vs) (.inl i :: as)
  | dat {v : V} {vs : List V} {d : PyData} {as : List MArg} : Rp K G v d → MixAll K G σ vs as → MixAll K G σ (v :: vs) (.inr d :: as)
theorem MixAll.len {K : PySem.W.Frag} {G : Hp} {σ : St} : ∀ {vs : List V} {as : List MArg}, MixAll K G σ vs as → vs.length = as.length
  | _, _, .nil => rfl
  | _, _, .slot _ t => congrArg (· + 1) t.len
  | _, _, .dat _ t => congrArg (· + 1) t.len
theorem MixAll.mono {K : PySem.W.Frag} {G G' : Hp} {σ : St} (s : Same G G') : ∀ {vs : List V} {as : List MArg}, MixAll K G σ vs as → MixAll K G' σ vs as
  | _, _, .nil => .nil
  | _, _, .slot h t => .slot h (t.mono s)
  | _, _, .dat h t => .dat (Rp.mono s h) (t.mono s)
end DL
set_option Elab.async false
set_option linter.all false
set_option maxRecDepth 100000
set_option maxHeartbeats 4000000
namespace DL
open PySem PySem.Spec PyProof PyProof.Rows L2
variable [Td]
/-- a cell that is known by its object -/
def PinO (o : Obj) : HO := .frz o (.ext fun _ => True)
theorem PinO.inj {o u : Obj} (h : PinO o = PinO u) : o = u := by unfold PinO at h; injection h
def PinD (D : List Addr) (H : Hp) : Prop := ∀ b ∈ D, ∃ o, H b = some (PinO o)
theorem PinD.out {D : List Addr} {H : Hp} {b : Addr} {u : HO} (p : PinD D H) (e : H b = some u) (n : ∀ o, u ≠ PinO o) : b ∉ D := fun hb => by
  obtain ⟨o, z⟩ := p b hb
  rw [e] at z
  exact n o (Option.some.inj z)
theorem PinD.none {D : List Addr} {H : Hp} {b : Addr} (p : PinD D H) (e : H b = none) : b ∉ D := fun hb => by
  obtain ⟨o, z⟩ := p b hb
  rw [e] at z
  cases z
def SameP (G G' : Hp) : Prop := ∀ b o, G b = some o → (∀ u, o ≠ PinO u) → G' b = some o
theorem SameP.tup {K : PySem.W.Frag} {G G' : Hp} {a : Addr} {xs : List V} (e : SameP G G') (h : SqT K G a xs) : SqT K G' a xs := by
  rcases h with (h | ⟨o, h⟩) | h
  · exact .inl (.inl (e _ _ h fun u z => by unfold PinO at z; cases z))
  · exact .inl (.inr ⟨o, e _ _ h fun u z => by unfold PinO at z; cases z⟩)
  · exact .inr h
theorem SameP.lst {K : PySem.W.Frag} {G G' : Hp} {a : Addr} {xs : List V} (e : SameP G G') (h : SqL K G a xs) : SqL K G' a xs := by
  rcases h with (h | ⟨o, h⟩) | h
  · exact .inl (.inl (e _ _ h fun u z => by unfold PinO at z; cases z))
  · exact .inl (.inr ⟨o, e _ _ h fun u z => by unfold PinO at z; cases z⟩)
  · exact .inr h
theorem PinD.same {G H : Hp} {D : List Addr} (p : PinD D G) (s : Same G H) : PinD D H := fun b hb => by
  obtain ⟨o, e⟩ := p b hb
  exact ⟨o, s _ _ e⟩
end DL
set_option Elab.async false
set_option linter.all false
set_option maxRecDepth 100000
set_option maxHeartbeats 4000000
namespace DL
open PySem PySem.Spec PyProof PyProof.Rows L2
variable [Td]
abbrev CXN : CXT := fun _ _ _ _ _ _ => False
abbrev EN : XK := fun _ _ _ => False
section
variable {X : Cx} {E : WX} {i j : Nat} {x : Str} {t : TA} {e : Expr} {es : List Expr} {fs : DEnv → Res (List PyData)} {p pos : Pos}
def dFn (j i : Nat) (fs : DEnv → Res (List PyData)) : DEnv → Res PyData := fun ρ => match ρ[i]? with
  | some (.fn k f) => if k ≤ j then (fs ρ).bind fun ds ρ1 => Res.of (f ds) ρ1 else .bad
  | _ => .bad
end
/-- the object at f is the lambda F with the body b -/
def FnE (f : Addr) (F : NdefX.NF) (b : Expr) : HO := .ext fun h => ∃ pm ctv : Value, h.get? f = some (PySem.W.kla_obj "<lambda>" F.qual F.params b F.scope F.cl pm F.c ctv)
/-- n arguments, behind them what was captured -/
def evalFn (n : Nat) (fb : DEnv → Res PyData) (es : List PyData) : List PyData → Option PyData := fun ds => if ds.length = n then (match fb (ds.map Cell.val ++ es.map Cell.val) with
  | .ok d _ => some d
  | _ => none) else none
/-- its names: the parameters, then the captured ones, then its locals; some of its own may be cells -/
structure NScopeC (N ps fr : List Str) (sc : Scope) : Prop where
  kind : sc.kind = .function
  co : sc.isCoroutine = false
  gen : sc.isGenerator = false
  nd : N.Nodup
  pre : N.take (ps.length + fr.length) = ps ++ fr
  par : ∀ x ∈ ps, sc.names.lookup x = some .local ∨ sc.names.lookup x = some .cell
  uniq : ∀ y ∈ sc.names, y.2 = .cell → sc.names.lookup y.1 = some .cell
  free : ∀ y ∈ sc.names, y.2 = .free → y.1 ∈ fr
  frk : ∀ x ∈ fr, sc.names.lookup x = some .free
abbrev envG (F : NdefX.NF) (f L : Addr) : Env := PySem.W.envX F.qual F.scope L f (.ref F.c) (cellsFrom (L + 1) F.scope.names F.cl)
/-- the context of its body, at its entry -/
def gcx (CX : CXT) (P : Program) (w : World) (K : PySem.W.Frag) (mg : Str → Option Value) (base : Heap) (N : List Str) (F : NdefX.NF) (f : Addr) (A : Around) (outer : List Env) (s : Shared) (H : Hp) (E : XK) : Cx where
  prog := P
  w := w
  K := K
  mg := mg
  base := base
  A := A.deeper (envG F f s.heap.objs.size)
  N := N
  s_0 := s
  H_0 := H
  env := envG F f s.heap.objs.size
  outer := outer
  stack := envG F f s.heap.objs.size :: outer
  ex := []
  calm := true
  fn := fun y => decide (F.scope.names.lookup y = some .cell)
  pn := []
  xe := fun e s' => wpAny (model P w) (A.deeper (envG F f s.heap.objs.size)) (leaving (envG F f s.heap.objs.size) e) (fun _ s'' => CX outer H s E e s'') (fun e' s'' => CX outer H s E e' s'') s'
end DL
set_option Elab.async false
set_option linter.all false
set_option maxRecDepth 100000
set_option maxHeartbeats 4000000
namespace DL
open PySem PySem.Spec PyProof PyProof.Rows L2
variable [Td]
inductive AE where
  | dat (d : PyData)
  | fnc (k : Nat) (f : List PyData → Option PyData)
  | lam (k n : Nat) (fb : DEnv → Res PyData) (js : List Nat) (es : List PyData)
  | ndf (k n m : Nat) (fb : DEnv → Res Out) (js : List Nat) (es : List PyData)
def AE.cell : AE → Cell
  | .dat d => .val d
  | .fnc k f => .fn k f
  | .lam k n fb _ es => .fn (k + 1) (evalFn n fb es)
  | .ndf k n m fb _ es => .fn (k + 1) (evalFn n (defD m fb) es)
/-- what is known of a lambda by the text -/
structure LamOk (X : Cx) (F : NdefX.NF) (b : Expr) (k n : Nat) (fb : DEnv → Res PyData) (js : List Nat) : Prop where
  ex : ∃ N ps fr, ps.length = n ∧ NdefX.NScope N ps fr F.scope ∧ N.length = ps.length + fr.length ∧ F.cl = cloFrom X.env.cells F.scope.names [] ∧
    (∀ y ∈ F.scope.names, y.2 = .free → X.env.scope.names.lookup y.1 = some .cell ∨ X.env.scope.names.lookup y.1 = some .free) ∧ (∀ y ∈ fr, (y, NameKind.free) ∈ F.scope.names) ∧ js.map (fun j => X.N[j]?) = fr.map some ∧
    (∀ (pm ctv : Value) (us : List Value), us.length = ps.length → bindArgs (PySem.W.kla_fn "<lambda>" F.qual F.params b F.scope F.cl pm (.ref F.c) ctv) ⟨us, []⟩ = pure (ps.zip us)) ∧
    ∀ (f : Addr) (A : Around) (outer : List Env) (s : Shared) (H : Hp), Room k (A.deeper (NdefX.envF F f s.heap.objs.size)) → EJ (NdefX.ncx CXN Td.P Td.w X.K Td.mg Td.base N F f A outer s H EN) W0 b fb
/-- what is known of a def of this def by the text -/
structure DefOk (X : Cx) (F : NdefX.NF) (k n m : Nat) (fb : DEnv → Res Out) (js : List Nat) : Prop where
  ex : ∃ N ps fr, ps.length = n ∧ NScopeC N ps fr F.scope ∧ N.length = ps.length + fr.length + m ∧ F.cl = cloFrom X.env.cells F.scope.names [] ∧
    (∀ y ∈ F.scope.names, y.2 = .free → X.env.scope.names.lookup y.1 = some .cell ∨ X.env.scope.names.lookup y.1 = some .free) ∧ (∀ y ∈ fr, (y, NameKind.free) ∈ F.scope.names) ∧ js.map (fun j => X.N[j]?) = fr.map some ∧
    (∀ (doc pm ctv : Value) (us : List Value), us.length = ps.length → bindArgs (F.fd doc pm ctv) ⟨us, []⟩ = pure (ps.zip us)) ∧
    ∀ (f : Addr) (A : Around) (outer : List Env) (s : Shared) (H : Hp), Room k (A.deeper (envG F f s.heap.objs.size)) → BJ (gcx CXN Td.P Td.w X.K Td.mg Td.base N F f A outer s H EN) W0 F.body fb
def RepA (X : Cx) (σ : St) (G : Hp) (v : V) : AE → Prop
  | .dat d => Rp X.K G v d
  | .fnc k f => ClM X.K G v k f
  | .lam k n fb js es => ∃ f F b, v = .ref f ∧ G f = some (FnE f F b) ∧ G F.c = some (LamX.CodeO F.c F.qual) ∧ LamOk X F b k n fb js ∧ ∃ ws : List V, js.map (fun j => σ[j]?) = ws.map (fun w => some (some w)) ∧ RpAll X.K G ws es
  | .ndf k n m fb js es => ∃ f F, v = .ref f ∧ G f = some (NdefX.FnO f F) ∧ G F.c = some (LamX.CodeO F.c F.qual) ∧ DefOk X F k n m fb js ∧ ∃ ws : List V, js.map (fun j => σ[j]?) = ws.map (fun w => some (some w)) ∧ RpAll X.K G ws es
theorem RepA.mono {X : Cx} {σ : St} {G G' : Hp} {v : V} {a : AE} (e : Same G G') (h : RepA X σ G v a) : RepA X σ G' v a := by
  cases a with
  | dat d => exact Rp.mono e h
  | fnc k f => exact ClM.mono e h
  | lam k n fb js es =>
    obtain ⟨f, F, b, h1, h2, h3, h4, ws, h5, h6⟩ := h
    exact ⟨f, F, b, h1, e _ _ h2, e _ _ h3, h4, ws, h5, RpAll.mono e h6⟩
  | ndf k n m fb js es =>
    obtain ⟨f, F, h1, h2, h3, h4, ws, h5, h6⟩ := h
    exact ⟨f, F, h1, e _ _ h2, e _ _ h3, h4, ws, h5, RpAll.mono e h6⟩
def cNil : DEnv → Res (List AE) := fun ρ => .ok [] ρ
def cCons (f : DEnv → Res AE) (g : DEnv → Res (List AE)) : DEnv → Res (List AE) := fun ρ => (f ρ).bind fun a ρ1 => (g ρ1).bind fun as ρ2 => .ok (a :: as) ρ2
def cDat (f : DEnv → Res PyData) : DEnv → Res AE := fun ρ => (f ρ).bind fun d ρ1 => .ok (.dat d) ρ1
def cPar (i : Nat) : DEnv → Res AE := fun ρ => match ρ[i]? with
  | some (.fn k f) => .ok (.fnc k f) ρ
  | _ => .bad
end DL
set_option Elab.async false
set_option linter.all false
set_option maxRecDepth 100000
set_option maxHeartbeats 4000000
namespace DL
open PySem PySem.Spec PyProof PyProof.Rows L2
variable [Td]
def cellsD (X : Cx) (js : List Nat) : List Addr := js.filterMap fun j => (X.N[j]?).bind fun y => X.env.cells.lookup y
def AE.cells (X : Cx) : AE → List Addr
  | .lam _ _ _ js _ => cellsD X js
  | .ndf _ _ _ _ js _ => cellsD X js
  | _ => []
def dCallC (den : DEnv → Res PyData) (fs : DEnv → Res (List AE)) : DEnv → Res PyData := fun ρ => (fs ρ).bind fun as ρ1 => match den (as.map AE.cell) with
  | .ok d _ => .ok d ρ1
  | _ => .bad
end DL
set_option Elab.async false
set_option linter.all false
set_option maxRecDepth 100000
set_option maxHeartbeats 4000000
namespace DL
open PySem PySem.Spec PyProof PyProof.Rows L2
variable [Td]
/-- Kept, told too: the object -/
structure KeptV (P : Program) (w : World) (K : PySem.W.Frag) (mg : Str → Option Value) (base : Heap) (CX : CXT) (k : Nat) (x : Str) (ps : List Str) (den : DEnv → Res PyData) : Prop where
  ex : ∃ (f : Addr) (fd : FuncData), mg x = some (.ref f) ∧ PySem.W.keepIn K (.ref f) = true ∧ Binds K fd ps [] ∧ (∃ oc od osl, K.lookup f = some ⟨oc, od, .func fd, osl⟩) ∧ FnOk P w K mg base CX k f fd ps (spD K mg ps.length den)
section
variable {P : Program} {w : World} {K : PySem.W.Frag} {mg : Str → Option Value} {base : Heap}
theorem KeptV.kept {CX : CXT} {k : Nat} {x : Str} {ps : List Str} {den : DEnv → Res PyData} (F : KeptV P w K mg base CX k x ps den) : Kept P w K mg base CX k x ps den := by
  obtain ⟨f, fd, a, b, c, _, d⟩ := F
  exact ⟨f, fd, a, b, c, d⟩
end
def cGlob (k n : Nat) (den : DEnv → Res PyData) : DEnv → Res AE := fun ρ => .ok (.fnc k (evalFn n den [])) ρ
section
variable {Z : Exn → DEnv → Prop} (ρ : DEnv) (Q : PyData → DEnv → Prop)
def fnQ (j : Nat) (W : (List PyData → Option PyData) → Prop) (c : Option Cell) : Prop := match c with
  | some (.fn k f) => k ≤ j ∧ W f
  | _ => False
theorem fnQ_fn (j k : Nat) (W : (List PyData → Option PyData) → Prop) (f : List PyData → Option PyData) : fnQ j W (some (.fn k f)) = (k ≤ j ∧ W f) := rfl
theorem wp_fcall (j i : Nat) (fs : DEnv → Res (List PyData)) : WpX Z (dFn j i fs ρ) Q = fnQ j (fun f => WpX Z (fs ρ) fun ds ρ1 => ∃ d, f ds = some d ∧ Q d ρ1) (ρ[i]?) := by
  unfold dFn fnQ
  cases ρ[i]? with
  | none => exact wp_bad _
  | some c =>
    cases c with
    | fn k f =>
      show WpX Z (if k ≤ j then (fs ρ).bind fun ds ρ1 => Res.of (f ds) ρ1 else .bad) Q = _
      by_cases h : k ≤ j
      · rw [if_pos h, wp_bind]
        simp only [wp_of, h, true_and]
      · rw [if_neg h, wp_bad]
        simp only [h, false_and]
    | _ => exact wp_bad _
theorem wp_cNil (L : List AE → DEnv → Prop) : WpX Z (cNil ρ) L = L [] ρ := wp_ok _ _ _
theorem wp_cCons (L : List AE → DEnv → Prop) (f : DEnv → Res AE) (g : DEnv → Res (List AE)) : WpX Z (cCons f g ρ) L = WpX Z (f ρ) fun a ρ1 => WpX Z (g ρ1) fun as ρ2 => L (a :: as) ρ2 := by
  unfold cCons
  rw [wp_bind]
  simp only [wp_bind, wp_ok]
theorem wp_cDat (L : AE → DEnv → Prop) (f : DEnv → Res PyData) : WpX Z (cDat f ρ) L = WpX Z (f ρ) fun d ρ1 => L (.dat d) ρ1 := by
  unfold cDat
  rw [wp_bind]
  simp only [wp_ok]
def parQ (L : AE → DEnv → Prop) (ρ : DEnv) (c : Option Cell) : Prop := match c with
  | some (.fn k f) => L (.fnc k f) ρ
  | _ => False
theorem parQ_fn (L : AE → DEnv → Prop) (k : Nat) (f : List PyData → Option PyData) : parQ L ρ (some (.fn k f)) = L (.fnc k f) ρ := rfl
theorem wp_cPar (L : AE → DEnv → Prop) (i : Nat) : WpX Z (cPar i ρ) L = parQ L ρ (ρ[i]?) := by
  unfold cPar parQ
  cases ρ[i]? with
  | none => exact wp_bad _
  | some c =>
    cases c with
    | fn k f => exact wp_ok _ _ _
    | _ => exact wp_bad _
theorem wp_cGlob (L : AE → DEnv → Prop) (k n : Nat) (den : DEnv → Res PyData) : WpX Z (cGlob k n den ρ) L = L (.fnc k (evalFn n den [])) ρ := wp_ok _ _ _
theorem wp_callC (den : DEnv → Res PyData) (fs : DEnv → Res (List AE)) : WpX Z (dCallC den fs ρ) Q = WpX Z (fs ρ) fun as ρ1 => WpX Zn (den (as.map AE.cell)) fun d _ => Q d ρ1 := by
  unfold dCallC
  rw [wp_bind]
  congr 1
  funext as ρ1
  cases den (as.map AE.cell) with
  | ok d cs => rw [wp_ok, wp_ok]
  | err _ _ => exact propext ⟨fun h => ((wp_bad _).mp h).elim, fun h => absurd h.get fun ⟨_, _, e, _⟩ => (nomatch e)⟩
  | bad => rw [wp_bad, wp_bad]
end
end DL
set_option Elab.async false
set_option linter.all false
set_option maxRecDepth 100000
set_option maxHeartbeats 4000000
namespace DL
open PySem PySem.Spec PyProof PyProof.Rows L2
variable [Td]
inductive GK where
  | k (x : Key)
  | t (xs : List Key)
  | b (x : Bool)
  | n (x : NestedKey) (d : PyData)
end DL
set_option Elab.async false
set_option linter.all false
set_option maxRecDepth 100000
set_option maxHeartbeats 4000000
namespace DL
open PySem PySem.Spec PyProof PyProof.Rows L2
variable [Td]
def keyG : PyData → Option GK
  | .int i => some (.k (.inl i))
  | .str x => some (.k (.inr x))
  | .bool x => some (.b x)
  | d => match (unFt d).bind keysD with
    | some ks => some (.t ks)
    | none => (keyX 8 d).map fun k => .n k d
def valNX (kvs : List (NestedKey × PyData × PyData)) (k : NestedKey) : Option PyData := (kvs.find? fun x => decide (x.1 = k)).map (·.2.2)
def putNX (kvs : List (NestedKey × PyData × PyData)) (k : NestedKey) (kd d : PyData) : List (NestedKey × PyData × PyData) := if (valNX kvs k).isSome then kvs.map fun x => if x.1 = k then (x.1, x.2.1, d) else x else kvs ++ [(k, kd, d)]
/-- what the dict tells of the key, and what it is told as from then on -/
def gGet : OD → GK → Option (Option PyData × OD)
  | .dk kvs, .k x => some (valD kvs x, .dk kvs)
  | .dt kvs, .t xs => some (valD kvs xs, .dt kvs)
  | .db kvs, .b x => some (valD kvs x, .db kvs)
  | .dk [], .t _ => some (none, .dt [])
  | .dk [], .b _ => some (none, .db [])
  | .dn kvs, .n k _ => some (valNX kvs k, .dn kvs)
  | .dk [], .n _ _ => some (none, .dn [])
  | _, _ => none
def gPut : OD → GK → PyData → Option OD
  | .dk kvs, .k x, d => if kvs.length < sizeLine then some (.dk (putD kvs x d)) else none
  | .dt kvs, .t xs, d => if kvs.length < sizeLine then some (.dt (putD kvs xs d)) else none
  | .db kvs, .b x, d => if kvs.length < sizeLine then some (.db (putD kvs x d)) else none
  | .dk [], .t xs, d => some (.dt [(xs, d)])
  | .dk [], .b x, d => some (.db [(x, d)])
  | .dn kvs, .n k kd, d => if kvs.length < sizeLine then some (.dn (putNX kvs k kd d)) else none
  | .dk [], .n k kd, d => some (.dn [(k, kd, d)])
  | _, _, _ => none
def dGGet (i : Nat) (f : DEnv → Res PyData) : DEnv → Res PyData := fun ρ => if (ρ[i]?.getD .un).isOwn = true then (f ρ).bind fun d ρ1 => match (hobj i ρ1).bind fun o => (keyG d).bind fun k => gGet o k with
  | some (some v, o') => .ok v (setHeld i o' ρ1)
  | _ => .bad else .bad
def dGIn (neg : Bool) (i : Nat) (f : DEnv → Res PyData) : DEnv → Res PyData := fun ρ => (f ρ).bind fun d ρ1 => match (hobj i ρ1).bind fun o => (keyG d).bind fun k => gGet o k with
  | some (r, o') => .ok (.bool (if neg then !r.isSome else r.isSome)) (setHeld i o' ρ1)
  | none => .bad
def sDPutG (i : Nat) (f g : DEnv → Res PyData) : DEnv → Res Out := fun ρ => (f ρ).bind fun d ρ1 => if (ρ1[i]?.getD .un).isOwn = true then (g ρ1).bind fun k ρ2 => match (hobj i ρ2).bind fun o => (keyG k).bind fun k => gPut o k d with
  | some o' => .ok .nx (setHeld i o' ρ2)
  | none => .bad else .bad
section
variable {Z : Exn → DEnv → Prop} {ρ : DEnv} {Q : PyData → DEnv → Prop} {S : Out → DEnv → Prop}
def gOf (i : Nat) (d : PyData) (ρ : DEnv) : Option (Option PyData × OD) := (hobj i ρ).bind fun o => (keyG d).bind fun k => gGet o k
def gPutOf (i : Nat) (k d : PyData) (ρ : DEnv) : Option OD := (hobj i ρ).bind fun o => (keyG k).bind fun k => gPut o k d
theorem wp_dgetG (i : Nat) (f : DEnv → Res PyData) : WpX Z (dGGet i f ρ) Q = ((ρ[i]?.getD .un).isOwn = true ∧ WpX Z (f ρ) fun d ρ1 => ∃ v o', gOf i d ρ1 = some (some v, o') ∧ Q v (setHeld i o' ρ1)) := by
  unfold dGGet; rw [wp_guard, wp_bind]; congr 1; congr 1; funext d ρ1
  unfold gOf
  cases (hobj i ρ1).bind fun o => (keyG d).bind fun k => gGet o k with
  | none => rw [wp_bad]; simp
  | some ro =>
    obtain ⟨r, o'⟩ := ro
    cases r with
    | none => rw [wp_bad]; simp
    | some v =>
      rw [wp_ok]
      exact propext ⟨fun h => ⟨v, o', rfl, h⟩, fun ⟨v1, o1, e, h⟩ => by cases e; exact h⟩
theorem wp_inG (neg : Bool) (i : Nat) (f : DEnv → Res PyData) : WpX Z (dGIn neg i f ρ) Q = WpX Z (f ρ) fun d ρ1 => ∃ r o', gOf i d ρ1 = some (r, o') ∧ Q (.bool (if neg then !r.isSome else r.isSome)) (setHeld i o' ρ1) := by
  unfold dGIn; rw [wp_bind]; congr 1; funext d ρ1
  unfold gOf
  cases (hobj i ρ1).bind fun o => (keyG d).bind fun k => gGet o k with
  | none => rw [wp_bad]; simp
  | some ro =>
    obtain ⟨r, o'⟩ := ro
    rw [wp_ok]
    exact propext ⟨fun h => ⟨r, o', rfl, h⟩, fun ⟨r1, o1, e, h⟩ => by cases e; exact h⟩
theorem ws_dputG (i : Nat) (f g : DEnv → Res PyData) : WpX Z (sDPutG i f g ρ) S = WpX Z (f ρ) fun d ρ1 => (ρ1[i]?.getD .un).isOwn = true ∧ WpX Z (g ρ1) fun k ρ2 => ∃ o', gPutOf i k d ρ2 = some o' ∧ S .nx (setHeld i o' ρ2) := by
  unfold sDPutG; rw [wp_bind]; congr 1; funext d ρ1
  rw [wp_guard, wp_bind]; congr 1; congr 1; funext k ρ2
  unfold gPutOf
  cases (hobj i ρ2).bind fun o => (keyG k).bind fun k => gPut o k d with
  | none => rw [wp_bad]; simp
  | some o' => rw [wp_ok]; simp
end
end DL
set_option Elab.async false
set_option linter.all false
set_option maxRecDepth 100000
set_option maxHeartbeats 4000000
namespace DL
open PySem PySem.Spec PyProof PyProof.Rows L2
section
variable [Td]
def pair1 (fk fv : DEnv → Res PyData) : DEnv → Res (Key × PyData) := fun ρ => (fk ρ).bind fun k ρ1 => (fv ρ1).bind fun d ρ2 => Res.of ((keyD k).map fun x => (x, d)) ρ2
def fDisp1 (fk fv : DEnv → Res PyData) : DEnv → Res OD := fun ρ => (pair1 fk fv ρ).bind fun kd ρ1 => .ok (.dk (mergeD [] [kd])) ρ1
theorem wp_disp1 {Z : Exn → DEnv → Prop} {ρ : DEnv} {O : OD → DEnv → Prop} (fk fv : DEnv → Res PyData) : WpX Z (fDisp1 fk fv ρ) O = WpX Z (fk ρ) fun k ρ1 => WpX Z (fv ρ1) fun d ρ2 => ∃ x, keyD k = some x ∧ O (.dk (mergeD [] [(x, d)])) ρ2 := by
  unfold fDisp1 pair1
  simp only [wp_bind, wp_ok]
  congr 1
  funext k ρ1
  congr 1
  funext d ρ2
  cases keyD k with
  | none => show WpX Z (Res.of none ρ2) _ = _; rw [show (Res.of none ρ2 : Res (Key × PyData)) = .bad from rfl, wp_bad]; simp
  | some x => show WpX Z (Res.of (some (x, d)) ρ2) _ = _; rw [wp_of_some]; simp
end
end DL
set_option Elab.async false
set_option linter.all false
set_option maxRecDepth 100000
set_option maxHeartbeats 4000000
namespace DL
open PySem PySem.Spec PyProof PyProof.Rows L2
end DL
set_option Elab.async false
set_option linter.all false
set_option maxRecDepth 100000
set_option maxHeartbeats 4000000
namespace DL
open PySem PySem.Spec PyProof PyProof.Rows L2 PySem.W
end DL
set_option Elab.async false
set_option linter.all false
set_option maxRecDepth 100000
set_option maxHeartbeats 4000000
namespace DL
open PySem PySem.Spec PyProof PyProof.Rows L2
end DL
set_option Elab.async false
set_option linter.all false
set_option maxRecDepth 100000
set_option maxHeartbeats 4000000
namespace DL
open PySem PySem.Spec PyProof PyProof.Rows L2
variable [Td]
/-- the values of a module's dict -/
def vBa (K : PySem.W.Frag) (a : Addr) (kvs : List (Str × PyData)) : Bool := kvs.all fun q => match PySem.W.nsIn K a q.1 with
  | some (some u) => dvB K q.2 u
  | _ => false
theorem KDc.of {K : PySem.W.Frag} {w : World} {mg : Str → Option Value} {nm : Str} {kvs : List (Str × PyData)} {a : Addr} (hg : mg nm = some (.ref a)) (e3 : He.dicW K a = some (He.keysIn w.params (kvs.map (·.1)))) (v : vBa K a kvs = true) : KDc K w mg nm kvs := by
  obtain ⟨es, n, D⟩ := He.dicW_ok e3
  refine ⟨⟨_, es, n, hg, D, fun z => ?_⟩⟩
  cases q : kvs.lookup z with
  | some d =>
    have h2 := List.all_eq_true.mp v (z, d) (PySem.mem_of_lookup q)
    have h2 : (match PySem.W.nsIn K a z with
      | some (some u) => dvB K d u
      | _ => false) = true := h2
    cases y : PySem.W.nsIn K a z with
    | none => rw [y] at h2; cases h2
    | some r =>
      rw [y] at h2
      cases r with
      | none => cases h2
      | some u =>
        obtain ⟨v, r, p⟩ := dvB_ok h2
        exact ⟨u, v, y, r, p⟩
  | none =>
    show PySem.W.nsIn K _ z = some none
    have hz : z ∉ kvs.map (·.1) := fun m => by
      obtain ⟨p, hp, rfl⟩ := List.mem_map.mp m
      exact absurd q (by
        have : ∀ l : List (Str × PyData), p ∈ l → l.lookup p.1 ≠ none := fun l => by
          induction l with
          | nil => intro h; cases h
          | cons x l ih =>
            intro h
            rw [show x = (x.1, x.2) from rfl, List.lookup_cons]
            split
            · intro z; cases z
            · rename_i ne
              rcases List.mem_cons.mp h with e | h
              · subst e
                simp at ne
              · exact ih h
        exact this _ hp)
    have hd := e3
    unfold He.dicW at hd
    unfold PySem.W.nsIn
    have hk : K.lookup a = some ⟨.type "dict", none, .dict es n, #[]⟩ := D.at_
    rw [hk] at hd ⊢
    have hd : (match decide (("dict" : String) = "dict") && ((#[] : Array (Option Value)).isEmpty && !(a == sysModules)) with
      | true => some (es.toList.map He.keyOf)
      | false => none) = some (He.keysIn w.params (kvs.map (·.1))) := hd
    split at hd
    · have hd := Option.some.inj hd
      obtain ⟨a1, a2⟩ := keyOf_none hd hz
      show (match es.toList.find? (·.key.isStr z) with
        | some e => some (some e.val)
        | none => if es.toList.any (·.refKey) then none else some none) = some none
      rw [a1, a2]
      rfl
    · cases hd
end DL
set_option Elab.async false
set_option linter.all false
set_option maxRecDepth 100000
set_option maxHeartbeats 4000000
namespace DL
open PySem PySem.Spec PyProof PyProof.Rows L2
end DL
set_option Elab.async false
set_option linter.all false
set_option maxRecDepth 100000
set_option maxHeartbeats 4000000
namespace DL
open PySem PySem.Spec PyProof PyProof.Rows L2
variable [Td]
def zipF (xs ys : List PyData) : List PyData := (xs.zip ys).map fun p => ftD [p.1, p.2]
def fLstZip (f : DEnv → Res (List PyData)) : DEnv → Res OD := fun ρ => (f ρ).bind fun ds ρ1 => match ds with
  | [d, e] => match seqOf d, seqOf e with
    | some a, some b => if a.2.length ≤ sizeLine then .ok (.lst (zipF a.2 b.2)) ρ1 else .bad
    | _, _ => .bad
  | _ => .bad
theorem wp_lstZip {Z : Exn → DEnv → Prop} {ρ : DEnv} {O : OD → DEnv → Prop} (f : DEnv → Res (List PyData)) : WpX Z (fLstZip f ρ) O = WpX Z (f ρ) fun ds ρ1 => match ds with
    | [d, e] => ∃ a b, seqOf d = some a ∧ seqOf e = some b ∧ a.2.length ≤ sizeLine ∧ O (.lst (zipF a.2 b.2)) ρ1
    | _ => False := by
  unfold fLstZip
  rw [wp_bind]
  congr 1
  funext ds ρ1
  match ds with
  | [] => exact wp_bad _
  | [_] => exact wp_bad _
  | [d, e] =>
    dsimp only
    cases e1 : seqOf d with
    | none => simp only [wp_bad]; simp
    | some a =>
      cases e2 : seqOf e with
      | none => simp only [wp_bad]; simp
      | some b =>
        dsimp only
        by_cases hz : a.2.length ≤ sizeLine
        · rw [if_pos hz, wp_ok]
          exact propext ⟨fun h => ⟨a, b, rfl, rfl, hz, h⟩, fun ⟨a', b', h1, h2, _, h⟩ => by cases h1; cases h2; exact h⟩
        · rw [if_neg hz, wp_bad]
          simp only [false_iff, eq_iff_iff]
          rintro ⟨a', b', h1, _, h, _⟩
          cases h1
          exact hz h
  | _ :: _ :: _ :: _ => exact wp_bad _
end DL
set_option Elab.async false
set_option linter.all false
set_option maxRecDepth 100000
set_option maxHeartbeats 4000000
namespace DL
open PySem PySem.Spec PyProof PyProof.Rows L2
variable [Td]
def dcLS {α : Type} (put : α → PyData → PyData → Option α) (vs : List Nat) (gd : PyData → DEnv → Option DEnv) (ft : DEnv → Res Bool) (fk fv : DEnv → Res PyData) : List PyData → α → DEnv → Res α
  | [], acc, ρ => .ok acc ρ
  | d :: ds, acc, ρ => match gd d ρ with
    | none => .bad
    | some ρ1 => match ft ρ1 with
      | .ok true ρ2 => match fk ρ2 with
        | .ok kd ρ3 => match fv ρ3 with
          | .ok y ρ4 => match put acc kd y with
            | some acc' => dcLS put vs gd ft fk fv ds acc' (wipeC ρ4 vs)
            | none => .bad
          | _ => .bad
        | _ => .bad
      | .ok false ρ2 => dcLS put vs gd ft fk fv ds acc (wipeC ρ2 vs)
      | _ => .bad
def fDcS {α : Type} (put : α → PyData → PyData → Option α) (emp : α) (vs : List Nat) (fi : DEnv → Res (List PyData)) (gd : PyData → DEnv → Option DEnv) (ft : DEnv → Res Bool) (fk fv : DEnv → Res PyData) : DEnv → Res α := fun ρ => (fi ρ).bind fun ds ρ1 => match dcLS put vs gd ft fk fv ds emp (wipeC ρ1 vs) with
  | .ok acc ρ2 => .ok acc (unwipe vs ρ1 ρ2)
  | _ => .bad
def addQ {κ : Type} [DecidableEq κ] (l : List κ) (x : κ) : List κ := if x ∈ l then l else l ++ [x]
def putG (o : OD) (kd d : PyData) : Option OD := (keyG kd).bind fun k => gPut o k d
inductive GKs where
  | k (l : List Key)
  | t (l : List (List Key))
  | n (l : List (NestedKey × PyData))
def addN (l : List (NestedKey × PyData)) (x : NestedKey) (d : PyData) : List (NestedKey × PyData) := if x ∈ l.map (·.1) then l else l ++ [(x, d)]
def putKs (o : GKs) (kd _d : PyData) : Option GKs := match o, keyG kd with
  | .k l, some (.k x) => if l.length < sizeLine then some (.k (addQ l x)) else none
  | .k [], some (.t x) => some (.t [x])
  | .t l, some (.t x) => if l.length < sizeLine then some (.t (addQ l x)) else none
  | .k [], some (.n x d) => some (.n [(x, d)])
  | .n l, some (.n x d) => if l.length < sizeLine then some (.n (addN l x d)) else none
  | _, _ => none
def GKs.dat : GKs → List PyData
  | .k l => l.map keyDat
  | .t l => l.map fun x => ftD (x.map keyDat)
  | .n l => l.map (·.2)
def fDcG (vs : List Nat) (fi : DEnv → Res (List PyData)) (gd : PyData → DEnv → Option DEnv) (ft : DEnv → Res Bool) (fk fv : DEnv → Res PyData) : DEnv → Res OD := fDcS putG (.dk []) vs fi gd ft fk fv
def fKeysG (vs : List Nat) (fi : DEnv → Res (List PyData)) (gd : PyData → DEnv → Option DEnv) (ft : DEnv → Res Bool) (fk fv : DEnv → Res PyData) : DEnv → Res OD := fun ρ => (fDcS putKs (.k []) vs fi gd ft fk fv ρ).bind fun ks ρ1 => .ok (.lst ks.dat) ρ1
section
variable {Z : Exn → DEnv → Prop} {ρ : DEnv}
theorem wp_dcS {α : Type} (put : α → PyData → PyData → Option α) (emp : α) (vs : List Nat) (fi : DEnv → Res (List PyData)) (gd : PyData → DEnv → Option DEnv) (ft : DEnv → Res Bool) (fk fv : DEnv → Res PyData) {O : α → DEnv → Prop} : WpX Z (fDcS put emp vs fi gd ft fk fv ρ) O = WpX Z (fi ρ) fun ds ρ1 => WpX Zn (dcLS put vs gd ft fk fv ds emp (wipeC ρ1 vs)) fun acc ρ2 => O acc (unwipe vs ρ1 ρ2) := by
  unfold fDcS
  rw [wp_bind]
  congr 1
  funext ds ρ1
  cases dcLS put vs gd ft fk fv ds emp (wipeC ρ1 vs) with
  | ok a ρ2 => rw [wp_ok, wp_ok]
  | err x c => rw [wpq]; rfl
  | bad => rw [wpq]; rfl
theorem wp_dcG (vs : List Nat) (fi : DEnv → Res (List PyData)) (gd : PyData → DEnv → Option DEnv) (ft : DEnv → Res Bool) (fk fv : DEnv → Res PyData) {O : OD → DEnv → Prop} : WpX Z (fDcG vs fi gd ft fk fv ρ) O = WpX Z (fi ρ) fun ds ρ1 => WpX Zn (dcLS putG vs gd ft fk fv ds (.dk []) (wipeC ρ1 vs)) fun acc ρ2 => O acc (unwipe vs ρ1 ρ2) := wp_dcS ..
theorem wp_keysG (vs : List Nat) (fi : DEnv → Res (List PyData)) (gd : PyData → DEnv → Option DEnv) (ft : DEnv → Res Bool) (fk fv : DEnv → Res PyData) {O : OD → DEnv → Prop} : WpX Z (fKeysG vs fi gd ft fk fv ρ) O = WpX Z (fi ρ) fun ds ρ1 => WpX Zn (dcLS putKs vs gd ft fk fv ds (.k []) (wipeC ρ1 vs)) fun acc ρ2 => O (.lst acc.dat) (unwipe vs ρ1 ρ2) := by
  unfold fKeysG
  rw [wp_bind, wp_dcS]
  congr 1
  funext ds ρ1
  congr 1
  funext acc ρ2
  exact wp_ok ..
end
end DL
set_option Elab.async false
set_option linter.all false
set_option maxRecDepth 100000
set_option maxHeartbeats 4000000
namespace DL
open PySem PySem.Spec PyProof PyProof.Rows L2
variable [Td]
def oIxF (d k : PyData) : Option PyData := match unFt d with
  | some ds => oIx (.tuple ds) k
  | none => oIx d k
theorem oIxF_ft (ds : List PyData) (k : PyData) : oIxF (ftD ds) k = oIx (.tuple ds) k := rfl
end DL
set_option Elab.async false
set_option linter.all false
set_option maxRecDepth 100000
set_option maxHeartbeats 4000000
namespace DL
open PySem PySem.Spec PyProof PyProof.Rows L2
variable [Td]
def pair1G (fk fv : DEnv → Res PyData) : DEnv → Res (PyData × PyData) := fun ρ => (fk ρ).bind fun k ρ1 => (fv ρ1).bind fun d ρ2 => .ok (k, d) ρ2
def fDisp1G (fk fv : DEnv → Res PyData) : DEnv → Res OD := fun ρ => (pair1G fk fv ρ).bind fun kd ρ1 => match putG (.dk []) kd.1 kd.2 with
  | some o => .ok o ρ1
  | none => .bad
theorem wp_disp1G {Z : Exn → DEnv → Prop} {ρ : DEnv} {O : OD → DEnv → Prop} (fk fv : DEnv → Res PyData) : WpX Z (fDisp1G fk fv ρ) O = WpX Z (fk ρ) fun k ρ1 => WpX Z (fv ρ1) fun d ρ2 => ∃ o, putG (.dk []) k d = some o ∧ O o ρ2 := by
  unfold fDisp1G pair1G
  simp only [wp_bind, wp_ok]
  congr 1
  funext k ρ1
  congr 1
  funext d ρ2
  cases q : putG (.dk []) k d with
  | none => simp only [wp_bad]; simp
  | some o => simp only [wp_ok]; simp
end DL
set_option Elab.async false
set_option linter.all false
set_option maxRecDepth 100000
set_option maxHeartbeats 4000000
namespace DL
open PySem PySem.Spec PyProof PyProof.Rows L2
variable [Td]
def dCallCX (den : DEnv → Res PyData) (fs : DEnv → Res (List AE)) : DEnv → Res PyData := fun ρ => (fs ρ).bind fun as ρ1 => match den (as.map AE.cell) with
  | .ok d _ => .ok d ρ1
  | .err x _ => .err x ρ1
  | .bad => .bad
def dCallCdX (den : DEnv → Res PyData) (is : List Int) (fs : DEnv → Res (List AE)) : DEnv → Res PyData := fun ρ => (fs ρ).bind fun as ρ1 => match den ((as ++ is.map (fun i => AE.dat (.int i))).map AE.cell) with
  | .ok d _ => .ok d ρ1
  | .err x _ => .err x ρ1
  | .bad => .bad
theorem takes0 {X : Cx} : Takes X W0 := fun u s' ⟨_, _, _, _, _, _, _, _, _, _, _, _, _, _, _, _, w⟩ => w.elim
def dCallN (den : DEnv → Res PyData) (fs : DEnv → Res (List PyData)) : DEnv → Res PyData := fun ρ => match fs ρ with
  | .ok ds ρ1 => match den (ds.map .val) with
    | .ok d _ => .ok d ρ1
    | _ => .bad
  | _ => .bad
def dCallCN (den : DEnv → Res PyData) (fs : DEnv → Res (List AE)) : DEnv → Res PyData := fun ρ => match fs ρ with
  | .ok as ρ1 => match den (as.map AE.cell) with
    | .ok d _ => .ok d ρ1
    | _ => .bad
  | _ => .bad
section
variable {Z : Exn → DEnv → Prop} {ρ : DEnv} {Q : PyData → DEnv → Prop} {S : Out → DEnv → Prop}
theorem wp_errI {α : Type} {x : Exn} {ρ : DEnv} {Q : α → DEnv → Prop} : WpX Z (.err x ρ : Res α) Q = Z x ρ := by rw [wpq]; rfl
theorem wp_callX (den : DEnv → Res PyData) (fs : DEnv → Res (List PyData)) : WpX Z (dCallX den fs ρ) Q = WpX Z (fs ρ) fun ds ρ1 => WpX (fun x _ => Z x ρ1) (den (ds.map .val)) fun d _ => Q d ρ1 := by
  unfold dCallX
  rw [wp_bind]
  congr 1
  funext ds ρ1
  cases den (ds.map .val) with
  | ok d c => rw [wp_ok, wp_ok]
  | err x c => rw [wp_errI, wp_errI]
  | bad => rw [wp_bad, wp_bad]
theorem wp_callCX (den : DEnv → Res PyData) (fs : DEnv → Res (List AE)) : WpX Z (dCallCX den fs ρ) Q = WpX Z (fs ρ) fun as ρ1 => WpX (fun x _ => Z x ρ1) (den (as.map AE.cell)) fun d _ => Q d ρ1 := by
  unfold dCallCX
  rw [wp_bind]
  congr 1
  funext ds ρ1
  cases den (ds.map AE.cell) with
  | ok d c => rw [wp_ok, wp_ok]
  | err x c => rw [wp_errI, wp_errI]
  | bad => rw [wp_bad, wp_bad]
theorem wp_callCdX (den : DEnv → Res PyData) (is : List Int) (fs : DEnv → Res (List AE)) : WpX Z (dCallCdX den is fs ρ) Q = WpX Z (fs ρ) fun as ρ1 => WpX (fun x _ => Z x ρ1) (den ((as ++ is.map (fun i => AE.dat (.int i))).map AE.cell)) fun d _ => Q d ρ1 := by
  unfold dCallCdX
  rw [wp_bind]
  congr 1
  funext ds ρ1
  cases den ((ds ++ is.map (fun i => AE.dat (.int i))).map AE.cell) with
  | ok d c => rw [wp_ok, wp_ok]
  | err x c => rw [wp_errI, wp_errI]
  | bad => rw [wp_bad, wp_bad]
theorem wp_callN (den : DEnv → Res PyData) (fs : DEnv → Res (List PyData)) : WpX Z (dCallN den fs ρ) Q = WpX Zn (fs ρ) fun ds ρ1 => WpX Zn (den (ds.map .val)) fun d _ => Q d ρ1 := by
  unfold dCallN
  cases fs ρ with
  | bad => simp only [wp_bad]
  | err x c => rw [wp_bad, wp_errI]
  | ok ds ρ1 =>
    rw [wp_ok]
    dsimp only
    cases r : den (ds.map .val) with
    | ok d c => simp only [wp_ok]
    | err x c => simp only [wp_bad, wp_errI]
    | bad => simp only [wp_bad]
theorem wp_callCN (den : DEnv → Res PyData) (fs : DEnv → Res (List AE)) : WpX Z (dCallCN den fs ρ) Q = WpX Zn (fs ρ) fun ds ρ1 => WpX Zn (den (ds.map AE.cell)) fun d _ => Q d ρ1 := by
  unfold dCallCN
  cases fs ρ with
  | bad => simp only [wp_bad]
  | err x c => rw [wp_bad, wp_errI]
  | ok ds ρ1 =>
    rw [wp_ok]
    dsimp only
    cases r : den (ds.map AE.cell) with
    | ok d c => simp only [wp_ok]
    | err x c => simp only [wp_bad, wp_errI]
    | bad => simp only [wp_bad]
theorem ws_raise (x : Str) (f : DEnv → Res (List PyData)) : WpX Z (sRaise x f ρ) S = WpX Z (f ρ) fun ds ρ1 => ds.length ≤ sizeLine ∧ Z ⟨x, []⟩ ρ1 := by
  unfold sRaise
  rw [wp_bind]
  congr 1
  funext ds ρ1
  by_cases h : ds.length ≤ sizeLine
  · rw [if_pos h, wp_errI]; simp [h]
  · rw [if_neg h, wp_bad]; simp [h]
theorem wp_defX (m : Nat) (body : DEnv → Res Out) (cs : DEnv) (h : WpX (fun x ρ' => Z x (backIO cs ρ')) (body (cs ++ List.replicate m .un)) (retQ cs Q)) : WpX Z (defD m body cs) Q := by
  unfold defD
  cases r : body (cs ++ List.replicate m .un) with
  | bad => rw [r, wp_bad] at h; exact h.elim
  | err x ρ' => rw [r, wp_errI] at h; dsimp only; rw [wp_errI]; exact h
  | ok o ρ' =>
    rw [r, wp_ok] at h
    cases o with
    | nx => dsimp only; rw [wp_ok]; exact h
    | rt d => dsimp only; rw [wp_ok]; exact h
    | bk => exact h.elim
    | ct => exact h.elim
theorem ws_tryAs {i : Nat} {m : Str → Option Bool} {fb : DEnv → Res Out} {fs : Exn → DEnv → Res Out} (h : WpX (fun x ρ1 => match m x.cls with
    | some true => ∃ ρ2, setU i ρ1 = some ρ2 ∧ WpX Z (endR i (fs x ρ2)) S
    | some false => Z x ρ1
    | none => False) (fb ρ) S) : WpX Z (sTryAs i m fb fs ρ) S := by
  unfold sTryAs
  cases r : fb ρ with
  | bad => rw [r, wp_bad] at h; exact h.elim
  | ok o ρ1 => rw [r, wp_ok] at h; rw [wp_ok]; exact h
  | err x ρ1 =>
    rw [r, wp_errI] at h
    dsimp only at h ⊢
    cases q : m x.cls with
    | none => rw [q] at h; exact h.elim
    | some b =>
      cases b with
      | true =>
        rw [q] at h
        obtain ⟨ρ2, e, h⟩ := h
        dsimp only
        rw [e]
        exact h
      | false => rw [q] at h; dsimp only; rw [wp_errI]; exact h
end
end DL
set_option Elab.async false
set_option linter.all false
set_option maxRecDepth 100000
set_option maxHeartbeats 4000000
namespace DL
open PySem PySem.Spec PyProof PyProof.Rows L2
variable [Td]
def dFmt (f : DEnv → Res PyData) : DEnv → Res PyData := fun ρ => (f ρ).bind fun d ρ1 => match d with
  | .str y => if y.length ≤ sizeLine then .ok (.str y) ρ1 else .bad
  | .int i => if i.natAbs.log2 < 1920 then .ok (.str (toString i)) ρ1 else .bad
  | _ => .bad
def dJs : List (DEnv → Res PyData) → Str → DEnv → Res PyData
  | [], acc, ρ => .ok (.str acc) ρ
  | f :: fs, acc, ρ => (f ρ).bind fun d ρ1 => match d with
    | .str y => if (acc ++ y).length ≤ sizeLine then dJs fs (acc ++ y) ρ1 else .bad
    | _ => .bad
inductive JS (X : Cx) (E : WX) : List Expr → List (DEnv → Res PyData) → Prop where
  | nil : JS X E [] []
  | cons {e : Expr} {f : DEnv → Res PyData} {es : List Expr} {fs : List (DEnv → Res PyData)} (h : EJ X E e f) (r : JS X E es fs) : JS X E (e :: es) (f :: fs)
section
variable {X : Cx} {E : WX} {e : Expr} {f : DEnv → Res PyData} {pos : Pos}
theorem e_fmt (h : EJ X E e f) : EJ X E (.FormattedValue e (-1) none pos) (dFmt f) := by
  obtain ⟨t, q, p⟩ := h
  refine ⟨_, pe_fmt q, fun σ G H ρ Q R h => p σ G H ρ _ R (Post.bind h fun G1 H1 v d ρ1 R1 S1 hv h1 => ?_)⟩
  cases hv with
  | str y =>
    dsimp only at h1
    by_cases hz : y.length ≤ sizeLine
    · rw [if_pos hz] at h1
      exact .inl ⟨y, rfl, hz, Post.done R1 h1 (.str y)⟩
    · rw [if_neg hz] at h1; exact h1.elim
  | int i =>
    dsimp only at h1
    by_cases hz : i.natAbs.log2 < 1920
    · rw [if_pos hz] at h1
      exact .inr ⟨i, rfl, hz, Post.done R1 h1 (.str _)⟩
    · rw [if_neg hz] at h1; exact h1.elim
  | _ => exact h1.elim
theorem js_read {es : List Expr} {fs : List (DEnv → Res PyData)} (h : JS X E es fs) : ∃ ts, PJ X es ts ∧ ∀ (acc : Str) (σ : St) (G H : Hp) (ρ : DEnv) (Q : VK), Rel X.K G σ H ρ → EPost X E σ G H ρ Q (dJs fs acc ρ) → tJs ts acc σ H fun out H1 => Q (.str out) H1 := by
  induction h with
  | nil => exact ⟨[], .nil, fun acc σ G H ρ Q R h => h G H (.str acc) R Stp.refl (.str acc)⟩
  | cons h r ih =>
    obtain ⟨ts, h1, h2⟩ := ih
    obtain ⟨t, q, p⟩ := h
    refine ⟨t :: ts, .cons q h1, fun acc σ G H ρ Q R h => p σ G H ρ _ R (Post.bind h fun G1 H1 v d ρ1 R1 S1 hv h3 => ?_)⟩
    cases hv with
    | str y =>
      dsimp only at h3
      by_cases hz : (acc ++ y).length ≤ sizeLine
      · rw [if_pos hz] at h3
        exact ⟨y, rfl, hz, h2 _ σ G1 H1 ρ1 Q R1 h3⟩
      · rw [if_neg hz] at h3; exact h3.elim
    | _ => exact h3.elim
theorem e_joined {v1 v2 : Expr} {rest : List Expr} {fs : List (DEnv → Res PyData)} (h : JS X E (v1 :: v2 :: rest) fs) : EJ X E (.JoinedStr (v1 :: v2 :: rest) pos) (dJs fs Str.empty) := by
  obtain ⟨ts, h1, h2⟩ := js_read h
  exact ⟨_, pe_joined h1, fun σ G H ρ Q R h => h2 _ σ G H ρ Q R h⟩
end
structure XcF (K : PySem.W.Frag) (mg : Str → Option Value) (x : Str) (C : Addr) : Prop where
  g : mg x = some (.ref C)
  ex : PySem.W.excIn K C [.type "ValueError", .type "Exception", .type "BaseException", .type "object"] "ValueError.__new__" = true
  kp : PySem.W.keepIn K (.ref C) = true
  sb : PySem.W.subIn K (.ref C) (.type "BaseException") = some true
  ty : PySem.W.typeIn K (.ref C) = some (.type "type")
  cc : ExcC K C
theorem XcF.exF {K : PySem.W.Frag} {mg : Str → Option Value} {x : Str} {C : Addr} (F : XcF K mg x C) : ExF K mg x := ⟨C, F.g, F.ex, F.kp, F.sb, F.ty⟩
/-- one class that is told of, with its answer -/
def tab1 (l : List (Str × Bool)) (n : Str) : Option Bool := l.lookup n
theorem matches_of {K : PySem.W.Frag} {mg : Str → Option Value} {c : Value} {l : List (Str × Bool)} (h : ∀ p ∈ l, ∀ C, mg p.1 = some (.ref C) → PySem.W.exmOne K (.ref C) c = some p.2) : Matches K mg c (tab1 l) := fun n b e C g => h (n, b) (PySem.mem_of_lookup e) C g
theorem isF_of {K : PySem.W.Frag} {mg : Str → Option Value} {c : Value} {l : List (Str × Bool)} (h : ∀ p ∈ l, ∀ C, mg p.1 = some (.ref C) → ExcC K C ∧ PySem.W.kitOne K (.ref C) c = some p.2) : IsF K mg c (tab1 l) := ⟨fun n b e C g => h (n, b) (PySem.mem_of_lookup e) C g⟩
def sTryN (i : Nat) (m : Str → Option Bool) (fb : DEnv → Res Out) (fs : Exn → DEnv → Res Out) : DEnv → Res Out := fun ρ => match sTryAs i m fb fs ρ with
  | .ok o ρ1 => .ok o ρ1
  | _ => .bad
theorem s_tryN {X : Cx} {W : WX} {x n : Str} {c : Value} {body suite : List Stmt} {b₀ : Stmt} {np pos pos' : Pos} {m : Str → Option Bool} {fb : DEnv → Res Out} {fs : Exn → DEnv → Res Out} (i : Nat)
    (hs : X.stack = X.env :: X.outer) (hf : X.env.frame = some X.env.locals) (hN : X.N.Nodup) (hi : X.N[i]? = some n) (hln : X.env.kindOf n = some .local) (hc : Names X x c) (hm : Matches X.K X.mg c m)
    (hb : ∀ (W' : WX) (pn : List (Addr × Obj)) (xe : Value → Shared → Prop), Takes (X.tr pn xe) W' → PassesOwn (model X.prog X.w) X.A X.env xe → BJ (X.tr pn xe) W' body fb) (hu : UJ X i (b₀ :: suite) fs) :
    SJ X W (.Try body [.ExceptHandler (some (.Name x np)) (some n) (b₀ :: suite) pos'] [] [] pos) (sTryN i m fb fs) := by
  obtain ⟨t, q, p⟩ := s_tryAs (W := W0) i hs hf hN hi hln hc takes0 hm hb hu (pos := pos) (np := np) (pos' := pos')
  refine ⟨t, q, fun σ G H ρ D R h => p σ G H ρ D R ?_⟩
  unfold sTryN at h
  cases r : sTryAs i m fb fs ρ with
  | bad => rw [r] at h; exact h.elim
  | err x c => rw [r] at h; exact h.elim
  | ok o c => rw [r] at h; cases o <;> exact h
theorem ws_tryN {Z : Exn → DEnv → Prop} {ρ : DEnv} {S : Out → DEnv → Prop} {i : Nat} {m : Str → Option Bool} {fb : DEnv → Res Out} {fs : Exn → DEnv → Res Out} (h : WpX (fun x ρ1 => match m x.cls with
    | some true => ∃ ρ2, setU i ρ1 = some ρ2 ∧ WpX Zn (endR i (fs x ρ2)) S
    | some false => False
    | none => False) (fb ρ) S) : WpX Z (sTryN i m fb fs ρ) S := by
  have h2 := ws_tryAs (Z := Zn) h
  unfold sTryN
  obtain ⟨o, ρ1, e, h3⟩ := h2.get
  rw [e]
  dsimp only
  rw [wp_ok]
  exact h3
section
variable {Z : Exn → DEnv → Prop} {ρ : DEnv} {Q : PyData → DEnv → Prop}
theorem wp_js_nil (acc : Str) : WpX Z (dJs [] acc ρ) Q = Q (.str acc) ρ := wp_ok ..
theorem wp_js_cons (f : DEnv → Res PyData) (fs : List (DEnv → Res PyData)) (acc : Str) : WpX Z (dJs (f :: fs) acc ρ) Q = WpX Z (f ρ) fun d ρ1 => ∃ y, d = .str y ∧ (acc ++ y).length ≤ sizeLine ∧ WpX Z (dJs fs (acc ++ y) ρ1) Q := by
  show WpX Z ((f ρ).bind fun d ρ1 => match d with
    | .str y => if (acc ++ y).length ≤ sizeLine then dJs fs (acc ++ y) ρ1 else .bad
    | _ => .bad) Q = _
  rw [wp_bind]
  congr 1
  funext d ρ1
  cases d with
  | str y =>
    dsimp only
    by_cases hz : (acc ++ y).length ≤ sizeLine
    · rw [if_pos hz]
      exact propext ⟨fun h => ⟨y, rfl, hz, h⟩, fun ⟨y', e, _, h⟩ => by cases e; exact h⟩
    · rw [if_neg hz, wp_bad]
      exact propext ⟨fun h => h.elim, fun ⟨y', e, h, _⟩ => by cases e; exact hz h⟩
  | _ => dsimp only; rw [wp_bad]; exact propext ⟨fun h => h.elim, fun ⟨y', e, _⟩ => by cases e⟩
theorem wp_fmt (f : DEnv → Res PyData) : WpX Z (dFmt f ρ) Q = WpX Z (f ρ) fun d ρ1 => (∃ y, d = .str y ∧ y.length ≤ sizeLine ∧ Q (.str y) ρ1) ∨ ∃ i : Int, d = .int i ∧ i.natAbs.log2 < 1920 ∧ Q (.str (toString i)) ρ1 := by
  unfold dFmt
  rw [wp_bind]
  congr 1
  funext d ρ1
  cases d with
  | str y =>
    dsimp only
    by_cases hz : y.length ≤ sizeLine
    · rw [if_pos hz, wp_ok]
      exact propext ⟨fun h => .inl ⟨y, rfl, hz, h⟩, fun h => by rcases h with ⟨y', e, _, h⟩ | ⟨i, e, _⟩ <;> cases e; exact h⟩
    · rw [if_neg hz, wp_bad]
      exact propext ⟨fun h => h.elim, fun h => by rcases h with ⟨y', e, h, _⟩ | ⟨i, e, _⟩ <;> cases e; exact hz h⟩
  | int i =>
    dsimp only
    by_cases hz : i.natAbs.log2 < 1920
    · rw [if_pos hz, wp_ok]
      exact propext ⟨fun h => .inr ⟨i, rfl, hz, h⟩, fun h => by rcases h with ⟨y', e, _⟩ | ⟨i, e, _, h⟩ <;> cases e; exact h⟩
    · rw [if_neg hz, wp_bad]
      exact propext ⟨fun h => h.elim, fun h => by rcases h with ⟨y', e, _⟩ | ⟨i, e, h, _⟩ <;> cases e; exact hz h⟩
  | _ => dsimp only; rw [wp_bad]; exact propext ⟨fun h => h.elim, fun h => by rcases h with ⟨y', e, _⟩ | ⟨i, e, _⟩ <;> cases e⟩
end
end DL
set_option Elab.async false
set_option linter.all false
set_option maxRecDepth 100000
set_option maxHeartbeats 4000000
namespace DL
open PySem PySem.Spec PyProof PyProof.Rows L2
end DL
set_option Elab.async false
set_option linter.all false
set_option maxRecDepth 100000
set_option maxHeartbeats 4000000
namespace DL
open PySem PySem.Spec PyProof PyProof.Rows L2
end DL
set_option Elab.async false
set_option linter.all false
set_option maxRecDepth 100000
set_option maxHeartbeats 4000000
namespace DL
open PySem PySem.Spec PyProof PyProof.Rows L2
end DL
set_option Elab.async false
set_option linter.all false
set_option maxRecDepth 100000
set_option maxHeartbeats 4000000
namespace DL
open PySem PySem.Spec PyProof PyProof.Rows L2
end DL
set_option Elab.async false
set_option linter.all false
set_option maxRecDepth 100000
set_option maxHeartbeats 4000000
namespace DL
open PySem PySem.Spec PyProof PyProof.Rows L2
end DL
set_option Elab.async false
set_option linter.all false
set_option maxRecDepth 100000
set_option maxHeartbeats 4000000
namespace DL
open PySem PySem.Spec PyProof PyProof.Rows L2
end DL
set_option Elab.async false
set_option linter.all false
set_option maxRecDepth 100000
set_option maxHeartbeats 4000000
namespace DL
open PySem PySem.Spec PyProof PyProof.Rows L2
end DL
set_option Elab.async false
set_option linter.all false
set_option maxRecDepth 100000
set_option maxHeartbeats 4000000
namespace DL
open PySem PySem.Spec PyProof PyProof.Rows L2
end DL
set_option Elab.async false
set_option linter.all false
set_option maxRecDepth 100000
set_option maxHeartbeats 4000000
namespace DL
open PySem PySem.Spec PyProof PyProof.Rows L2
end DL
set_option Elab.async false
set_option linter.all false
set_option maxRecDepth 100000
set_option maxHeartbeats 4000000
namespace DL
open PySem PySem.Spec PyProof PyProof.Rows L2
end DL
set_option Elab.async false
set_option linter.all false
set_option maxRecDepth 100000
set_option maxHeartbeats 4000000
namespace PySem
namespace OWN
open PySem.W PySem.Calls PyProof.Rows
section
variable {prog : Program} {w : World} {A : Around} {E : Value → Shared → Prop} {h : Heap} {g : Array GenState} {d : Drawn} {t : Nat} {os : OsState}
variable {nm q : Str} {C N : Addr} {bs bm : List Value} {hdct : Bool} {sn : List Str} {sub : List Value} {ab : Bool} {col : Option Bool} {dd : Option Addr} {k0 k1 k2 k3 k5 : Option Value}
/-- ValueError.__init__, bound to an exception, called -/
theorem call_mw {u e t0 : Addr} {rest : List Value} {Q : Value → Shared → Prop}
    (hC : h.get? C = some (excClassObj nm q C N bs bm hdct sn sub ab col dd k0 k1 k2 k3 k5 "ValueError.__new__")) (he : h.get? e = some (HandSPX.excO C t0)) (hu : h.get? u = some (kxs_mw "ValueError.__init__" e)) (hrest : rest.length ≤ sizeLine)
    (hq : ∀ h' t1, (∀ b o, b ≠ e → h.get? b = some o → h'.get? b = some o) → h'.get? e = some (HandSPX.excO C t1) → Q .none ⟨h', g, d, t, os⟩) :
    wpAny (model prog w) A (call (.ref u) rest) Q E ⟨h, g, d, t, os⟩ := by
  refine wpAny_call (codeAny_of_tree ?_)
  show wpAny _ A.in1 (callAny (.ref u) ⟨rest, []⟩) _ _ _
  simp only [callAny]
  refine wpAny_bind (wpAny_load hu ?_)
  simp only [kxs_mw, show (Value.type "method-wrapper" == Value.type "method" || Value.type "method-wrapper" == Value.type "builtin_function_or_method" || Value.type "method-wrapper" == Value.type "method-wrapper") = true by decide, if_true]
  refine W.KFB.if_so (by decide) ?_
  refine wpAny_bind (ESX.check_bound F.excBase_ValueError hC he rfl ?_)
  refine wpAny_bind (wpAny_pure (wpAny_pure ?_))
  refine ⟨Code.quiet_builtin _ (by decide +kernel), codeAny_builtin F.excBase_ValueError.initEntry ?_⟩
  rw [Around.under_plainId F.excBase_ValueError.init.plain _]
  wp_walk
  refine hq _ h.objs.size (fun b o hb ho => ?_) ?_
  · rw [Heap.get?_update_other _ _ (Ne.symm hb)]
    exact Heap.get?_push_of_some _ ho
  · rw [Heap.get?_update_self _ (Heap.get?_push_of_some _ he) rfl]
    rfl
end
/-- a part of an exception's text: a text, or the argument -/
def PartB (p : Str) : Expr → Bool
  | .Constant (.str x) _ _ => decide (x.length ≤ 300)
  | .FormattedValue (.Name y _) k none _ => y == p && k == (-1)
  | _ => false
def Fit (v : Value) : Prop := (∃ y t, v = .str y t ∧ y.length ≤ 5000) ∨ ∃ i t, v = .int i t ∧ i.natAbs.log2 < 1920
section
variable {prog : Program} {w : World} {A : Around} {E : Value → Shared → Prop}
theorem strLen (a b : Str) : (a ++ b).length = a.length + b.length := strLen_append a b
theorem joins_parts {env : Env} {m : Str → Option Value} {p : Str} {v : Value} (hk : env.scope.kind = .function) (hl : env.kindOf p = some .local) (hd : (p == ("__debug__" : Str)) = false) (hv : Fit v) (hm : m p = some v) : ∀ (l : List Expr) (acc : Str) (s : Shared) (R : Str → Shared → Prop),
    l.all (PartB p) = true → acc.length + 6000 * l.length ≤ sizeLine → s.heap.Ns env.locals m → (∀ out k, out.length ≤ acc.length + 6000 * l.length → R out { s with toks := k }) → Joins (model prog w) A E (evalEach l env) acc R s
  | [], acc, s, R, _, _, _, h => by
    have e0 : evalEach [] env = [] := by first | rfl | simp [evalEach]
    rw [e0]
    exact h acc s.toks (Nat.le_add_right _ _)
  | x :: l, acc, s, R, ha, hz, hn, h => by
    have e0 : evalEach (x :: l) env = eval x env :: evalEach l env := by first | rfl | simp [evalEach]
    rw [e0]
    obtain ⟨h1, h2⟩ := Bool.and_eq_true_iff.mp (show (PartB p x && l.all (PartB p)) = true from ha)
    have key : ∀ (y : Str) (tk : Tok) (k : Nat), y.length ≤ 6000 → ∃ y' t, Value.str y tk = .str y' t ∧ (acc ++ y').length ≤ sizeLine ∧ Joins (model prog w) A E (evalEach l env) (acc ++ y') R { s with toks := k } := by
      intro y tk k hy
      have hl2 : (x :: l).length = l.length + 1 := rfl
      rw [hl2] at hz
      refine ⟨y, tk, rfl, by rw [strLen]; omega, joins_parts hk hl hd hv hm l (acc ++ y) { s with toks := k } R h2 (by rw [strLen]; omega) hn fun out k' ho => ?_⟩
      refine h out k' ?_
      rw [strLen] at ho
      rw [hl2]
      omega
    unfold PartB at h1
    split at h1
    · rename_i x j q
      exact wpAny_Constant_str (key x s.toks (s.toks + 1) (Nat.le_trans (of_decide_eq_true h1) (by decide)))
    · rename_i y q1 k q2
      obtain ⟨h3, h4⟩ := Bool.and_eq_true_iff.mp h1
      obtain rfl := beq_iff_eq.mp h3
      obtain rfl : k = -1 := by simpa using h4
      refine wpAny_FormattedValue_plain (wpAny_Name (wpAny_loadName_local hk hl hn hm ?_) hd)
      rcases hv with ⟨z, t, rfl, hz2⟩ | ⟨i, t, rfl, hz2⟩
      · exact wpAny_formatField_str (key z t s.toks (by omega)) (key z s.toks (s.toks + 1) (by omega)) (by rw [sizeLine_eq]; omega)
      · refine wpAny_formatField_int hz2 (key _ _ _ ?_)
        have e := int_text_length_le (k := 1920) (by decide) hz2
        rw [ofString_length]
        omega
    · exact Bool.noConfusion h1
end
theorem mc_eq (o e : Expr) (hs : ∀ env, starEach [e] env = [(false, eval e env)]) (env : Env) (p2 p4 : Pos) (name : Str) (hl : (p2.endLine == p4.line) = true) : eval (.Call (.Attribute o name p2) [e] [] p4) env = (do
      let ov ← attributeBase o name env (eval o env)
      standAt p2.atName
      let (f, first) ← holding [ov] (getMethod ov name (L2.plainOf o env))
      callWith p4 f first (backTo p4 (starEach [e] env)) []) := by
  have h1 : eval (.Call (.Attribute o name p2) [e] [] p4) env = (do
      let ov ← attributeBase o name env (eval o env)
      standAt p2.atName
      methodCall o name p2 p4 env ov 1 (backTo p4 (starEach [e] env)) []) := rfl
  rw [h1]
  have h2 : ∀ ov, methodCall o name p2 p4 env ov 1 (backTo p4 (starEach [e] env)) [] = _ := fun ov => L2.mcall_line (by rw [hs]; rfl) hl
  simp only [h2]
section
variable {prog : Program} {w : World} {A : Around} {R : Result → Shared → Prop} {hp : Heap} {g : Array GenState} {d : Drawn} {t : Nat} {os : OsState}
variable {K : W.Frag} {mg mb : Str → Option Value} {x C f cc cda t0 : Addr} {v : Value} {p F name qual file : Str} {tf : Tok} {ar : Arg} {vs : Array Value} {params : Arguments} {body : List Stmt} {scope : Scope} {dV kV doc pm ct oc ccl cl : Value} {an od cdd cld : Option Addr} {osl ccs csl : Array (Option Value)}
  {v1 v2 : Expr} {rest : List Expr} {p0 p1 p2 p3 p4 p5 p6 p7 p8 p9 : Pos}
theorem init_raw (hroom : A.depth < recursionLimit) (X : K.In hp) (lim : hp.NoLimit) (G : hp.Ns mainGlobals mg) (hmg : mg "super" = none) (B : hp.Ns builtinsNs mb) (hmb : mb "super" = some (.type "super"))
    (lk : K.lookup f = some ⟨oc, od, .func (ksFn name qual params [.Expr (.Call (.Attribute (.Call (.Name "super" p0) [] [] p1) "__init__" p2) [.JoinedStr (v1 :: v2 :: rest) p3] [] p4) p5, .Assign [.Attribute (.Name "self" p6) F p7] (.Name p p8) p9] scope dV kV doc pm an (.ref cda) ct cc), osl⟩)
    (hcd : codeIn K (.ref cda) qual = true) (hparts : (v1 :: v2 :: rest).all (PartB p) = true) (hfew : (v1 :: v2 :: rest).length ≤ 100)
    (hbind : BindsTo ⟨hp, g, d, t, os⟩ (ksFn name qual params [.Expr (.Call (.Attribute (.Call (.Name "super" p0) [] [] p1) "__init__" p2) [.JoinedStr (v1 :: v2 :: rest) p3] [] p4) p5, .Assign [.Attribute (.Name "self" p6) F p7] (.Name p p8) p9] scope dV kV doc pm an (.ref cda) ct cc) ⟨[.ref x, v], []⟩ [("self", .ref x), (p, v)])
    (hsk : scope.kind = .function) (hself : scope.names.lookup ("self" : Str) = some .local) (hpl : scope.names.lookup p = some .local) (hdb : (p == ("__debug__" : Str)) = false) (hsp : (("self" : Str) == p) = false)
    (hsup : scope.names.lookup ("super" : Str) = some .globalImplicit) (hcls : scope.names.lookup ("__class__" : Str) = some .free) (hnc : ∀ x ∈ scope.names, x.2 ≠ .cell) (hco : scope.isCoroutine = false) (hgen : scope.isGenerator = false)
    (hpar : (params.posonlyargs ++ params.args).head? = some ar) (har : ar.arg = "self") (hcode : K.lookup cda = some ⟨ccl, cdd, .fields vs, ccs⟩) (hvs : vs[2]? = some (.str file tf)) (hfile : ((prog.main.file : Str) == file) = true) (htop : (prog.main.scope.names.lookup ("super" : Str)).isSome = false)
    (hcell : K.lookup cc = some ⟨cl, cld, .cell (some (.ref C)), csl⟩) (T : L2.OexC K C) (hsi : ks_superIn K C C "__init__" = some (some (.builtin "ValueError.__init__"))) (hVE : subIn K (.ref C) (.type "ValueError") = some true) (hth : nsIn K cStatics "thirdparty.any" = some none)
    (hself2 : mroIn K C (.ref C) = some true) (hF : findIn K (.ref C) F = some none) (hx : hp.get? x = some (HandSPX.excO C t0)) (hKx : K.lookup x = none) (hv : Fit v) (hln : (p2.endLine == p4.line) = true)
    (hq : ∀ h' tk' dx t1, (∀ b o, b ≠ x → hp.get? b = some o → h'.get? b = some o) → hp.get? dx = none → dx ≠ x → h'.get? x = some ({ cls := .ref C, dict := some dx, data := .fields #[.ref t1, .none, .none, .none, .bool false, .none] } : Obj) →
      h'.Ns1 dx (fun y => if y = F then some v else none) → R (.ok (.ret .none)) ⟨h', g, d, tk', os⟩) :
    codeAny (model prog w) A (.call (.ref f) ⟨[.ref x, v], []⟩) R ⟨hp, g, d, t, os⟩ := by
  obtain ⟨sk, snm, sgn, sco, sme⟩ := scope
  have hsk : sk = .function := hsk
  subst hsk
  obtain ⟨nm, q, N, bs, bm, sn, sub, ab, col, dd, k0, k1, k2, k3, k5, hC, hbm⟩ := T.cls
  have hcl : clsIn K C = some { name := nm, bases := bs, mro := .ref C :: bm, ns := N, qualname := q, hasDict := true, slotNames := sn, subclasses := sub, abstract := ab, collection := col, hasDel := false } := by unfold clsIn; rw [hC] <;> rfl
  have hne : x ≠ C := fun z => by
    have e := X _ _ hC
    rw [← z, hx] at e
    cases e
  refine ks_codeAny_call_defAt (A := A) hroom (X _ _ lk) rfl lim (codeRec_of X hcd) rfl hbind hnc (fun y hy => ?_) (fun h₁ hns hk => ?_) hco hgen rfl
  · rcases List.mem_cons.mp hy with rfl | hy
    · exact hself
    · rcases List.mem_cons.mp hy with rfl | hy
      · exact hpl
      · cases hy
  have X1 : K.In h₁ := X.keeps hk
  have ms : (fun y => ([(("self" : Str), Value.ref x), (p, v)] : List (Str × Value)).reverse.lookup y) "self" = some (.ref x) := by
    show List.lookup ("self" : Str) [(p, v), ("self", .ref x)] = _
    rw [List.lookup_cons, hsp]
    rfl
  have mp : (fun y => ([(("self" : Str), Value.ref x), (p, v)] : List (Str × Value)).reverse.lookup y) p = some v := by
    show List.lookup p [(p, v), ("self", .ref x)] = _
    rw [List.lookup_cons, beq_self_eq_true]
  refine ks_wpAt_execs_cons (ks_wpAt_Expr_any (ks_wpAt_MethodCall ?_ (mc_eq _ _ (fun _ => rfl) _ _ _ _ hln)))
  refine ks_wpAt_super_base hsup hcls (by decide) rfl (X1 _ _ lk) rfl hpar rfl (X1 _ _ hcode) rfl hvs hfile htop ?_
  refine ks_loadName_global rfl hsup (loadGlobal_builtin (G.keeps hk) hmg (B.keeps hk) hmb ⟨rfl, ?_⟩)
  refine wpAny_loadName_free rfl hcls rfl ⟨_, X1 _ _ hcell, rfl⟩ ?_
  refine wpAny_loadName_local rfl (by rw [har]; exact hself) hns (by rw [har]; exact ms) ?_
  refine ks_wpAny_isType_cls (X1 _ _ hC) rfl ⟨rfl, ?_⟩
  refine ks_wpAny_call_super (X1 _ _ hC) rfl (hk _ _ hx) rfl (fun c e => by cases e) (looks_mroIn X1 hself2) (fun h₂ hso k2 => ?_)
  have X2 : K.In h₂ := X1.keeps k2
  have hx2 := k2 _ _ (hk _ _ hx)
  have I2 : InstAt h₂ x (HandSPX.excO C t0) C none := ⟨hx2, rfl, rfl, trivial⟩
  have hI : Looks (model prog w) h₂ (isInstance (.ref x) (.type "ValueError")) true := I2.type.andThen (looks_subIn X2 hVE)
  have hsi' := hsi
  unfold ks_superIn at hsi'
  rw [hcl] at hsi'
  refine kxs_getMethod kxs_ValueError hso (looks_opaque X2 hth) (l₀ := .ref C :: bm) (fun A Q E s k q => wpAny_bind ((looks_clsIn X2 hcl) A _ E s k (wpAny_pure q))) rfl X2 hsi' hI hne (by decide) ?_
  have k3 : ∀ b o, h₂.get? b = some o → (h₂.push (kxs_mw "ValueError.__init__" x)).get? b = some o := fun b o e => Heap.get?_push_of_some _ e
  have hu3 : (h₂.push (kxs_mw "ValueError.__init__" x)).get? h₂.objs.size = some (kxs_mw "ValueError.__init__" x) := Heap.get?_push_at rfl rfl
  have hns3 := (hns.keeps k2).keeps k3
  refine kxs_callWith (i := "ValueError.__init__") (x := x) rfl ?_
  refine evalArgs_plain (Calls.spliced_cons ?_)
  refine wpAny_JoinedStr (pos := p3) ?_
  refine joins_parts (by exact rfl) (by exact hpl) hdb hv mp _ Str.empty _ _ hparts (by rw [sizeLine_eq]; show 0 + _ ≤ _; omega) (by exact hns3) fun out k ho => ⟨?_, ?_⟩
  · rw [sizeLine_eq]
    have : Str.empty.length = 0 := rfl
    omega
  refine Calls.spliced_nil ⟨hu3, ?_⟩
  refine call_mw (k3 _ _ (k2 _ _ (X1 _ _ hC))) (k3 _ _ hx2) hu3 (show (1 : Nat) ≤ sizeLine by rw [sizeLine_eq]; decide) (fun h₄ t1 k4 hx4 => ?_)
  have X4 : K.In h₄ := fun b o e => k4 _ _ (fun z => by rw [z, hKx] at e; cases e) (k3 _ _ (k2 _ _ (X1 _ _ e)))
  have hL : hp.objs.size ≠ x := fun z => Nat.lt_irrefl _ (by rw [← z] at hx; exact Heap.lt_size hx)
  have hns4 : h₄.Ns hp.objs.size (fun y => ([(("self" : Str), Value.ref x), (p, v)] : List (Str × Value)).reverse.lookup y) := by
    obtain ⟨o, es, ep, ho, r⟩ := hns3
    exact ⟨o, es, ep, k4 _ _ hL ho, r⟩
  refine ks_wpAt_execs_cons (ks_wpAt_Assign_Attr (wpAt_of_wpAny ?_))
  refine wpAny_Name (pos := p8) ?_ hdb
  refine wpAny_loadName_local (by exact rfl) (by exact hpl) (by exact hns4) mp ?_
  refine wpAny_Name (pos := p6) ?_ (by decide)
  refine wpAny_loadName_local (by exact rfl) (by exact hself) (by exact hns4) ms ?_
  refine set_plain X4 (ox := HandSPX.excO C t1) (od := none) ⟨hx4, rfl, rfl, trivial⟩ T.sa ?_
  refine HandSPX.exc_osa X4 hx4 hcl (show HandSPX.refsVE (.ref C :: bm) = true from hbm) rfl hF (fun h' tk' dx k5 dn dne hx5 hn => ?_)
  refine wpAt_of_wpAny ?_
  show wpAny _ _ (pure Flow.next) _ _ _
  refine wpAny_pure ?_
  have kk : ∀ b o, b ≠ x → hp.get? b = some o → h₄.get? b = some o := fun b o hb e => k4 b o hb (k3 _ _ (k2 _ _ (hk _ _ e)))
  refine hq h' _ dx t1 (fun b o hb e => k5 b o hb (kk b o hb e)) ?_ dne hx5 hn
  cases e : hp.get? dx with
  | none => rfl
  | some o => exact absurd (Heap.lt_size (kk dx o dne e)) (Nat.not_lt.mpr dn)
end
/-- what is known of an own exception's class with such an __init__ -/
structure InitAt (P : Program) (K : W.Frag) (C f : Addr) (F : Str) : Prop where
  oex : L2.OexC K C
  ini : findIn K (.ref C) "__init__" = some (some (.ref f))
  ity : typeIn K (.ref f) = some (.type "function")
  sin : ks_superIn K C C "__init__" = some (some (.builtin "ValueError.__init__"))
  sve : subIn K (.ref C) (.type "ValueError") = some true
  sta : nsIn K cStatics "thirdparty.any" = some none
  slf : mroIn K C (.ref C) = some true
  nof : findIn K (.ref C) F = some none
  fn : ∃ (name qual file p : Str) (tf : Tok) (ar : Arg) (vs : Array Value) (params : Arguments) (scope : Scope) (dV kV doc pm ct oc ccl cl : Value) (an od cdd cld : Option Addr) (osl ccs csl : Array (Option Value)) (cc cda : Addr) (v1 v2 : Expr) (rest : List Expr) (p0 p1 p2 p3 p4 p5 p6 p7 p8 p9 : Pos),
    K.lookup f = some ⟨oc, od, .func (ksFn name qual params [.Expr (.Call (.Attribute (.Call (.Name "super" p0) [] [] p1) "__init__" p2) [.JoinedStr (v1 :: v2 :: rest) p3] [] p4) p5, .Assign [.Attribute (.Name "self" p6) F p7] (.Name p p8) p9] scope dV kV doc pm an (.ref cda) ct cc), osl⟩ ∧
    codeIn K (.ref cda) qual = true ∧ (v1 :: v2 :: rest).all (PartB p) = true ∧ (v1 :: v2 :: rest).length ≤ 100 ∧
    (∀ s x v, BindsTo s (ksFn name qual params [.Expr (.Call (.Attribute (.Call (.Name "super" p0) [] [] p1) "__init__" p2) [.JoinedStr (v1 :: v2 :: rest) p3] [] p4) p5, .Assign [.Attribute (.Name "self" p6) F p7] (.Name p p8) p9] scope dV kV doc pm an (.ref cda) ct cc) ⟨[.ref x, v], []⟩ [("self", .ref x), (p, v)]) ∧
    scope.kind = .function ∧ scope.names.lookup ("self" : Str) = some .local ∧ scope.names.lookup p = some .local ∧ (p == ("__debug__" : Str)) = false ∧ (("self" : Str) == p) = false ∧ scope.names.lookup ("super" : Str) = some .globalImplicit ∧ scope.names.lookup ("__class__" : Str) = some .free ∧
    (∀ x ∈ scope.names, x.2 ≠ .cell) ∧ scope.isCoroutine = false ∧ scope.isGenerator = false ∧ (params.posonlyargs ++ params.args).head? = some ar ∧ ar.arg = "self" ∧ K.lookup cda = some ⟨ccl, cdd, .fields vs, ccs⟩ ∧ vs[2]? = some (.str file tf) ∧ ((P.main.file : Str) == file) = true ∧
    (P.main.scope.names.lookup ("super" : Str)).isSome = false ∧ K.lookup cc = some ⟨cl, cld, .cell (some (.ref C)), csl⟩ ∧ (p2.endLine == p4.line) = true
end OWN
end PySem
namespace L2
open PySem PySem.Spec PyProof.Rows
section
variable {X : Cx}
/-- an argument that fits in the text -/
def FitV (v : V) : Prop := (∃ y, v = .str y ∧ y.length ≤ 5000) ∨ ∃ i : Int, v = .int i ∧ i.natAbs.log2 < 1920
theorem FitV.fit {v : V} {u : Value} (h : FitV v) (r : RelV v u) : PySem.OWN.Fit u := by
  rcases h with ⟨y, rfl, h⟩ | ⟨i, rfl, h⟩
  · obtain ⟨t, rfl⟩ := r; exact .inl ⟨y, t, rfl, h⟩
  · obtain ⟨t, rfl⟩ := r; exact .inr ⟨i, t, rfl, h⟩
theorem boot_super : bootBuiltins "super" = some (.type "super") := by first | boot_by_name | kernel_rfl
end
end L2
set_option Elab.async false
set_option linter.all false
set_option maxRecDepth 100000
set_option maxHeartbeats 4000000
namespace L2
open PySem PySem.Spec PyProof.Rows
end L2
namespace DL
open PySem PySem.Spec PyProof PyProof.Rows L2
variable [Td]
def excN : PyData → Option Str
  | .dict [(.bool false, .bool true), (.str c, _)] => some c
  | .dict [(.bool false, .bool true), (.str c, _), _] => some c
  | _ => none
def excF : PyData → Option (Str × Str × PyData)
  | .dict [(.bool false, .bool true), (.str c, .str f), (.none, d)] => some (c, f, d)
  | _ => none
/-- what is known of an own exception's class with an __init__ -/
structure XiF (P : Program) (K : PySem.W.Frag) (mg : Str → Option Value) (x : Str) (C f : Addr) (F : Str) : Prop where
  n : PySem.W.nsIn K mainGlobals x = some (some (.ref C))
  g : mg x = some (.ref C)
  kp : PySem.W.keepIn K (.ref C) = true
  at_ : PySem.OWN.InitAt P K C f F
  su : mg "super" = none
def fitD : PyData → Bool
  | .str y => decide (y.length ≤ 5000)
  | .int i => decide (i.natAbs.log2 < 1920)
  | _ => false
def dExn (c F : Str) (f : DEnv → Res PyData) : DEnv → Res PyData := fun ρ => (f ρ).bind fun d ρ1 => if fitD d then .ok (exnD c F d) ρ1 else .bad
def dExz (c : Str) (f : DEnv → Res PyData) : DEnv → Res PyData := fun ρ => (f ρ).bind fun _ ρ1 => .ok (exzD c) ρ1
def dIsV (q : Str → Option Bool) (f : DEnv → Res PyData) : DEnv → Res PyData := fun ρ => (f ρ).bind fun d ρ1 => match excN d with
  | some c => Res.of ((q c).map .bool) ρ1
  | none => .bad
def dXFld (l : List Str) (n : Str) (f : DEnv → Res PyData) : DEnv → Res PyData := fun ρ => (f ρ).bind fun d ρ1 => match excF d with
  | some (c, g, d') => if g = n ∧ c ∈ l then .ok d' ρ1 else .bad
  | none => .bad
end DL
namespace DL
open PySem PySem.Spec PyProof PyProof.Rows L2
variable [Td]
section
variable {Z : Exn → DEnv → Prop} {ρ : DEnv} {Q : PyData → DEnv → Prop}
theorem wp_exn (c F : Str) (f : DEnv → Res PyData) : WpX Z (dExn c F f ρ) Q = WpX Z (f ρ) fun d ρ1 => fitD d = true ∧ Q (exnD c F d) ρ1 := by
  unfold dExn
  rw [wp_bind]
  congr 1
  funext d ρ1
  by_cases hz : fitD d = true
  · rw [if_pos hz, wp_ok]
    exact propext ⟨fun h => ⟨hz, h⟩, fun h => h.2⟩
  · rw [if_neg hz, wp_bad]
    exact propext ⟨fun h => h.elim, fun h => hz h.1⟩
theorem wp_exz (c : Str) (f : DEnv → Res PyData) : WpX Z (dExz c f ρ) Q = WpX Z (f ρ) fun _ ρ1 => Q (exzD c) ρ1 := by
  unfold dExz
  rw [wp_bind]
  congr 1
  funext d ρ1
  rw [wp_ok]
theorem wp_isV (q : Str → Option Bool) (f : DEnv → Res PyData) : WpX Z (dIsV q f ρ) Q = WpX Z (f ρ) fun d ρ1 => ∃ c b, excN d = some c ∧ q c = some b ∧ Q (.bool b) ρ1 := by
  unfold dIsV
  rw [wp_bind]
  congr 1
  funext d ρ1
  cases e : excN d with
  | none =>
    dsimp only
    rw [wp_bad]
    exact propext ⟨fun h => h.elim, fun ⟨c, b, e2, _⟩ => by cases e2⟩
  | some c =>
    dsimp only
    cases e2 : q c with
    | none => exact propext ⟨fun h => by rw [show (Option.map PyData.bool none : Option PyData) = none from rfl] at h; rw [show Res.of (none : Option PyData) ρ1 = .bad from rfl, wp_bad] at h; exact h.elim, fun ⟨c', b, e3, e4, _⟩ => by cases e3; rw [e2] at e4; cases e4⟩
    | some b =>
      rw [show (Option.map PyData.bool (some b) : Option PyData) = some (.bool b) from rfl, show Res.of (some (PyData.bool b)) ρ1 = .ok (.bool b) ρ1 from rfl, wp_ok]
      exact propext ⟨fun h => ⟨c, b, rfl, e2, h⟩, fun ⟨c', b', e3, e4, h⟩ => by cases e3; rw [e2] at e4; cases e4; exact h⟩
theorem wp_xfld (l : List Str) (n : Str) (f : DEnv → Res PyData) : WpX Z (dXFld l n f ρ) Q = WpX Z (f ρ) fun d ρ1 => ∃ c d', excF d = some (c, n, d') ∧ c ∈ l ∧ Q d' ρ1 := by
  unfold dXFld
  rw [wp_bind]
  congr 1
  funext d ρ1
  cases e : excF d with
  | none =>
    dsimp only
    rw [wp_bad]
    exact propext ⟨fun h => h.elim, fun ⟨c, d', e2, _⟩ => by cases e2⟩
  | some y =>
    obtain ⟨c, g, d'⟩ := y
    dsimp only
    by_cases hc : g = n ∧ c ∈ l
    · rw [if_pos hc, wp_ok]
      obtain ⟨rfl, hc⟩ := hc
      exact propext ⟨fun h => ⟨c, d', rfl, hc, h⟩, fun ⟨c', d2, e3, _, h⟩ => by cases e3; exact h⟩
    · rw [if_neg hc, wp_bad]
      exact propext ⟨fun h => h.elim, fun ⟨c', d2, e3, h, _⟩ => by cases e3; exact hc ⟨rfl, h⟩⟩
end
end DL
set_option Elab.async false
set_option linter.all false
set_option maxRecDepth 100000
set_option maxHeartbeats 4000000
namespace L2
open PySem PySem.Spec PyProof.Rows
/-- x * n, a text -/
def rMulS : R2 := fun x y H Q => ∃ (z : Str) (n : Int), x = .str z ∧ y = .int n ∧ MulOk z n ∧ Q (.str (Txt.mul z n)) H
theorem op_mulS {X : Cx} : OpR X (binaryOp .Mult) rMulS := by
  intro pins s σ H x y v u Q I rx ry h
  obtain ⟨z, n, rfl, rfl, hm, q⟩ := h
  obtain ⟨t, rfl⟩ := rx
  obtain ⟨t', rfl⟩ := ry
  exact SB.mul hm fun t2 k => ⟨.str _, H, I.tok _, ⟨_, rfl⟩, q⟩
theorem paired_of {α β : Type} {R : α → β → Prop} : ∀ {vs : List α} {us : List β}, vs.length = us.length → (∀ (j : Nat) (v : α) (u : β), vs[j]? = some v → us[j]? = some u → R v u) → Paired R vs us
  | [], [], _, _ => .nil
  | v :: vs, u :: us, h, f => .cons (f 0 v u rfl rfl) (paired_of (Nat.succ.inj h) fun j v u a b => f (j + 1) v u (by simpa using a) (by simpa using b))
  | [], _ :: _, h, _ => nomatch h
  | _ :: _, [], h, _ => nomatch h
def signsV (z : Str) : List V := z.cps.toList.map fun c => V.str ⟨#[c]⟩
/-- list(z), z a text -/
theorem call_listS {X : Cx} (hh : X.calm = true) : CallR X (.type "list") (fun xs H Q => ∃ z : Str, xs = [.str z] ∧ z.length ≤ sizeLine ∧ ∀ p, H p = none → Q (.ref p) (upd H p (.lst (signsV z)))) := by
  intro pins s σ H xs us Q I r h
  obtain ⟨z, rfl, hz, q⟩ := h
  obtain ⟨u, rfl, t, rfl⟩ := vals1 r
  refine call_list_str (I.ok.hd hh) z t (hn := hz) fun h' tk acc' c' k hn hi => ?_
  have hnew : s.heap.get? s.heap.objs.size = none := by
    cases e : s.heap.get? s.heap.objs.size with
    | none => rfl
    | some o => exact absurd (Heap.lt_size e) (Nat.lt_irrefl _)
  have na : H s.heap.objs.size = none := I.hok.gone hnew
  refine ⟨.ref s.heap.objs.size, _, I.laidN k hnew na (o := .lst (signsV z)) (t' := tk) ?_, rfl, q _ na⟩
  obtain ⟨sz, hi⟩ := hi
  have hv : Vals (signsV z) acc'.toList := by
    unfold signsV
    refine paired_of (by rw [List.length_map, Array.length_toList, Array.length_toList, sz]) fun j v u h1 h2 => ?_
    rw [List.getElem?_map] at h1
    obtain ⟨c, k, e1, e2⟩ := hi j u (by simpa using h2)
    cases e3 : z.cps.toList[j]? with
    | none => rw [e3] at h1; cases h1
    | some c' =>
      rw [e3] at h1
      cases h1
      have e4 : z.cps.toList[j]? = some c := by simpa using e1
      rw [e3] at e4
      cases e4
      exact ⟨k, e2⟩
  exact ⟨by unfold signsV; rw [List.length_map, Array.length_toList]; exact hz, acc'.toList, c', hv, by simpa using hn⟩
end L2
namespace DL
open PySem PySem.Spec PyProof PyProof.Rows L2
variable [Td]
def oIxS : PyData → PyData → Option PyData
  | .str z, .int i => if z.length ≤ sizeLine then (atI z.cps.toList i).map fun c => .str ⟨#[c]⟩ else none
  | _, _ => none
def oMulS : PyData → PyData → Option PyData
  | .str z, .int n => if 0 ≤ n ∧ n ≤ 10000 ∧ z.length ≤ 1000 then some (.str (Txt.mul z n)) else none
  | _, _ => none
def oNotInS : PyData → PyData → Option PyData
  | .str y, .str z => match y.cps.toList with
    | [c] => some (.bool (!decide (c ∈ z.cps.toList)))
    | _ => none
  | _, _ => none
def oLenS : List PyData → Option PyData
  | [.str z] => if z.length ≤ sizeLine then some (.int (z.length : Nat)) else none
  | _ => none
def oStrI : List PyData → Option PyData
  | [.int i] => if i.natAbs.log2 < 1920 then some (.str (toString i)) else none
  | _ => none
def oIntS : List PyData → Option PyData
  | [.str a] => if a.length ≤ 640 then (PySem.intText? a).map .int else none
  | _ => none
def slS : PyData → Option Int → Option Int → Option PyData
  | .str z, lo, hi => if z.length ≤ sizeLine then some (.str (cutS z lo hi)) else none
  | _, _, _ => none
def dSlS (f : DEnv → Res PyData) (l u : DEnv → Res (Option Int)) : DEnv → Res PyData := fun ρ => (f ρ).bind fun d ρ1 => (l ρ1).bind fun lo ρ2 => (u ρ2).bind fun hi ρ3 => Res.of (slS d lo hi) ρ3
def unStrs : List PyData → Option (List Str)
  | [] => some []
  | .str x :: r => (unStrs r).map (x :: ·)
  | _ => none
def oJoin (a : Str) : PyData → Option PyData
  | .list ds => match unStrs ds with
    | some ys => if (ys.map (·.length)).sum + ys.length * a.length ≤ 16777216 then some (.str (Txt.join a ys)) else none
    | none => none
  | _ => none
def dJoin (fo fe : DEnv → Res PyData) : DEnv → Res PyData := fun ρ => (fo ρ).bind fun d ρ1 => match d with
  | .str a => (fe ρ1).bind fun e ρ2 => Res.of (oJoin a e) ρ2
  | _ => .bad
def signsD (z : Str) : List PyData := z.cps.toList.map fun c => .str ⟨#[c]⟩
def fListS (f : DEnv → Res PyData) : DEnv → Res OD := fun ρ => (f ρ).bind fun d ρ1 => match d with
  | .str z => if z.length ≤ sizeLine then .ok (.lst (signsD z)) ρ1 else .bad
  | _ => .bad
theorem one_sign {y : Str} {c : Nat} (h : y.cps.toList = [c]) : y = ⟨#[c]⟩ := by
  obtain ⟨⟨l⟩⟩ := y
  have h : l = [c] := h
  rw [h]
theorem rp_strs {K : PySem.W.Frag} {G : Hp} : ∀ {vs : List V} {ds : List PyData} {ys : List Str}, RpAll K G vs ds → unStrs ds = some ys → vs = ys.map V.str
  | [], [], ys, _, e => by cases e; rfl
  | _, .str x :: ds, ys, .cons h t, e => by
    cases h
    have e : (unStrs ds).map (x :: ·) = some ys := e
    obtain ⟨zs, e2, rfl⟩ := Option.map_eq_some_iff.mp e
    rw [rp_strs t e2]
    rfl
theorem rp_signs {K : PySem.W.Frag} {G : Hp} (z : Str) : RpAll K G (signsV z) (signsD z) := by
  unfold signsV signsD
  generalize z.cps.toList = l
  induction l with
  | nil => exact .nil
  | cons c l ih => exact .cons (.str _) ih
section
variable {X : Cx} {E : WX}
theorem od_ixS : OpD X E rIxS oIxS := by
  intro σ G H ρ x y d e c Q R hx hy ho h
  cases hx with
  | str z =>
    cases hy with
    | int i =>
      unfold oIxS at ho
      dsimp only at ho
      by_cases hz : z.length ≤ sizeLine
      · rw [if_pos hz] at ho
        obtain ⟨c', e1, rfl⟩ := Option.map_eq_some_iff.mp ho
        exact ⟨z, i, c', rfl, rfl, hz, e1, Post.done R h (.str _)⟩
      · rw [if_neg hz] at ho; cases ho
    | _ => cases ho
  | _ => cases ho
theorem mul_okS {z : Str} {n : Int} (h1 : 0 ≤ n) (h2 : n ≤ 10000) (h3 : z.length ≤ 1000) : MulOk z n := by
  refine ⟨?_, fun h4 _ => ?_, fun h4 _ => ?_⟩
  · rw [decide_eq_false (by omega), decide_eq_false (by omega)]; rfl
  · have h5 : (1000 : Int) ≤ (2 ^ 63 - 1) / n := (Int.le_ediv_iff_mul_le (by omega)).mpr (by omega)
    omega
  · unfold Builtin.Str.tooLong
    refine decide_eq_false ?_
    have h5 : z.length * n.toNat ≤ 1000 * 10000 := Nat.mul_le_mul h3 (by omega)
    show ¬ (z.length * n.toNat > sizeLine)
    rw [sizeLine_eq]
    omega
theorem od_mulS : OpD X E rMulS oMulS := by
  intro σ G H ρ x y d e c Q R hx hy ho h
  cases hx with
  | str z =>
    cases hy with
    | int n =>
      unfold oMulS at ho
      dsimp only at ho
      by_cases hz : 0 ≤ n ∧ n ≤ 10000 ∧ z.length ≤ 1000
      · rw [if_pos hz] at ho
        cases ho
        exact ⟨z, n, rfl, rfl, mul_okS hz.1 hz.2.1 hz.2.2, Post.done R h (.str _)⟩
      · rw [if_neg hz] at ho; cases ho
    | _ => cases ho
  | _ => cases ho
theorem od_notInS : OpD X E (fun x y H Q => ∃ (c : Nat) (z : Str), x = .str ⟨#[c]⟩ ∧ y = .str z ∧ Q (.bl (!decide (c ∈ z.cps.toList))) H) oNotInS := by
  intro σ G H ρ x y d e c Q R hx hy ho h
  cases hx with
  | str a =>
    cases hy with
    | str z =>
      unfold oNotInS at ho
      dsimp only at ho
      split at ho
      · rename_i c' e1
        cases ho
        exact ⟨c', z, by rw [one_sign e1], rfl, Post.done R h (.bl _)⟩
      · cases ho
    | _ => cases ho
  | _ => cases ho
theorem cd_lenS : CaD X E (fun xs H Q => ∃ z : Str, xs = [.str z] ∧ z.length ≤ sizeLine ∧ Q (.int z.length) H) oLenS := by
  intro σ G H ρ xs ds c Q R hx ho h
  unfold oLenS at ho
  split at ho
  · rename_i z
    obtain ⟨v, rfl, q⟩ := rpAll1 hx
    cases q
    by_cases hz : z.length ≤ sizeLine
    · rw [if_pos hz] at ho; cases ho; exact ⟨z, rfl, hz, Post.done R h (.int _)⟩
    · rw [if_neg hz] at ho; cases ho
  · cases ho
theorem cd_strI : CaD X E (fun xs H Q => ∃ i : Int, xs = [.int i] ∧ i.natAbs.log2 < 1920 ∧ Q (.str (toString i)) H) oStrI := by
  intro σ G H ρ xs ds c Q R hx ho h
  unfold oStrI at ho
  split at ho
  · rename_i i
    obtain ⟨v, rfl, q⟩ := rpAll1 hx
    cases q
    by_cases hz : i.natAbs.log2 < 1920
    · rw [if_pos hz] at ho; cases ho; exact ⟨i, rfl, hz, Post.done R h (.str _)⟩
    · rw [if_neg hz] at ho; cases ho
  · cases ho
theorem cd_intS : CaD X E (fun xs H Q => ∃ (a : Str) (n : Int), xs = [.str a] ∧ PySem.intText? a = some n ∧ a.length ≤ 640 ∧ Q (.int n) H) oIntS := by
  intro σ G H ρ xs ds c Q R hx ho h
  unfold oIntS at ho
  split at ho
  · rename_i a
    obtain ⟨v, rfl, q⟩ := rpAll1 hx
    cases q
    by_cases hz : a.length ≤ 640
    · rw [if_pos hz] at ho
      obtain ⟨n, e1, rfl⟩ := Option.map_eq_some_iff.mp ho
      exact ⟨a, n, rfl, e1, hz, Post.done R h (.int _)⟩
    · rw [if_neg hz] at ho; cases ho
  · cases ho
end
section
variable {X : Cx} {E : WX} {a o e : Expr} {fa fo fe : DEnv → Res PyData} {lo hi : Option Expr} {fl fu : DEnv → Res (Option Int)} {pos p p2 apos : Pos}
theorem e_slS (ha : EJ X E a fa) (hl : OJ X E lo fl) (hu : OJ X E hi fu) : EJ X E (.Subscript a (.Slice lo hi none p2) pos) (dSlS fa fl fu) := by
  obtain ⟨ta, qa, pa⟩ := ha
  obtain ⟨tl, ql, pl⟩ := hl
  obtain ⟨tu, qu, pu⟩ := hu
  refine ⟨_, pe_slice sl_str qa ql qu, fun σ G H ρ Q R h => pa σ G H ρ _ R (Post.bind h fun G1 H1 x d ρ1 R1 S1 hx h1 => pl σ G1 H1 ρ1 _ R1 (Post.bind h1 fun G2 H2 l l' ρ2 R2 S2 e2 h2 => pu σ G2 H2 ρ2 _ R2 (Post.bind h2 fun G3 H3 u u' ρ3 R3 S3 e3 h3 => ?_)))⟩
  subst e2 e3
  cases hx with
  | str z =>
    unfold slS at h3
    dsimp only at h3
    by_cases hz : z.length ≤ sizeLine
    · rw [if_pos hz] at h3; exact ⟨z, rfl, hz, Post.done R3 h3 (.str _)⟩
    · rw [if_neg hz] at h3; exact h3.elim
  | _ => exact h3.elim
theorem e_join (ho : EJ X E o fo) (he : EJ X E e fe) (hs : starEach [e] X.env = [(false, eval e X.env)] := by rfl) (hbase : attributeBase o "join" X.env (eval o X.env) = eval o X.env := by rfl) (hline : (apos.endLine == pos.line) = true := by rfl) :
    EJ X E (.Call (.Attribute o "join" apos) [e] [] pos) (dJoin fo fe) := by
  obtain ⟨to, qo, po⟩ := ho
  obtain ⟨te, qe, pe⟩ := he
  refine ⟨_, pe_join qo qe hs hbase hline, fun σ G H ρ Q R h => po σ G H ρ _ R (Post.bind h fun G1 H1 x d ρ1 R1 S1 hx h1 => ?_)⟩
  cases hx with
  | str a =>
    dsimp only at h1
    refine ⟨⟨a, rfl⟩, pe σ G1 H1 ρ1 _ R1 (Post.bind h1 fun G2 H2 y d2 ρ2 R2 S2 hy h2 => ?_)⟩
    cases hy with
    | @lst p vs ds g1 g2 =>
      unfold oJoin at h2
      dsimp only at h2
      cases e2 : unStrs ds with
      | none => rw [e2] at h2; exact h2.elim
      | some ys =>
        rw [e2] at h2
        dsimp only at h2
        by_cases hz : (ys.map (·.length)).sum + ys.length * a.length ≤ 16777216
        · rw [if_pos hz] at h2
          have e3 := rp_strs g2 e2
          subst e3
          exact ⟨a, p, ys, rfl, rfl, .inl (SqL.of (R2.gh _ _ g1)), hz, Post.done R2 h2 (.str _)⟩
        · rw [if_neg hz] at h2; exact h2.elim
    | _ => exact h2.elim
  | _ => exact h1.elim
theorem f_listS (hc : X.calm = true) (hg : Gl X "list") (hm : X.mg "list" = none) (ha : EJ X E a fa) (he : starEach [a] X.env = (false, eval a X.env) :: starEach [] X.env := by rfl) :
    FJ X E (.Call (.Name "list" p) [a] [] pos) (fListS fa) := by
  obtain ⟨t, q, pp⟩ := ha
  refine ⟨_, pe_callTy (call_listS hc) hg hm (by decide +kernel) (pa_cons q pa_nil he) (by decide) (by decide) he (by rfl), fun σ G H ρ Q R h => pp σ G H ρ _ R (FPost.bind h fun G1 H1 v d ρ1 R1 S1 hx h1 => ?_)⟩
  cases hx with
  | str z =>
    dsimp only at h1
    by_cases hz : z.length ≤ sizeLine
    · rw [if_pos hz] at h1
      exact ⟨z, rfl, hz, fun p np => FPost.new R1 h1 np ⟨signsV z, upd_same, rp_signs z⟩⟩
    · rw [if_neg hz] at h1; exact h1.elim
  | _ => exact h1.elim
end
end DL
set_option Elab.async false
set_option linter.all false
set_option maxRecDepth 100000
set_option maxHeartbeats 4000000
namespace DL
open PySem PySem.Spec PyProof.Rows L2
variable [Td]
/-- the turns of enumerate over a text -/
def IteS (z : Str) : It where
  go := fun i H => ∃ c, z.cps.toList[i]? = some c
  yld := fun i H v H' => ∃ T c, v = .ref T ∧ H T = none ∧ H' = upd H T (.tup [.int (i : Nat), .str ⟨#[c]⟩]) ∧ z.cps.toList[i]? = some c
  stop := fun i H => z.length ≤ i
theorem turn_enumS {P : Program} {w : World} {K : PySem.W.Frag} {elts : List Expr} {kk : Nat} {tpos : Pos} (e it : Addr) (z : Str) (t : Tok) :
    Turn P w K (Expr.Tuple elts kk tpos) (IteS z) [e, it] e fun i h => (∃ old, IsEnum h e it (i : Nat) old) ∧ h.IsStrIter it (strIterType z) z t i ∧ e ≠ it ∧ i ≤ z.length where
  mem := by simp
  obj := fun i h st b hb => by
    obtain ⟨⟨old, he⟩, ⟨o, ho, hc, hd⟩, hne, hin⟩ := st
    rcases List.mem_cons.mp hb with rfl | hb
    · exact ⟨_, he, fun v z => by cases z⟩
    · rw [List.mem_singleton.mp hb]
      exact ⟨o, ho, fun v z => by rw [hd] at z; cases z⟩
  keep := fun i h h' st k => by
    obtain ⟨⟨old, he⟩, ⟨o, ho, hc, hd⟩, hne, hin⟩ := st
    exact ⟨⟨old, k e (by simp) _ he⟩, ⟨o, k it (by simp) _ ho, hc, hd⟩, hne, hin⟩
  item := fun X eP ew eK ec i pins s σ H E I fp st go => by
    subst eP ew eK
    obtain ⟨⟨old, he⟩, hi, hne, hin⟩ := st
    obtain ⟨c, hc⟩ := go
    have hh : X.A.in1.handled = none := I.ok.hd ec
    have hlt : i < z.cps.size := by
      have := (List.getElem?_eq_some_iff.mp hc).1
      simpa using this
    have fpe := fp e (by simp)
    have fpi := fp it (by simp)
    refine wpAny_pyNext_enum_itemD (Draws.text hh it z t) he hi hlt hne (by simp; exact hne) (fun x' h' tk hP hout hst hT hsz hk => ?_)
    refine ⟨_, rfl, wpAny_letOwnedTupleGo_enum hout fun h2 hen hsame => ?_⟩
    obtain ⟨c', u, hc', rfl⟩ := hP
    have ec' : c' = c := by
      have : z.cps.toList[i]? = some c' := by simpa using hc'
      rw [hc] at this
      cases this
      rfl
    subst ec'
    have old2 : ∀ (b : Addr) (o : Obj), b ≠ e → h'.get? b = some o → h2.get? b = some o := fun b o n z => (hsame.2 b n).trans z
    have ne1 : s.heap.objs.size ≠ e := fun z => by
      have := Heap.lt_size he
      exact absurd this (by rw [z]; exact Nat.lt_irrefl _)
    refine ⟨.ref s.heap.objs.size, upd H s.heap.objs.size (.tup [.int (i : Nat), .str ⟨#[c']⟩]), I.turnedNew (ch := [e, it]) (fun b o nb z => old2 b o (fun q => nb (by simp [q])) (hk b o (fun q => nb (by simp [q])) (fun q => nb (by simp [q])) z)) (fun b hb => fp b hb) (Nat.le_refl _) ?_, rfl,
      ⟨s.heap.objs.size, c', rfl, I.hok.fresh (Nat.le_refl _), rfl, hc⟩, ⟨⟨_, by have := hen; rw [show ((i : Nat) : Int) + 1 = ((i + 1 : Nat) : Int) by omega] at this; exact this⟩, ?_, hne, hlt⟩, fun b hb => ?_⟩
    · unfold ObjOk
      refine ⟨by show 2 ≤ sizeLine; decide, [.int (i : Nat) tk, .str ⟨#[c']⟩ u], .cons ⟨tk, rfl⟩ (.cons ⟨u, rfl⟩ .nil), ?_⟩
      exact ⟨_, old2 _ _ ne1 hT, rfl, 0, rfl⟩
    · obtain ⟨o, ho, hc, hd⟩ := hst
      exact ⟨o, old2 _ _ (Ne.symm hne) ho, hc, hd⟩
    · have f := fp b hb
      rw [upd_ne]
      · exact f.1
      · intro z
        rcases List.mem_cons.mp hb with q | q
        · exact ne1 (z.symm.trans q)
        · have q := List.mem_singleton.mp q
          obtain ⟨o2, c1, _⟩ := hi
          have := Heap.lt_size c1
          rw [← q, z] at this
          exact absurd this (Nat.lt_irrefl _)
  done := fun X eP ew eK ec i pins s σ H E I fp st go => by
    subst eP ew eK
    obtain ⟨⟨old, he⟩, hi, hne, hin⟩ := st
    have hh : X.A.in1.handled = none := I.ok.hd ec
    have hei : i = z.cps.size := Nat.le_antisymm hin go
    refine wpAny_pyNext_enum_endD (Draws.text hh it z t) he (by rw [← hei]; exact hi) fun h' hx => ?_
    have f := fp it (by simp)
    exact ⟨rfl, I.turned hx f.1 f.2.1 f.2.2.2.1 f.2.2.2.2.1 f.2.2.2.2.2⟩
  self := fun A i s Q E st hq => by
    obtain ⟨⟨old, he⟩, hi, hne, hin⟩ := st
    exact wpAny_pyIter_enum he hq
def iEnumS (ta : TA) : TI := fun σ H R => ta σ H fun vs H1 => ∃ z : Str, vs = [.str z] ∧ R (IteS z) H1
theorem pi_enumS {X : Cx} {e : Expr} {ta : TA} {p pos tpos : Pos} {elts : List Expr} {kk : Nat} (hg : Gl X "enumerate") (hm : X.mg "enumerate" = none) (ha : PA X [e] ta) (he : starEach [e] X.env = [(false, eval e X.env)] := by rfl) :
    PI X (.Tuple elts kk tpos) (.Call (.Name "enumerate" p) [e] [] pos) (iEnumS ta) := by
  refine ⟨fun pins s σ H R I h => ?_⟩
  refine wpAny_Call_Name_kw (ld_blt I hg hm boot_enumerate ?_)
  refine PyProof.Rows.callWith_type1 (thn (ha.run pos pins s σ H _ I h) fun us s1 hh => ?_) he
  obtain ⟨vs, H1, I1, rv, z, rfl, q⟩ := hh
  obtain ⟨u, rfl, t, rfl⟩ := vals1 rv
  refine call_enumerate_str fun h' he hi hs hk => ?_
  refine wpAny_pyIter_enum he ?_
  refine ⟨s1.heap.objs.size + 1, [s1.heap.objs.size + 1, s1.heap.objs.size], _, _, H1, rfl, I1.kept (t' := s1.toks) hk, turn_enumS _ _ z t, ⟨⟨_, he⟩, hi, Nat.succ_ne_self _, Nat.zero_le _⟩, fun b hb => ?_, q⟩
  have hb2 : s1.heap.objs.size ≤ b := by
    rcases List.mem_cons.mp hb with z | z
    · rw [z]; exact Nat.le_succ _
    · rw [List.mem_singleton.mp z]; exact Nat.le_refl _
  exact I1.fpOk hb2 (I1.hok.fresh hb2)
def iEnumsS (f : DEnv → Res (List PyData)) : DEnv → Res (List PyData) := fun ρ => (f ρ).bind fun ds ρ1 => match ds with
  | [.str z] => .ok (numbered 0 (signsD z)) ρ1
  | _ => .bad
theorem i_enumS {X : Cx} {E : WX} {a : Expr} {fs : DEnv → Res (List PyData)} {pos p tp : Pos} {elts : List Expr} {kk : Nat} (hg : Gl X "enumerate") (hm : X.mg "enumerate" = none) (ha : AJ X E [a] fs) (hs : starEach [a] X.env = [(false, eval a X.env)] := by rfl) :
    IJ X E (.Tuple elts kk tp) (.Call (.Name "enumerate" p) [a] [] pos) (iEnumsS fs) := by
  obtain ⟨_, t, q, p⟩ := ha
  refine ⟨_, pi_enumS hg hm q hs, fun σ G H ρ Q R h => p σ G H ρ _ R (IPost.bind h fun G1 H1 xs ds ρ1 R1 S1 hx h1 => ?_)⟩
  cases hx with
  | nil => exact h1.elim
  | cons q1 q2 =>
    cases q1 with
    | str z =>
      cases q2 with
      | cons _ _ => exact h1.elim
      | nil =>
        refine ⟨z, rfl, IPost.done R1 h1 fun i G2 H2 s1 s2 => ?_⟩
        have hl : (signsD z).length = z.length := by unfold signsD; rw [List.length_map]; simp [Str.length]
        refine ⟨fun d hd => ?_, fun hle => by rw [numbered_len, hl] at hle; exact hle⟩
        obtain ⟨y, k1, rfl⟩ := numbered_get 0 i _ d hd
        unfold signsD at k1
        rw [List.getElem?_map] at k1
        obtain ⟨c, k2, rfl⟩ := Option.map_eq_some_iff.mp k1
        refine ⟨⟨c, k2⟩, fun x H3 ⟨T, c', e1, e2, e3, e4⟩ => ?_⟩
        subst e1 e3
        rw [k2] at e4
        cases e4
        have hg2 : G2 T = none := s2.free e2
        refine ⟨_, grow_new e2 hg2, .tup (SqT.of upd_same) (.cons ?_ (.cons (.str _) .nil))⟩
        rw [Nat.zero_add]
        exact .int _
    | _ => cases q2 <;> exact h1.elim
theorem wp_ienumS {Z : Exn → DEnv → Prop} (f : DEnv → Res (List PyData)) (ρ : DEnv) (L : List PyData → DEnv → Prop) : WpX Z (iEnumsS f ρ) L = WpX Z (f ρ) fun ds ρ1 => ∃ z, ds = [.str z] ∧ L (numbered 0 (signsD z)) ρ1 := by
  unfold iEnumsS
  rw [wp_bind]
  congr 1
  funext ds ρ1
  split
  · rename_i z
    rw [wp_ok]
    exact propext ⟨fun h => ⟨z, rfl, h⟩, fun ⟨z', e, h⟩ => by cases e; exact h⟩
  · rename_i hn
    rw [wp_bad]
    exact propext ⟨fun h => h.elim, fun ⟨z, e, _⟩ => hn z e⟩
end DL
set_option Elab.async false
set_option linter.all false
set_option maxRecDepth 100000
set_option maxHeartbeats 4000000
namespace L2
open PySem PySem.Spec PyProof.Rows
section
variable {X : Cx}
/-- raise X(e): X an own exception whose __init__ hands a text on and keeps e in a field -/
theorem pmk_own1 {C f : Addr} {F x : Str} {e : Expr} {ta : TE} {p pos : Pos} {k : Nat} (IF : PySem.OWN.InitAt X.prog X.K C f F) (hr : Room k X.A) (hg : Gl X x) (gC : X.mg x = some (.ref C)) (kC : PySem.W.keepIn X.K (.ref C) = true) (hsg : X.mg "super" = none)
    (he : PE X e ta) (hs : starEach [e] X.env = (false, eval e X.env) :: starEach [] X.env := by rfl) (hdb : (x == ("__debug__" : Str)) = false := by decide) :
    PMk X (.Call (.Name x p) [e] [] pos) (fun σ H Q => ta σ H fun v H1 => FitV v ∧ ∀ dx, H1 dx = none → Q (.ref C) (some dx) (upd H1 dx (.xd [(F, v)]))) := by
  intro pins s σ H Q I h
  obtain ⟨nm, q, N, bs, bm, sn, sub, ab, col, dd, k0, k1, k2, k3, k5, hC, hbm⟩ := IF.oex.cls
  refine wpAny_Call_Name_kw (ld_glob I hg gC ?_ hdb)
  refine PySem.W.callWith_K (h₀ := X.base) I.ok.mod.kin kC ?_ hs (by rfl)
  rw [hs]
  show wpAny _ _ (spliced ((false, eval e X.env) :: backTo pos (starEach [] X.env))) _ _ s
  refine Calls.spliced_cons (thn (he.run pins s σ H _ I h) fun u s1 ⟨v, H1, I1, r1, fit, q1⟩ => ?_)
  refine Calls.spliced_nil ⟨I1.kIn, ?_⟩
  show wpAny _ _ (call (.ref C) [u]) _ _ _
  obtain ⟨mb, hb1, hb2⟩ := I1.mod.blt
  have hGl := I1.mod.glob.keeps I1.bk
  have hBl := hb1.keeps I1.bk
  have lim : s1.heap.NoLimit := I1.mod.nolimit.keeps I1.bk
  have KX := I1.kIn
  obtain ⟨hp, g, dr, tk, os⟩ := s1
  have kk : ∀ b o, hp.get? b = some o → ((hp.push (PySem.W.kdv_tup [u])).push (PySem.HandSPX.excO C hp.objs.size)).get? b = some o := fun b o e => Heap.get?_push_of_some _ (Heap.get?_push_of_some _ e)
  have hget : ((hp.push (PySem.W.kdv_tup [u])).push (PySem.HandSPX.excO C hp.objs.size)).get? (hp.objs.size + 1) = some (PySem.HandSPX.excO C hp.objs.size) := by heap_get
  have hnew : hp.get? (hp.objs.size + 1) = none := by
    cases e : hp.get? (hp.objs.size + 1) with
    | none => rfl
    | some o => exact absurd (show hp.objs.size + 1 < hp.objs.size from Heap.lt_size e) (by omega)
  have hKx : X.K.lookup (hp.objs.size + 1) = none := by
    cases e : X.K.lookup (hp.objs.size + 1) with
    | none => rfl
    | some o => exact absurd (show hp.objs.size + 1 < hp.objs.size from Heap.lt_size (KX _ _ e)) (by omega)
  obtain ⟨name, qual, file, p', tf, ar, vs, params, scope, dV, kV, doc, pm, ct, oc, ccl, cl, an, od, cdd, cld, osl, ccs, csl, cc, cda, v1, v2, rest, p0, p1, p2, p3, p4, p5, p6, p7, p8, p9, f1, f2, f3, f4, f5, f6, f7, f8, f9, f10, f11, f12, f13, f14, f15, f16, f17, f18, f19, f20, f21, f22, f23⟩ := IF.fn
  refine wpAny_call (PySem.HandSPX.call_own PySem.F.excBase_ValueError (fun Y => PySem.HandSPX.refsVE_contains Y bm hbm) (KX _ _ hC) (PySem.W.looks_findIn KX IF.ini) (fun self => PySem.W.bind_fn KX self IF.ity) (by show 1 ≤ sizeLine; rw [sizeLine_eq]; omega) ?_)
  refine PySem.OWN.init_raw (by rw [make_depth]; have := hr.dp; omega) (KX.keeps kk) (lim.keeps kk) (hGl.keeps kk) hsg (hBl.keeps kk) ((hb2 "super" (by decide)).trans boot_super) f1 f2 f3 f4 (f5 _ _ _) f6 f7 f8 f9 f10 f11 f12 f13 f14 f15 f16 f17 f18 f19 f20 f21 f22 IF.oex IF.sin IF.sve IF.sta IF.slf IF.nof hget hKx (fit.fit r1) f23
    (fun h' tk' dx t1 k4 dn dne hx hn => ?_)
  have hdn : hp.get? dx = none := by
    cases e : hp.get? dx with
    | none => rfl
    | some o => rw [kk _ _ e] at dn; cases dn
  have na : H1 (hp.objs.size + 1) = none := I1.hok.gone hnew
  have nd : H1 dx = none := I1.hok.gone hdn
  have nea : ∀ {b : Addr}, upd H1 (hp.objs.size + 1) (exo (hp.objs.size + 1) C none) b = none → b ≠ hp.objs.size + 1 := fun {b} n z => by
    rw [z, upd_same] at n
    cases n
  have lift : ∀ {b : Addr} {o : HO}, upd H1 (hp.objs.size + 1) (exo (hp.objs.size + 1) C none) b = some o → o ≠ exo (hp.objs.size + 1) C none → upd (upd H1 dx (exd dx [(F, v)])) (hp.objs.size + 1) (exo (hp.objs.size + 1) C (some dx)) b = some o := fun {b o} e ne => by
    by_cases hb : b = hp.objs.size + 1
    · rw [hb, upd_same] at e
      exact absurd (Option.some.inj e).symm ne
    · rw [upd_ne hb] at e
      rw [upd_ne hb, upd_ne (ne_of_none e nd)]
      exact e
  have un : Un (frs X.stack) [] (upd H1 (hp.objs.size + 1) (exo (hp.objs.size + 1) C none)) (upd (upd H1 dx (exd dx [(F, v)])) (hp.objs.size + 1) (exo (hp.objs.size + 1) C (some dx))) ((hp.push (PySem.W.kdv_tup [u])).push (PySem.HandSPX.excO C hp.objs.size)) h' := {
    keep := fun b o q n _ _ => k4 b o (nea n) q
    slot := fun b o q n _ _ => ⟨o.slots, k4 b o (nea n) q⟩
    free := fun b o q n _ => by
      have hb := nea n
      rw [upd_ne hb] at n
      rw [upd_ne hb, upd_ne (fun z => by rw [z, dn] at q; cases q)]
      exact n
    there := fun b o q _ => by
      by_cases hb : b = hp.objs.size + 1
      · exact ⟨_, by rw [hb]; exact hx⟩
      · exact ⟨o, k4 b o hb q⟩
    tups := fun b xs q => lift q fun z => exo_tup z.symm
    frzs := fun b o w' q => lift q fun z => exo_frz z.symm
    tbls := fun b ps q => ⟨#[], by rw [lift q fun z => exo_tbl z.symm]; simp⟩ }
  have hk' : ∀ b o, hp.get? b = some o → h'.get? b = some o := fun b o e => k4 b o (fun z => by rw [z, hnew] at e; cases e) (kk b o e)
  have hok : HOk X.prog X.w (upd (upd H1 dx (exd dx [(F, v)])) (hp.objs.size + 1) (exo (hp.objs.size + 1) C (some dx))) h' := fun b o q => by
    by_cases hb : b = hp.objs.size + 1
    · subst hb
      rw [upd_same] at q
      cases q
      exact exo_ok hx
    · rw [upd_ne hb] at q
      by_cases hd : b = dx
      · subst hd
        rw [upd_same] at q
        cases q
        exact exd_ok hn (relO_put (fs := []) r1 fun g => True.intro)
      · rw [upd_ne hd] at q
        exact (I1.hok b o q).stay (fun c v _ z => hk' c v z) (fun c q => by rw [upd_ne (ne_of_none q na), upd_ne (ne_of_none q nd)]; exact q) fun c xs q => by rw [upd_ne (ne_of_none q na), upd_ne (ne_of_none q nd)]; exact q
  refine ⟨rfl, mk_end (d2 := dr) (t2 := tk') (raises_own IF.oex.exC IF.oex.tyC) I1 (Nat.le_succ _) kk un hok rfl I1.bare upd_same (by rw [upd_ne dne]; exact upd_same) nd ?_⟩
  have e : upd (del (upd (upd H1 dx (exd dx [(F, v)])) (hp.objs.size + 1) (exo (hp.objs.size + 1) C (some dx))) (hp.objs.size + 1)) dx (.xd [(F, v)]) = upd H1 dx (.xd [(F, v)]) := by
    funext b
    by_cases hb : b = dx
    · rw [hb, upd_same, upd_same]
    · rw [upd_ne hb, upd_ne hb]
      by_cases ha : b = hp.objs.size + 1
      · rw [ha, del_same]; exact na.symm
      · rw [del_ne ha, upd_ne ha, upd_ne hb]
  rw [e]
  exact q1 dx nd
/-- isinstance(e, c), e the exception that the suite holds: it has a dict -/
def rIsE2 (K : PySem.W.Frag) (D a dd : Addr) : List V → Hp → VK → Prop := fun xs H Q => ∃ (c : V) (cv : Value) (b : Bool), xs = [.ref a, c] ∧ (∃ fs, H dd = some (.xd fs)) ∧ (∀ u, RelV c u → u = cv) ∧ PySem.W.kitOne K (.ref D) cv = some b ∧ Q (.bl b) H
theorem call_isE2 {a D dd : Addr} {oe : Obj} {pn : List (Addr × Obj)} (C : ExcC X.K D) (hz : Zc (.ref D) (some dd) oe) (hf : ∃ vs, oe.data = .fields vs) : CallR (X.suite a ((a, oe) :: pn)) (.builtin "isinstance") (rIsE2 X.K D a dd) := by
  intro pins s σ H xs us Q I r h
  obtain ⟨c, cv, b, rfl, ⟨fs, hd⟩, hcv, e, q⟩ := h
  cases r with
  | cons rx rr =>
    cases rr with
    | cons rt rr =>
      cases rr
      cases rx
      have ec := hcv _ rt
      subst ec
      obtain ⟨hget, _⟩ := I.pin (a, oe) (List.mem_append.mpr (.inl List.mem_cons_self))
      obtain ⟨vs, hv⟩ := hf
      have hx : ObjOk X.prog X.w H s.heap dd (.xd fs) := I.hok dd _ hd
      obtain ⟨mA, ⟨od, es, ep, ho, _⟩, _⟩ := hx
      have J : PySem.W.InstAt s.heap a oe D (some od) := by
        obtain ⟨oc, odd, oda, osl⟩ := oe
        obtain ⟨h1, h2⟩ := hz
        dsimp only at h1 h2 hv
        subst h1 h2 hv
        exact ⟨hget, rfl, rfl, ho⟩
      obtain ⟨cdD, hcD, _⟩ := PySem.W.any_some C.hd
      have hcl : (PySem.W.clsIn X.K D).isSome = true := by rw [hcD]; rfl
      exact PySem.W.kia_one (PySem.W.kitx_exc hcl C.hg C.hk C.hs C.ha C.hn C.ht C.hm) I.kIn J e (fun z => nomatch z) fun tk => ⟨.bl b, H, I.kept (t' := tk) fun _ _ z => z, rfl, q⟩
end
end L2
namespace DL
open PySem PySem.Spec PyProof PyProof.Rows L2
variable [Td]
def sRaiseI (x F : Str) (f : DEnv → Res PyData) : DEnv → Res Out := fun ρ => (f ρ).bind fun d ρ1 => if fitD d then .err ⟨x, [(F, d)]⟩ ρ1 else .bad
theorem s_raiseI {X : Cx} {W : WX} {e : Expr} {f : DEnv → Res PyData} {pos p pos' : Pos} {x F : Str} {C fI : Addr} {k : Nat} (hc : X.calm = true) (tk : Takes X W) (XI : XiF X.prog X.K X.mg x C fI F) (hr : Room k X.A) (hg : Gl X x) (ha : EJ X W e f)
    (hs : starEach [e] X.env = (false, eval e X.env) :: starEach [] X.env := by rfl) (hdb : (x == ("__debug__" : Str)) = false := by decide) :
    SJ X W (.Raise (some (.Call (.Name x p) [e] [] pos)) none pos') (sRaiseI x F f) := by
  obtain ⟨t, q, pp⟩ := ha
  refine ⟨_, ps_raise hc tk (pmk_own1 XI.at_ hr hg XI.g XI.kp XI.su q hs hdb), fun σ G H ρ D R h => pp σ G H ρ _ R (SPost.bind h fun G1 H1 v d ρ1 R1 S1 hv h1 => ?_)⟩
  by_cases hz : fitD d = true
  case neg => rw [if_neg hz] at h1; exact h1.elim
  rw [if_pos hz] at h1
  refine ⟨?_, fun dx nd => ?_⟩
  · cases hv with
    | str y => exact .inl ⟨y, rfl, of_decide_eq_true hz⟩
    | int i => exact .inr ⟨i, rfl, of_decide_eq_true hz⟩
    | _ => cases hz
  · have S2 := Stp.alloc (σ := σ) (ρ := ρ1) nd (R1.noneG nd) (.xd [(F, v)])
    exact h1 _ _ σ (.ref C) (some dx) (R1.alloc nd (.xd [(F, v)])) S2 ⟨C, XI.g, rfl, dx, [(F, v)], rfl, upd_same, .cons ⟨rfl, Rp.mono S2.same hv⟩ .nil⟩
structure UP (X : Cx) (i : Nat) (e : Expr) (f : Exn → Option PyData) : Prop where
  ex : ∀ (a : Addr) (oe : Obj) (C : Addr) (od : Option Addr) (pn : List (Addr × Obj)), Zc (.ref C) od oe → (∃ vs, oe.data = .fields vs) →
    ∃ t : TE, PE (X.suite a ((a, oe) :: pn)) e t ∧ ∀ (σ : St) (G H : Hp) (ρ : DEnv) (Q : VK) (x : Exn) (d : PyData), Rel X.K G σ H ρ → σ[i]? = some (some (.ref a)) → H a = none → ErrAt X.K X.mg G H x (.ref C) od →
      f x = some d → (∀ v, Rp X.K G v d → Q v H) → t σ H Q
section
variable {X : Cx} {i : Nat} {e : Expr} {pos p1 p2 : Pos} {n : Str}
theorem up_str {x : Str} {j : Nat} : UP X i (.Constant (.str x) j pos) (fun _ => some (.str x)) :=
  ⟨fun a oe C od pn _ _ => ⟨_, pe_str, fun σ G H ρ Q x' d R _ _ _ e k => by cases e; exact k _ (.str _)⟩⟩
/-- e.f of the caught one -/
def XFM (K : PySem.W.Frag) (mg : Str → Option Value) (l : List Str) (n : Str) : Prop := ∀ c ∈ l, ∀ C, mg c = some (.ref C) → XfC K C ∧ PySem.W.findIn K (.ref C) n = some none
def xfldX (l : List Str) (n : Str) (x : Exn) : Option PyData := if x.cls ∈ l then x.fs.lookup n else none
theorem kv_lookup {K : PySem.W.Frag} {G : Hp} {n : Str} {d : PyData} : ∀ {vs : List (Str × V)} {fs : List (Str × PyData)}, KvAll K G vs fs → fs.lookup n = some d → ∃ v, vs.lookup n = some v ∧ Rp K G v d
  | _, _, .nil, h => by cases h
  | (a, v) :: vs, (b, d') :: fs, .cons ⟨e, r⟩ t, h => by
    dsimp only at e r
    subst e
    rw [List.lookup_cons] at h ⊢
    cases q : n == a with
    | true => rw [q] at h; cases h; exact ⟨v, rfl, r⟩
    | false => rw [q] at h; exact kv_lookup t h
theorem up_fld {l : List Str} {m : Str} (F : XFM X.K X.mg l n) (hn : ∀ a pn, PE (X.suite a pn) (.Name m p1) (tVar i)) (hb : ∀ a pn, attributeBase (.Name m p1) n (X.suite a pn).env (eval (.Name m p1) (X.suite a pn).env) = eval (.Name m p1) (X.suite a pn).env := by intros; rfl) :
    UP X i (.Attribute (.Name m p1) n pos) (xfldX l n) := by
  refine ⟨fun a oe C od pn hz hf => ?_⟩
  by_cases ho : XfC X.K C ∧ PySem.W.findIn X.K (.ref C) n = some none
  · refine ⟨_, pe_xf ho.1 ho.2 hz hf (hn a _) (hb a ((a, oe) :: pn)), fun σ G H ρ Q x d R h1 h2 h3 h4 k => ?_⟩
    unfold xfldX at h4
    by_cases hc : x.cls ∈ l
    · rw [if_pos hc] at h4
      obtain ⟨C', g1, g2, g3⟩ := h3
      cases g2
      cases e : x.fs with
      | nil => rw [e] at h4; cases h4
      | cons y ys =>
        rw [e] at g3 h4
        obtain ⟨dd, vs, rfl, hd, kv⟩ := g3
        obtain ⟨v, l1, r⟩ := kv_lookup kv h4
        exact ⟨.ref a, h1, rfl, rfl, dd, vs, v, rfl, hd, l1, k v r⟩
    · rw [if_neg hc] at h4; cases h4
  · refine ⟨fun _ _ _ => False, ⟨fun _ _ _ _ _ _ h => h.elim⟩, fun σ G H ρ Q x d R h1 h2 h3 h4 k => ho ?_⟩
    unfold xfldX at h4
    by_cases hc : x.cls ∈ l
    · obtain ⟨C', g1, g2, g3⟩ := h3
      cases g2
      exact F _ hc _ g1
    · rw [if_neg hc] at h4; cases h4
theorem up_isi {cV : V} {cv : Value} {eT : Expr} {q : Str → Option Bool} {m : Str} (hg : Gl X "isinstance") (hm : X.mg "isinstance" = none) (hn : ∀ a pn, PE (X.suite a pn) (.Name m p2) (tVar i)) (hT : ∀ a pn, PE (X.suite a pn) eT (tC cV)) (hv : ∀ u, RelV cV u → u = cv) (F : IsF X.K X.mg cv q)
    (hs : ∀ a pn, starEach [.Name m p2, eT] (X.suite a pn).env = (false, eval (.Name m p2) (X.suite a pn).env) :: starEach [eT] (X.suite a pn).env := by intros; rfl) (hs2 : ∀ a pn, starEach [eT] (X.suite a pn).env = (false, eval eT (X.suite a pn).env) :: starEach [] (X.suite a pn).env := by intros; rfl)
    (hpl : ∀ a pn, (backTo pos (starEach [eT] (X.suite a pn).env)).any (·.1) = false := by intros; rfl) :
    UP X i (.Call (.Name "isinstance" p1) [.Name m p2, eT] [] pos) (fun x => (q x.cls).map .bool) := by
  refine ⟨fun a oe C od pn hz hf => ?_⟩
  by_cases hC : L2.ExcC X.K C
  · cases od with
    | none =>
      refine ⟨_, pe_callB (call_isE hC hz hf) hg hm (by decide +kernel) (pa_cons (hn _ _) (pa_cons (hT _ _) pa_nil (hs2 _ _)) (hs _ _)) (he := hs _ _) (hpl := hpl _ _), fun σ G H ρ Q x d R h1 h2 h3 h4 k => ?_⟩
      obtain ⟨C', g1, g2, g3⟩ := h3
      cases g2
      obtain ⟨b, e2, rfl⟩ := Option.map_eq_some_iff.mp h4
      obtain ⟨_, k2⟩ := F.ex _ b e2 C g1
      exact ⟨.ref a, h1, cV, cv, b, rfl, hv, k2, k _ (.bl b)⟩
    | some dd =>
      refine ⟨_, pe_callB (call_isE2 hC hz hf) hg hm (by decide +kernel) (pa_cons (hn _ _) (pa_cons (hT _ _) pa_nil (hs2 _ _)) (hs _ _)) (he := hs _ _) (hpl := hpl _ _), fun σ G H ρ Q x d R h1 h2 h3 h4 k => ?_⟩
      obtain ⟨C', g1, g2, g3⟩ := h3
      cases g2
      obtain ⟨b, e2, rfl⟩ := Option.map_eq_some_iff.mp h4
      obtain ⟨_, k2⟩ := F.ex _ b e2 C g1
      cases e : x.fs with
      | nil => rw [e] at g3; cases g3
      | cons y ys =>
        rw [e] at g3
        obtain ⟨dd', vs, e5, hd, kv⟩ := g3
        cases e5
        exact ⟨.ref a, h1, cV, cv, b, rfl, ⟨_, hd⟩, hv, k2, k _ (.bl b)⟩
  · refine ⟨fun _ _ _ => False, ⟨fun _ _ _ _ _ _ h => h.elim⟩, fun σ G H ρ Q x d R h1 h2 h3 h4 k => hC ?_⟩
    obtain ⟨C', g1, g2, g3⟩ := h3
    cases g2
    obtain ⟨b, e2, rfl⟩ := Option.map_eq_some_iff.mp h4
    exact (F.ex _ b e2 C g1).1
def oIntX : PyData → Option PyData
  | .bool b => some (.int (if b then 1 else 0))
  | _ => none
theorem up_int {f : Exn → Option PyData} (hg : Gl X "int") (hm : X.mg "int" = none) (h : UP X i e f) (hs : ∀ a pn, starEach [e] (X.suite a pn).env = (false, eval e (X.suite a pn).env) :: starEach [] (X.suite a pn).env := by intros; rfl) (hpl : ∀ a pn, (backTo pos (starEach [] (X.suite a pn).env)).any (·.1) = false := by intros; rfl) :
    UP X i (.Call (.Name "int" p1) [e] [] pos) (fun x => (f x).bind oIntX) := by
  refine ⟨fun a oe C od pn hz hf => ?_⟩
  obtain ⟨t, q, p⟩ := h.ex a oe C od pn hz hf
  refine ⟨_, pe_callTy call_int1 hg hm (by decide +kernel) (pa_cons q pa_nil (hs _ _)) (he := hs _ _) (hpl := hpl _ _), fun σ G H ρ Q x d R h1 h2 h3 h4 k => ?_⟩
  obtain ⟨d1, e1, e2⟩ := Option.bind_eq_some_iff.mp h4
  refine p σ G H ρ _ x d1 R h1 h2 h3 e1 fun v r => ?_
  cases r with
  | bl b => cases e2; exact .inr ⟨b, rfl, k _ (.int _)⟩
  | _ => cases e2
/-- several of them -/
inductive UPs (X : Cx) (i : Nat) : List Expr → List (Exn → Option PyData) → Prop where
  | nil : UPs X i [] []
  | cons {e : Expr} {f : Exn → Option PyData} {es : List Expr} {fs : List (Exn → Option PyData)} (h : UP X i e f) (r : UPs X i es fs) (hs : ∀ a pn, starEach (e :: es) (X.suite a pn).env = (false, eval e (X.suite a pn).env) :: starEach es (X.suite a pn).env) : UPs X i (e :: es) (f :: fs)
def allX : List (Exn → Option PyData) → Exn → Option (List PyData)
  | [], _ => some []
  | f :: fs, x => (f x).bind fun d => (allX fs x).map (d :: ·)
theorem ups_read {es : List Expr} {fs : List (Exn → Option PyData)} (h : UPs X i es fs) : ∀ (a : Addr) (oe : Obj) (C : Addr) (od : Option Addr) (pn : List (Addr × Obj)), Zc (.ref C) od oe → (∃ vs, oe.data = .fields vs) →
    ∃ t : TA, PA (X.suite a ((a, oe) :: pn)) es t ∧ ∀ (σ : St) (G H : Hp) (ρ : DEnv) (Q : List V → Hp → Prop) (x : Exn) (ds : List PyData), Rel X.K G σ H ρ → σ[i]? = some (some (.ref a)) → H a = none → ErrAt X.K X.mg G H x (.ref C) od →
      allX fs x = some ds → (∀ vs, RpAll X.K G vs ds → Q vs H) → t σ H Q := by
  induction h with
  | nil => exact fun a oe C od pn _ _ => ⟨_, pa_nil, fun σ G H ρ Q x ds R _ _ _ e k => by cases e; exact k _ .nil⟩
  | cons h r hs ih =>
    intro a oe C od pn hz hf
    obtain ⟨t, q, p⟩ := h.ex a oe C od pn hz hf
    obtain ⟨u, q2, p2⟩ := ih a oe C od pn hz hf
    refine ⟨_, pa_cons q q2 (hs a _), fun σ G H ρ Q x ds R h1 h2 h3 h4 k => ?_⟩
    obtain ⟨d, e1, e2⟩ := Option.bind_eq_some_iff.mp h4
    obtain ⟨ds', e3, rfl⟩ := Option.map_eq_some_iff.mp e2
    exact p σ G H ρ _ x d R h1 h2 h3 e1 fun v r1 => p2 σ G H ρ _ x ds' R h1 h2 h3 e3 fun vs r2 => k _ (.cons r1 r2)
def dTupX (fs : List (Exn → Option PyData)) (x : Exn) : DEnv → Res PyData := fun ρ => match allX fs x with
  | some ds => if ds.length ≤ sizeLine then .ok (.tuple ds) ρ else .bad
  | none => .bad
theorem ue_tup {es : List Expr} {fs : List (Exn → Option PyData)} {k : Nat} (h : UPs X i es fs) : UE X i (.Tuple es k pos) (dTupX fs) := by
  refine ⟨fun a oe C od pn hz hf => ?_⟩
  obtain ⟨t, q, p⟩ := ups_read h a oe C od pn hz hf
  refine ⟨_, pe_tup q, fun σ G H ρ Q x R h1 h2 h3 h4 => ?_⟩
  unfold dTupX at h4
  cases e : allX fs x with
  | none => rw [e] at h4; exact h4.elim
  | some ds =>
    rw [e] at h4
    dsimp only at h4
    by_cases hz : ds.length ≤ sizeLine
    · rw [if_pos hz] at h4
      refine p σ G H ρ _ x ds R h1 h2 h3 e fun vs r => ?_
      have hl := RpAll.len r
      exact ⟨by omega, fun p hp => Post.new R h4 hp (.tup (SqT.of upd_same) (RpAll.mono (same_upd (R.noneG hp)) r))⟩
    · rw [if_neg hz] at h4; exact h4.elim
/-- if t: return a; and the rest -/
def sIfX (ft : Exn → Option PyData) (f1 : Exn → DEnv → Res PyData) (fr : Exn → DEnv → Res Out) (x : Exn) : DEnv → Res Out := fun ρ => match ft x with
  | some (.bool true) => sRet (f1 x) ρ
  | some (.bool false) => fr x ρ
  | _ => .bad
theorem u_if {t e1 : Expr} {rest : List Stmt} {ft : Exn → Option PyData} {f1 : Exn → DEnv → Res PyData} {fr : Exn → DEnv → Res Out} (ht : UP X i t ft) (h1 : UE X i e1 f1) (hr : UJ X i rest fr)
    (hp : ∀ a pn whole, isTrue t (X.suite a pn).env whole = (do let v ← whole; standAt t.pos; holding [v] (truthy v)) := by intros; rfl) :
    UJ X i (.If t [.Return (some e1) p1] [] p2 :: rest) (sIfX ft f1 fr) := by
  refine ⟨fun a oe C od pn hz hf => ?_⟩
  obtain ⟨tt, q, p⟩ := ht.ex a oe C od pn hz hf
  obtain ⟨t1, q1, w1⟩ := h1.ex a oe C od pn hz hf
  obtain ⟨t2, q2, w2⟩ := hr.ex a oe C od pn hz hf
  refine ⟨_, pss_cons (ps_if (pt_val q (hp a _)) (pss_one (ps_ret q1)) pss_nil) q2, fun σ G H ρ D x R g1 g2 g3 hh => ?_⟩
  unfold sIfX at hh
  split at hh
  · rename_i e
    refine p σ G H ρ _ x _ R g1 g2 g3 e fun v r => ?_
    cases r
    refine ⟨true, rfl, ?_⟩
    exact w1 σ G H ρ _ x R g1 g2 g3 (SPost.bind hh fun G1 H1 v d ρ1 R1 S1 hx h4 => h4 G1 H1 σ v R1 Stp.refl hx)
  · rename_i e
    refine p σ G H ρ _ x _ R g1 g2 g3 e fun v r => ?_
    cases r
    refine ⟨false, rfl, ?_⟩
    exact w2 σ G H ρ D x R g1 g2 g3 hh
  · exact hh.elim
end
end DL
namespace DL
open PySem PySem.Spec PyProof PyProof.Rows L2
variable [Td]
section
variable {Z : Exn → DEnv → Prop} {ρ : DEnv}
theorem ws_raiseI {S : Out → DEnv → Prop} (x F : Str) (f : DEnv → Res PyData) : WpX Z (sRaiseI x F f ρ) S = WpX Z (f ρ) fun d ρ1 => fitD d = true ∧ Z ⟨x, [(F, d)]⟩ ρ1 := by
  unfold sRaiseI
  rw [wp_bind]
  congr 1
  funext d ρ1
  by_cases hz : fitD d = true
  · rw [if_pos hz, wp_errI]
    exact propext ⟨fun h => ⟨hz, h⟩, fun h => h.2⟩
  · rw [if_neg hz, wp_bad]
    exact propext ⟨fun h => h.elim, fun h => hz h.1⟩
theorem wp_slS {Q : PyData → DEnv → Prop} (f : DEnv → Res PyData) (l u : DEnv → Res (Option Int)) : WpX Z (dSlS f l u ρ) Q = WpX Z (f ρ) fun d ρ1 => WpX Z (l ρ1) fun lo ρ2 => WpX Z (u ρ2) fun hi ρ3 => ∃ z, d = .str z ∧ z.length ≤ sizeLine ∧ Q (.str (cutS z lo hi)) ρ3 := by
  unfold dSlS
  rw [wp_bind]
  congr 1
  funext d ρ1
  rw [wp_bind]
  congr 1
  funext lo ρ2
  rw [wp_bind]
  congr 1
  funext hi ρ3
  cases d with
  | str z =>
    show WpX Z (Res.of (if z.length ≤ sizeLine then some (.str (cutS z lo hi)) else none) ρ3) Q = _
    by_cases hz : z.length ≤ sizeLine
    · rw [if_pos hz]
      show WpX Z (.ok _ _) Q = _
      rw [wp_ok]
      exact propext ⟨fun h => ⟨z, rfl, hz, h⟩, fun ⟨z', e, _, h⟩ => by cases e; exact h⟩
    · rw [if_neg hz]
      show WpX Z .bad Q = _
      rw [wp_bad]
      exact propext ⟨fun h => h.elim, fun ⟨z', e, h, _⟩ => by cases e; exact hz h⟩
  | _ =>
    show WpX Z .bad Q = _
    rw [wp_bad]
    exact propext ⟨fun h => h.elim, fun ⟨z', e, _⟩ => by cases e⟩
theorem wp_join {Q : PyData → DEnv → Prop} (fo fe : DEnv → Res PyData) : WpX Z (dJoin fo fe ρ) Q = WpX Z (fo ρ) fun d ρ1 => ∃ a, d = .str a ∧ WpX Z (fe ρ1) fun e ρ2 => WpX Z (Res.of (oJoin a e) ρ2) Q := by
  unfold dJoin
  rw [wp_bind]
  congr 1
  funext d ρ1
  cases d with
  | str a =>
    dsimp only
    rw [wp_bind]
    exact propext ⟨fun h => ⟨a, rfl, h⟩, fun ⟨a', e, h⟩ => by cases e; exact h⟩
  | _ =>
    dsimp only
    rw [wp_bad]
    exact propext ⟨fun h => h.elim, fun ⟨z', e, _⟩ => by cases e⟩
theorem wp_fListS {O : OD → DEnv → Prop} (f : DEnv → Res PyData) : WpX Z (fListS f ρ) O = WpX Z (f ρ) fun d ρ1 => ∃ z, d = .str z ∧ z.length ≤ sizeLine ∧ O (.lst (signsD z)) ρ1 := by
  unfold fListS
  rw [wp_bind]
  congr 1
  funext d ρ1
  cases d with
  | str z =>
    dsimp only
    by_cases hz : z.length ≤ sizeLine
    · rw [if_pos hz, wp_ok]
      exact propext ⟨fun h => ⟨z, rfl, hz, h⟩, fun ⟨z', e, _, h⟩ => by cases e; exact h⟩
    · rw [if_neg hz, wp_bad]
      exact propext ⟨fun h => h.elim, fun ⟨z', e, h, _⟩ => by cases e; exact hz h⟩
  | _ =>
    dsimp only
    rw [wp_bad]
    exact propext ⟨fun h => h.elim, fun ⟨z', e, _⟩ => by cases e⟩
end
end DL
namespace DL
open PySem PySem.Spec PyProof PyProof.Rows L2
variable [Td]
theorem matches_rows {K : PySem.W.Frag} {mg : Str → Option Value} {c : Value} {l : List (Str × Bool)} (h : ∀ p ∈ l, ∃ C, mg p.1 = some (.ref C) ∧ PySem.W.exmOne K (.ref C) c = some p.2) : Matches K mg c (tab1 l) := matches_of fun p hp C g => by
  obtain ⟨C', g', e⟩ := h p hp
  rw [g'] at g
  cases g
  exact e
theorem isF_rows {K : PySem.W.Frag} {mg : Str → Option Value} {c : Value} {l : List (Str × Bool)} (h : ∀ p ∈ l, ∃ C, mg p.1 = some (.ref C) ∧ L2.ExcC K C ∧ PySem.W.kitOne K (.ref C) c = some p.2) : IsF K mg c (tab1 l) := isF_of fun p hp C g => by
  obtain ⟨C', g', e1, e2⟩ := h p hp
  rw [g'] at g
  cases g
  exact ⟨e1, e2⟩
end DL
set_option Elab.async false
set_option linter.all false
set_option maxRecDepth 100000
set_option maxHeartbeats 8000000
namespace M
open PySem PySem.Spec PyProof.Rows L2 DL
def topS (i : Nat) : Stmt := PySem.Challenge.pw_twoways_k01_words_and_tapes.main.body.getD i (.Pass ⟨0, 0, 0, 0⟩)
section
variable [Td]
def bltNames : List Str := ["len", "range", "list", "int", "str", "isinstance", "enumerate", "ValueError", "super"]
abbrev Blt (mg : Str → Option Value) : Prop := ∀ x ∈ bltNames, mg x = none
theorem in_len : ("len" : Str) ∈ bltNames := by decide +kernel
theorem in_range : ("range" : Str) ∈ bltNames := by decide +kernel
theorem in_list : ("list" : Str) ∈ bltNames := by decide +kernel
theorem in_int : ("int" : Str) ∈ bltNames := by decide +kernel
theorem in_str : ("str" : Str) ∈ bltNames := by decide +kernel
theorem in_isinstance : ("isinstance" : Str) ∈ bltNames := by decide +kernel
theorem in_enumerate : ("enumerate" : Str) ∈ bltNames := by decide +kernel
theorem in_ValueError : ("ValueError" : Str) ∈ bltNames := by decide +kernel
def c_LEFT_END : PyData := .int 0
def c_RIGHT_END : PyData := .int 1
def c_END_MARKS : PyData := .int 2
def c_LONGEST_WORD : PyData := .int 200
def c_DIGITS : PyData := .str "0123456789"
/-- the module's constants -/
structure Glb (K : PySem.W.Frag) (mg : Str → Option Value) : Prop where
  mk ::
  LEFT_END : ∃ u v, mg "LEFT_END" = some u ∧ RelV v u ∧ ∀ G, Rp K G v c_LEFT_END
  RIGHT_END : ∃ u v, mg "RIGHT_END" = some u ∧ RelV v u ∧ ∀ G, Rp K G v c_RIGHT_END
  END_MARKS : ∃ u v, mg "END_MARKS" = some u ∧ RelV v u ∧ ∀ G, Rp K G v c_END_MARKS
  LONGEST_WORD : ∃ u v, mg "LONGEST_WORD" = some u ∧ RelV v u ∧ ∀ G, Rp K G v c_LONGEST_WORD
  DIGITS : ∃ u v, mg "DIGITS" = some u ∧ RelV v u ∧ ∀ G, Rp K G v c_DIGITS
def xh_TwowaysError : List (Str × Bool) := [("InvalidLetter", true), ("WordTooLong", true)]
def xr_InvalidLetter : List (Str × Bool) := [("InvalidLetter", true), ("WordTooLong", false)]
def xr_WordTooLong : List (Str × Bool) := [("InvalidLetter", false), ("WordTooLong", true)]
def xr_ValueError : List (Str × Bool) := [("InvalidLetter", true), ("WordTooLong", true)]
def xf_place : List Str := ["InvalidLetter"]
abbrev st_law_draws : Stmt := topS 17
theorem sc_law_draws : FnScope ["cell", "modulus", "count", "number", "row", "k", "mixed"] ["cell", "modulus", "count"] (defScope st_law_draws) := ⟨rfl, rfl, rfl, by decide +kernel, rfl, by decide +kernel, by decide +kernel⟩
def body_law_draws : DEnv → Res Out := sSeq (sAsg (dVar 0) (setV 3)) (sSeq (sIf (tOf (dOp oLt (dVar 3) (dC (.int 0)))) (sAsg (dOp oSub (dC (.int 0)) (dVar 3)) (setV 3)) (sNx)) (sSeq (sNew 4 (fLst (dNil))) (sSeq (sIf (tOf (dOp oGe (dVar 3) (dOp oPow (dC (.int 10)) (dC (.int 18))))) (sSeq (sFor (iRng rng1 (dCons (dVar 2) (dNil))) (setV 5) (sSeq (sApp 4 (dOp oMod (dCall oInt (dCons (dVar 3) (dNil))) (dVar 1))) (sAsg (dOp oDiv (dVar 3) (dVar 1)) (setV 3)))) (sFrz 4 (sRet (dVar 4)))) (sNx)) (sSeq (sFor (iRng rng1 (dCons (dVar 2) (dNil))) (setV 5) (sSeq (sAsg (dOp oMod (dCall oInt (dCons (dOp oMul (dOp oAdd (dOp oAdd (dVar 3) (dOp oMul (dC (.int 7)) (dVar 5))) (dC (.int 1))) (dC (.int 48271))) (dNil))) (dC (.int 2147483647))) (setV 6)) (sSeq (sAsg (dOp oMod (dCall oInt (dCons (dOp oAdd (dOp oMul (dVar 6) (dC (.int 69621))) (dOp oMul (dC (.int 31)) (dVar 5))) (dNil))) (dC (.int 2147483629))) (setV 6)) (sApp 4 (dOp oMod (dCall oInt (dCons (dOp oDiv (dVar 6) (dC (.int 7))) (dNil))) (dVar 1)))))) (sFrz 4 (sRet (dVar 4)))))))
def den_law_draws : DEnv → Res PyData := defD 4 body_law_draws
theorem wpd_law_draws (a0 a1 a2 : Cell) (Q : PyData → DEnv → Prop) (h : WpX Zn (body_law_draws [a0, a1, a2, .un, .un, .un, .un]) (retQ [a0, a1, a2] Q)) : WpX Zn (den_law_draws [a0, a1, a2]) Q := wp_def Q 4 _ _ h
theorem k_law_draws {P : Program} {w : World} {K : PySem.W.Frag} {mg : Str → Option Value} {base : Heap} {f : Addr} {fd : FuncData} (B : Blt mg) (G : Glb K mg) (D : IsDef K mg "_law_draws" "_law_draws" st_law_draws ["cell", "modulus", "count"] f fd) (HT : P = Td.P ∧ w = Td.w ∧ mg = Td.mg ∧ base = Td.base)  : Kept P w K mg base CX0 1 "_law_draws" ["cell", "modulus", "count"] den_law_draws := by
  refine kept_of D sc_law_draws rfl fun cdv A outer s H E hr => ?_
  have hu65 : (A.deeper (envOfC "_law_draws" (defScope st_law_draws) s.heap.objs.size f cdv)).units + 65 < cLine := by have := hr.un; omega
  have hu1 : (A.deeper (envOfC "_law_draws" (defScope st_law_draws) s.heap.objs.size f cdv)).units + 1 < cLine := by omega
  exact (b_cons (s_asg (e_var 0 (pv 0)) (g_name 3 (pg_name (i := 3) sc_law_draws.nd rfl (by first | exact .inl rfl | exact .inr rfl))) (fun _ _ h1 h2 => ps_asg h1 h2))
      (b_cons (s_if (t_cmp (ho_lt hr.units0) od_lt (e_var 3 (pv 3)) e_int (nomark _)) (b_one (s_asg (e_op op_sub od_sub e_int (e_var 3 (pv 3))) (g_name 3 (pg_name (i := 3) sc_law_draws.nd rfl (by first | exact .inl rfl | exact .inr rfl))) (fun _ _ h1 h2 => ps_asg h1 h2))) b_nil)
      (b_cons (s_new 4 (f_lst a_nil) (fun _ h => ps_set (i := 4) sc_law_draws.nd rfl (by first | exact .inl rfl | exact .inr rfl) h))
      (b_cons (s_if (t_cmp op_ge od_ge (e_var 3 (pv 3)) (e_op op_pow od_pow e_int e_int) (nomark _)) (b_cons (s_for (fun _ _ _ h1 h2 h3 => ps_for PassesOwn.never rfl h1 h2 h3) (i_rng1 rfl (B _ in_range) (a_cons (e_var 2 (pv 2)) a_nil)) (g_name 5 (pg_name (i := 5) sc_law_draws.nd rfl (by first | exact .inl rfl | exact .inr rfl))) (b_cons (s_app 4 (pv 4) (e_op op_mod od_mod (e_callT call_int1 cd_int rfl (B _ in_int) (by decide +kernel) (a_cons (e_var 3 (pv 3)) a_nil)) (e_var 1 (pv 1))) (fun _ _ h1 h2 => ps_expr (pe_bm PySem.F.plainAttrs_list PySem.F.slot_list_append PySem.F.type_list_append mt_append h1 h2)))
      (b_one (s_asg (e_op op_fdiv od_div (e_var 3 (pv 3)) (e_var 1 (pv 1))) (g_name 3 (pg_name (i := 3) sc_law_draws.nd rfl (by first | exact .inl rfl | exact .inr rfl))) (fun _ _ h1 h2 => ps_asg h1 h2)))))
      (b_one (s_frz 4 (s_ret (e_var 4 (pv 4)))))) b_nil)
      (b_cons (s_for (fun _ _ _ h1 h2 h3 => ps_for PassesOwn.never rfl h1 h2 h3) (i_rng1 rfl (B _ in_range) (a_cons (e_var 2 (pv 2)) a_nil)) (g_name 5 (pg_name (i := 5) sc_law_draws.nd rfl (by first | exact .inl rfl | exact .inr rfl))) (b_cons (s_asg (e_op op_mod od_mod (e_callT call_int1 cd_int rfl (B _ in_int) (by decide +kernel) (a_cons (e_op ho_mul od_mul (e_op ho_add od_add (e_op ho_add od_add (e_var 3 (pv 3)) (e_op ho_mul od_mul e_int (e_var 5 (pv 5)))) e_int) e_int) a_nil)) e_int) (g_name 6 (pg_name (i := 6) sc_law_draws.nd rfl (by first | exact .inl rfl | exact .inr rfl))) (fun _ _ h1 h2 => ps_asg h1 h2))
      (b_cons (s_asg (e_op op_mod od_mod (e_callT call_int1 cd_int rfl (B _ in_int) (by decide +kernel) (a_cons (e_op ho_add od_add (e_op ho_mul od_mul (e_var 6 (pv 6)) e_int) (e_op ho_mul od_mul e_int (e_var 5 (pv 5)))) a_nil)) e_int) (g_name 6 (pg_name (i := 6) sc_law_draws.nd rfl (by first | exact .inl rfl | exact .inr rfl))) (fun _ _ h1 h2 => ps_asg h1 h2))
      (b_one (s_app 4 (pv 4) (e_op op_mod od_mod (e_callT call_int1 cd_int rfl (B _ in_int) (by decide +kernel) (a_cons (e_op op_fdiv od_div (e_var 6 (pv 6)) e_int) a_nil)) (e_var 1 (pv 1))) (fun _ _ h1 h2 => ps_expr (pe_bm PySem.F.plainAttrs_list PySem.F.slot_list_append PySem.F.type_list_append mt_append h1 h2)))))))
      (b_one (s_frz 4 (s_ret (e_var 4 (pv 4))))))))))
abbrev st_law_box : Stmt := topS 18
theorem sc_law_box : FnScope ["script", "row", "cell"] ["script"] (defScope st_law_box) := ⟨rfl, rfl, rfl, by decide +kernel, rfl, by decide +kernel, by decide +kernel⟩
def body_law_box : DEnv → Res OD := seqF (sAsg (dFrz (fLst (dNil))) (setV 1)) (seqF (sFor (iSeq (dVar 0)) (setV 2) (sAsg (dOp oAdd (dVar 1) (dCallV den_law_draws (dCons (dVar 2) (dCons (dC (.int 1000003)) (dCons (dC (.int 6)) (dNil)))))) (setV 1))) (seqF (sIf (tOf (dOp oEq (dLen (lName 1)) (dC (.int 0)))) (sAsg (dFrz (fLst (dCons (dC (.int 11)) (dCons (dC (.int 5)) (dCons (dC (.int 2)) (dCons (dC (.int 7)) (dCons (dC (.int 31)) (dCons (dC (.int 101)) (dCons (dC (.int 997)) (dNil)))))))))) (setV 1)) (sNx)) (fDisp [.inr "row", .inr "at"] (dCons (dVar 1) (dCons (dC (.int 0)) (dNil))))))
def den_law_box : DEnv → Res OD := defF 2 body_law_box
theorem wpd_law_box (a0 : Cell) (Q : OD → DEnv → Prop) (h : WpX Zn (body_law_box [a0, .un, .un]) (retF [a0] Q)) : WpX Zn (den_law_box [a0]) Q := wp_defF Q 2 _ _ h
theorem k_law_box {P : Program} {w : World} {K : PySem.W.Frag} {mg : Str → Option Value} {base : Heap} {f : Addr} {fd : FuncData} (B : Blt mg) (G : Glb K mg) (D : IsDef K mg "_law_box" "_law_box" st_law_box ["script"] f fd) (HT : P = Td.P ∧ w = Td.w ∧ mg = Td.mg ∧ base = Td.base) (K__law_draws : Kept P w K mg base CX0 1 "_law_draws" ["cell", "modulus", "count"] den_law_draws) : KeptF P w K mg base CX0 2 "_law_box" ["script"] den_law_box := by
  refine keptF_of D sc_law_box rfl fun cdv A outer s H E hr => ?_
  have hu65 : (A.deeper (envOfC "_law_box" (defScope st_law_box) s.heap.objs.size f cdv)).units + 65 < cLine := by have := hr.un; omega
  have hu1 : (A.deeper (envOfC "_law_box" (defScope st_law_box) s.heap.objs.size f cdv)).units + 1 < cLine := by omega
  exact (fb_cons (s_asg (e_frz (f_lst a_nil)) (g_name 1 (pg_name (i := 1) sc_law_box.nd rfl (by first | exact .inl rfl | exact .inr rfl))) (fun _ _ h1 h2 => ps_asg h1 h2))
      (fb_cons (s_for (fun _ _ _ h1 h2 h3 => ps_for PassesOwn.never rfl h1 h2 h3) (i_seq (e_var 0 (pv 0))) (g_name 2 (pg_name (i := 2) sc_law_box.nd rfl (by first | exact .inl rfl | exact .inr rfl))) (b_one (s_asg (e_op ho_add od_add (e_var 1 (pv 1)) (e_call K__law_draws rfl (hr.mono (by decide)) rfl (a_cons (e_var 2 (pv 2)) (a_cons e_int (a_cons e_int a_nil))))) (g_name 1 (pg_name (i := 1) sc_law_box.nd rfl (by first | exact .inl rfl | exact .inr rfl))) (fun _ _ h1 h2 => ps_asg h1 h2))))
      (fb_cons (s_if (t_cmp (op_eqD hr.units) od_eq (e_len (l_name 1 (pv 1)) rfl (B _ in_len)) e_int (nomark _)) (b_one (s_asg (e_frz (f_lst (a_cons e_int (a_cons e_int (a_cons e_int (a_cons e_int (a_cons e_int (a_cons e_int (a_cons e_int a_nil))))))))) (g_name 1 (pg_name (i := 1) sc_law_box.nd rfl (by first | exact .inl rfl | exact .inr rfl))) (fun _ _ h1 h2 => ps_asg h1 h2))) b_nil)
      (fb_ret (f_disp (dp_cons (e_var 1 (pv 1)) (dp_cons e_int dp_nil)) (fun z => nomatch z) (by decide))))))
abbrev st_integers : Stmt := topS 15
theorem sc_integers : FnScope ["texts", "text"] ["texts"] (defScope st_integers) := ⟨rfl, rfl, rfl, by decide +kernel, rfl, by decide +kernel, by decide +kernel⟩
def body_integers : DEnv → Res Out := sRet (dFrz (fLc [1] (iSeq (dVar 0)) (setV 1) (tTrue) (dCall oIntS (dCons (dVar 1) (dNil)))))
def den_integers : DEnv → Res PyData := defD 1 body_integers
theorem wpd_integers (a0 : Cell) (Q : PyData → DEnv → Prop) (h : WpX Zn (body_integers [a0, .un]) (retQ [a0] Q)) : WpX Zn (den_integers [a0]) Q := wp_def Q 1 _ _ h
theorem k_integers {P : Program} {w : World} {K : PySem.W.Frag} {mg : Str → Option Value} {base : Heap} {f : Addr} {fd : FuncData} (B : Blt mg) (G : Glb K mg) (D : IsDef K mg "_integers" "_integers" st_integers ["texts"] f fd) (HT : P = Td.P ∧ w = Td.w ∧ mg = Td.mg ∧ base = Td.base)  : Kept P w K mg base CX0 1 "_integers" ["texts"] den_integers := by
  refine kept_of D sc_integers rfl fun cdv A outer s H E hr => ?_
  have hu65 : (A.deeper (envOfC "_integers" (defScope st_integers) s.heap.objs.size f cdv)).units + 65 < cLine := by have := hr.un; omega
  have hu1 : (A.deeper (envOfC "_integers" (defScope st_integers) s.heap.objs.size f cdv)).units + 1 < cLine := by omega
  exact (b_one (s_ret (e_frz (f_lc (fun _ h => pe_lc (own := [("text", 1)]) rfl sc_integers.nd h (blkOk_by rfl) (fun _ _ _ _ _ => pg_t (g_name 1 (pg_name (i := 1) sc_integers.nd rfl (by first | exact .inl rfl | exact .inr rfl)))) (fun _ _ _ _ _ => pts_y) (fun _ _ _ _ _ => pe_t (e_callT call_int_str cd_intS rfl (B _ in_int) (by decide +kernel) (a_cons (e_var 1 (pv 1)) a_nil)))) (by decide) (i_seq (e_var 0 (pv 0)))))))
abbrev stparse_word : Stmt := topS 14
theorem scparse_word : FnScope ["letters", "text", "digits", "place", "sign"] ["letters", "text"] (defScope stparse_word) := ⟨rfl, rfl, rfl, by decide +kernel, rfl, by decide +kernel, by decide +kernel⟩
def bodyparse_word : DEnv → Res Out := sSeq (sAsg (dSlS (dC c_DIGITS) (oNoPart) (oPart (dVar 0))) (setV 2)) (sSeq (sFor (iEnumsS (dCons (dVar 1) (dNil))) (gTupD 2 (gConsD (setV 3) (gConsD (setV 4) (gNilD)))) (sIf (tOf (dOp oNotInS (dVar 4) (dVar 2))) (sRaiseI "InvalidLetter" "place" (dVar 3)) (sNx))) (sSeq (sIf (tOf (dOp oGt (dCall oLenS (dCons (dVar 1) (dNil))) (dC c_LONGEST_WORD))) (sRaise "WordTooLong" (dCons (dJs [(dC (.str "a word has at most ")), (dFmt (dC c_LONGEST_WORD)), (dC (.str " letters"))] Str.empty) (dNil))) (sNx)) (sRet (dCallV den_integers (dCons (dFrz (fListS (dVar 1))) (dNil))))))
def denparse_word : DEnv → Res PyData := defD 3 bodyparse_word
theorem kparse_word {P : Program} {w : World} {K : PySem.W.Frag} {mg : Str → Option Value} {base : Heap} {f : Addr} {fd : FuncData} (B : Blt mg) (G : Glb K mg) (D : IsDef K mg "parse_word" "parse_word" stparse_word ["letters", "text"] f fd) (HT : P = Td.P ∧ w = Td.w ∧ mg = Td.mg ∧ base = Td.base) (K__integers : Kept P w K mg base CX0 1 "_integers" ["texts"] den_integers) {C_InvalidLetter C_WordTooLong : Addr} (XF_WordTooLong : XcF K mg "WordTooLong" C_WordTooLong) {fi_InvalidLetter : Addr} (XI_InvalidLetter : XiF P K mg "InvalidLetter" C_InvalidLetter fi_InvalidLetter "place") : Kept P w K mg base (L2.CX P w) 2 "parse_word" ["letters", "text"] denparse_word := by
  refine kept_ofX D scparse_word rfl fun cdv A outer s H E hr => ?_
  have hu65 : (A.deeper (envOfC "parse_word" (defScope stparse_word) s.heap.objs.size f cdv)).units + 65 < cLine := by have := hr.un; omega
  have hu1 : (A.deeper (envOfC "parse_word" (defScope stparse_word) s.heap.objs.size f cdv)).units + 1 < cLine := by omega
  have tk : Takes (cxOf (L2.CX P w) P w K mg base ["letters", "text", "digits", "place", "sign"] "parse_word" (defScope stparse_word) f cdv A outer s H E) (upE E) := takes_of rfl rfl rfl rfl
  obtain ⟨u_LONGEST_WORD, v_LONGEST_WORD, g_LONGEST_WORD, r_LONGEST_WORD, d_LONGEST_WORD⟩ := G.LONGEST_WORD
  obtain ⟨u_DIGITS, v_DIGITS, g_DIGITS, r_DIGITS, d_DIGITS⟩ := G.DIGITS
  exact (b_cons (s_asg (e_slS (e_glob (pe_glob rfl g_DIGITS r_DIGITS) d_DIGITS) o_none (o_some (e_var 0 (pv 0)))) (g_name 2 (pg_name (i := 2) scparse_word.nd rfl (by first | exact .inl rfl | exact .inr rfl))) (fun _ _ h1 h2 => ps_asg h1 h2))
      (b_cons (s_for (fun _ _ _ h1 h2 h3 => ps_for (passes_of rfl) rfl h1 h2 h3) (i_enumS rfl (B _ in_enumerate) (a_cons (e_var 1 (pv 1)) a_nil)) (g_tup (n := 2) rfl (fun t h => pg_tup rfl h) (gs_cons (fun _ _ h1 h2 => pgs_cons h1 h2) (g_name 3 (pg_name (i := 3) scparse_word.nd rfl (by first | exact .inl rfl | exact .inr rfl))) (gs_cons (fun _ _ h1 h2 => pgs_cons h1 h2) (g_name 4 (pg_name (i := 4) scparse_word.nd rfl (by first | exact .inl rfl | exact .inr rfl))) gs_nil))) (b_one (s_if (t_cmp op_notIn_sign od_notInS (e_var 4 (pv 4)) (e_var 2 (pv 2)) rfl) (b_one (s_raiseI rfl tk XI_InvalidLetter hr rfl (e_var 3 (pv 3)))) b_nil)))
      (b_cons (s_if (t_cmp op_gt od_gt (e_callB call_len_str cd_lenS rfl (B _ in_len) (by decide +kernel) (a_cons (e_var 1 (pv 1)) a_nil)) (e_glob (pe_glob rfl g_LONGEST_WORD r_LONGEST_WORD) d_LONGEST_WORD) (nomark _)) (b_one (s_raise rfl tk XF_WordTooLong.exF rfl (a_cons (e_joined (.cons e_str (.cons (e_fmt (e_glob (pe_glob rfl g_LONGEST_WORD r_LONGEST_WORD) d_LONGEST_WORD)) (.cons e_str JS.nil)))) a_nil))) b_nil)
      (b_one (s_ret (e_call K__integers rfl (hr.mono (by decide)) rfl (a_cons (e_frz (f_listS rfl rfl (B _ in_list) (e_var 1 (pv 1)))) a_nil)))))))
abbrev st_law_told : Stmt := topS 20
theorem sc_law_told : FnScope ["letters", "text", "e"] ["letters", "text"] (defScope st_law_told) := ⟨rfl, rfl, rfl, by decide +kernel, rfl, by decide +kernel, by decide +kernel⟩
def body_law_told : DEnv → Res Out := sTryN 2 (tab1 xh_TwowaysError) (sRet (dCallX denparse_word (dCons (dVar 0) (dCons (dVar 1) (dNil))))) (sIfX (fun x => (tab1 xr_InvalidLetter x.cls).map .bool) (dTupX [(fun _ => some (.str "letter")), (xfldX xf_place "place"), (fun x => (tab1 xr_ValueError x.cls).map .bool)]) (fun x => sRet ((dTupX [(fun _ => some (.str "long")), (fun x => ((fun x => (tab1 xr_WordTooLong x.cls).map .bool) x).bind oIntX), (fun x => (tab1 xr_ValueError x.cls).map .bool)]) x)))
def den_law_told : DEnv → Res PyData := defD 1 body_law_told
theorem wpd_law_told (a0 a1 : Cell) (Q : PyData → DEnv → Prop) (h : WpX Zn (body_law_told [a0, a1, .un]) (retQ [a0, a1] Q)) : WpX Zn (den_law_told [a0, a1]) Q := wp_def Q 1 _ _ h
theorem k_law_told {P : Program} {w : World} {K : PySem.W.Frag} {mg : Str → Option Value} {base : Heap} {f : Addr} {fd : FuncData} (B : Blt mg) (G : Glb K mg) (D : IsDef K mg "_law_told" "_law_told" st_law_told ["letters", "text"] f fd) (HT : P = Td.P ∧ w = Td.w ∧ mg = Td.mg ∧ base = Td.base) (K_parse_word : Kept P w K mg base (L2.CX P w) 2 "parse_word" ["letters", "text"] denparse_word) {C_InvalidLetter C_TwowaysError C_WordTooLong : Addr} (XG_InvalidLetter : mg "InvalidLetter" = some (.ref C_InvalidLetter)) (XG_TwowaysError : mg "TwowaysError" = some (.ref C_TwowaysError)) (XG_WordTooLong : mg "WordTooLong" = some (.ref C_WordTooLong)) (MT_TwowaysError : Matches K mg (.ref C_TwowaysError) (tab1 xh_TwowaysError)) (IF_InvalidLetter : IsF K mg (.ref C_InvalidLetter) (tab1 xr_InvalidLetter)) (IF_ValueError : IsF K mg (.type "ValueError") (tab1 xr_ValueError)) (IF_WordTooLong : IsF K mg (.ref C_WordTooLong) (tab1 xr_WordTooLong)) (XFM_place : XFM K mg xf_place "place") : Kept P w K mg base CX0 3 "_law_told" ["letters", "text"] den_law_told := by
  refine kept_of D sc_law_told rfl fun cdv A outer s H E hr => ?_
  have hu65 : (A.deeper (envOfC "_law_told" (defScope st_law_told) s.heap.objs.size f cdv)).units + 65 < cLine := by have := hr.un; omega
  have hu1 : (A.deeper (envOfC "_law_told" (defScope st_law_told) s.heap.objs.size f cdv)).units + 1 < cLine := by omega
  exact (b_one (s_tryN 2 rfl rfl sc_law_told.nd rfl rfl ⟨rfl, by decide, .inl XG_TwowaysError⟩ MT_TwowaysError (fun W' pn xe tk hpw => (b_one (s_ret (e_callX tk K_parse_word rfl (hr.mono (by decide)) rfl (a_cons (e_var 0 (pv 0)) (a_cons (e_var 1 (pv 1)) a_nil)))))) (u_if (up_isi rfl (B _ in_isinstance) (fun _ _ => pv 2) (fun _ _ => pe_glob (v := .ref C_InvalidLetter) rfl XG_InvalidLetter rfl) (fun u h => h) IF_InvalidLetter) (ue_tup (.cons up_str (.cons (up_fld XFM_place (fun _ _ => pv 2)) (.cons (up_isi rfl (B _ in_isinstance) (fun _ _ => pv 2) (fun _ _ => pe_bltn (v := .ty "ValueError") rfl (B _ in_ValueError) PyProof.Rows.Boot.«ValueError» rfl) (fun u h => h) IF_ValueError) .nil (fun _ _ => rfl)) (fun _ _ => rfl)) (fun _ _ => rfl))) (u_ret (ue_tup (.cons up_str (.cons (up_int rfl (B _ in_int) (up_isi rfl (B _ in_isinstance) (fun _ _ => pv 2) (fun _ _ => pe_glob (v := .ref C_WordTooLong) rfl XG_WordTooLong rfl) (fun u h => h) IF_WordTooLong)) (.cons (up_isi rfl (B _ in_isinstance) (fun _ _ => pv 2) (fun _ _ => pe_bltn (v := .ty "ValueError") rfl (B _ in_ValueError) PyProof.Rows.Boot.«ValueError» rfl) (fun u h => h) IF_ValueError) .nil (fun _ _ => rfl)) (fun _ _ => rfl)) (fun _ _ => rfl)))))))
abbrev st_law_next : Stmt := topS 19
theorem sc_law_next : FnScope ["box", "modulus", "at", "number"] ["box", "modulus"] (defScope st_law_next) := ⟨rfl, rfl, rfl, by decide +kernel, rfl, by decide +kernel, by decide +kernel⟩
def body_law_next : DEnv → Res Out := sSeq (sAsg (dDGet 0 (dC (.str "at"))) (setV 2)) (sSeq (sDPutD 0 (dOp oAdd (dVar 2) (dC (.int 1))) (dC (.str "at"))) (sSeq (sAsg (dOp oIx (dDGet 0 (dC (.str "row"))) (dOp oMod (dVar 2) (dLen (lOf (dDGet 0 (dC (.str "row"))))))) (setV 3)) (sRet (dOp oMod (dCall oInt (dCons (dOp oAdd (dVar 3) (dOp oMul (dC (.int 7919)) (dOp oDiv (dVar 2) (dLen (lOf (dDGet 0 (dC (.str "row")))))))) (dNil))) (dVar 1)))))
def den_law_next : DEnv → Res PyData := defD 2 body_law_next
theorem wpd_law_next (a0 a1 : Cell) (Q : PyData → DEnv → Prop) (h : WpX Zn (body_law_next [a0, a1, .un, .un]) (retQ [a0, a1] Q)) : WpX Zn (den_law_next [a0, a1]) Q := wp_def Q 2 _ _ h
theorem k_law_next {P : Program} {w : World} {K : PySem.W.Frag} {mg : Str → Option Value} {base : Heap} {f : Addr} {fd : FuncData} (B : Blt mg) (G : Glb K mg) (D : IsDef K mg "_law_next" "_law_next" st_law_next ["box", "modulus"] f fd) (HT : P = Td.P ∧ w = Td.w ∧ mg = Td.mg ∧ base = Td.base)  : Kept P w K mg base CX0 1 "_law_next" ["box", "modulus"] den_law_next := by
  refine kept_of D sc_law_next rfl fun cdv A outer s H E hr => ?_
  have hu65 : (A.deeper (envOfC "_law_next" (defScope st_law_next) s.heap.objs.size f cdv)).units + 65 < cLine := by have := hr.un; omega
  have hu1 : (A.deeper (envOfC "_law_next" (defScope st_law_next) s.heap.objs.size f cdv)).units + 1 < cLine := by omega
  exact (b_cons (s_asg (e_dget 0 hu1 (pv 0) e_str (fun _ _ => rfl)) (g_name 2 (pg_name (i := 2) sc_law_next.nd rfl (by first | exact .inl rfl | exact .inr rfl))) (fun _ _ h1 h2 => ps_asg h1 h2))
      (b_cons (s_dput 0 hu1 (pv 0) (e_op ho_add od_add (e_var 2 (pv 2)) e_int) e_str)
      (b_cons (s_asg (e_ix ho_ix od_ix (e_dget 0 hu1 (pv 0) e_str (fun _ _ => rfl)) (e_op op_mod od_mod (e_var 2 (pv 2)) (e_len (l_of (e_dget 0 hu1 (pv 0) e_str (fun _ _ => rfl))) rfl (B _ in_len))) (fun _ _ => rfl)) (g_name 3 (pg_name (i := 3) sc_law_next.nd rfl (by first | exact .inl rfl | exact .inr rfl))) (fun _ _ h1 h2 => ps_asg h1 h2))
      (b_one (s_ret (e_op op_mod od_mod (e_callT call_int1 cd_int rfl (B _ in_int) (by decide +kernel) (a_cons (e_op ho_add od_add (e_var 3 (pv 3)) (e_op ho_mul od_mul e_int (e_op op_fdiv od_div (e_var 2 (pv 2)) (e_len (l_of (e_dget 0 hu1 (pv 0) e_str (fun _ _ => rfl))) rfl (B _ in_len))))) a_nil)) (e_var 1 (pv 1))))))))
abbrev sttape_of : Stmt := topS 5
theorem sctape_of : FnScope ["word", "letter"] ["word"] (defScope sttape_of) := ⟨rfl, rfl, rfl, by decide +kernel, rfl, by decide +kernel, by decide +kernel⟩
def bodytape_of : DEnv → Res Out := sRet (dOp oAdd (dOp oAdd (dFrz (fLst (dCons (dC c_LEFT_END) (dNil)))) (dFrz (fLc [1] (iSeq (dVar 0)) (setV 1) (tTrue) (dOp oAdd (dVar 1) (dC c_END_MARKS))))) (dFrz (fLst (dCons (dC c_RIGHT_END) (dNil)))))
def dentape_of : DEnv → Res PyData := defD 1 bodytape_of
theorem wpdtape_of (a0 : Cell) (Q : PyData → DEnv → Prop) (h : WpX Zn (bodytape_of [a0, .un]) (retQ [a0] Q)) : WpX Zn (dentape_of [a0]) Q := wp_def Q 1 _ _ h
theorem ktape_of {P : Program} {w : World} {K : PySem.W.Frag} {mg : Str → Option Value} {base : Heap} {f : Addr} {fd : FuncData} (B : Blt mg) (G : Glb K mg) (D : IsDef K mg "tape_of" "tape_of" sttape_of ["word"] f fd) (HT : P = Td.P ∧ w = Td.w ∧ mg = Td.mg ∧ base = Td.base)  : Kept P w K mg base CX0 1 "tape_of" ["word"] dentape_of := by
  refine kept_of D sctape_of rfl fun cdv A outer s H E hr => ?_
  have hu65 : (A.deeper (envOfC "tape_of" (defScope sttape_of) s.heap.objs.size f cdv)).units + 65 < cLine := by have := hr.un; omega
  have hu1 : (A.deeper (envOfC "tape_of" (defScope sttape_of) s.heap.objs.size f cdv)).units + 1 < cLine := by omega
  obtain ⟨u_LEFT_END, v_LEFT_END, g_LEFT_END, r_LEFT_END, d_LEFT_END⟩ := G.LEFT_END
  obtain ⟨u_RIGHT_END, v_RIGHT_END, g_RIGHT_END, r_RIGHT_END, d_RIGHT_END⟩ := G.RIGHT_END
  obtain ⟨u_END_MARKS, v_END_MARKS, g_END_MARKS, r_END_MARKS, d_END_MARKS⟩ := G.END_MARKS
  exact (b_one (s_ret (e_op ho_add od_add (e_op ho_add od_add (e_frz (f_lst (a_cons (e_glob (pe_glob rfl g_LEFT_END r_LEFT_END) d_LEFT_END) a_nil))) (e_frz (f_lc (fun _ h => pe_lc (own := [("letter", 1)]) rfl sctape_of.nd h (blkOk_by rfl) (fun _ _ _ _ _ => pg_t (g_name 1 (pg_name (i := 1) sctape_of.nd rfl (by first | exact .inl rfl | exact .inr rfl)))) (fun _ _ _ _ _ => pts_y) (fun _ _ _ _ _ => pe_t (e_op ho_add od_add (e_var 1 (pv 1)) (e_glob (pe_glob rfl g_END_MARKS r_END_MARKS) d_END_MARKS)))) (by decide) (i_seq (e_var 0 (pv 0)))))) (e_frz (f_lst (a_cons (e_glob (pe_glob rfl g_RIGHT_END r_RIGHT_END) d_RIGHT_END) a_nil))))))
abbrev stword_of : Stmt := topS 6
theorem scword_of : FnScope ["tape", "letter"] ["tape"] (defScope stword_of) := ⟨rfl, rfl, rfl, by decide +kernel, rfl, by decide +kernel, by decide +kernel⟩
def bodyword_of : DEnv → Res Out := sRet (dFrz (fLc [1] (iSeq (dSl (dVar 0) (oPart (dC (.int 1))) (oPart (dUn oNeg (dC (.int 1)))))) (setV 1) (tTrue) (dOp oSub (dVar 1) (dC c_END_MARKS))))
def denword_of : DEnv → Res PyData := defD 1 bodyword_of
theorem wpdword_of (a0 : Cell) (Q : PyData → DEnv → Prop) (h : WpX Zn (bodyword_of [a0, .un]) (retQ [a0] Q)) : WpX Zn (denword_of [a0]) Q := wp_def Q 1 _ _ h
theorem kword_of {P : Program} {w : World} {K : PySem.W.Frag} {mg : Str → Option Value} {base : Heap} {f : Addr} {fd : FuncData} (B : Blt mg) (G : Glb K mg) (D : IsDef K mg "word_of" "word_of" stword_of ["tape"] f fd) (HT : P = Td.P ∧ w = Td.w ∧ mg = Td.mg ∧ base = Td.base)  : Kept P w K mg base CX0 1 "word_of" ["tape"] denword_of := by
  refine kept_of D scword_of rfl fun cdv A outer s H E hr => ?_
  have hu65 : (A.deeper (envOfC "word_of" (defScope stword_of) s.heap.objs.size f cdv)).units + 65 < cLine := by have := hr.un; omega
  have hu1 : (A.deeper (envOfC "word_of" (defScope stword_of) s.heap.objs.size f cdv)).units + 1 < cLine := by omega
  obtain ⟨u_END_MARKS, v_END_MARKS, g_END_MARKS, r_END_MARKS, d_END_MARKS⟩ := G.END_MARKS
  exact (b_one (s_ret (e_frz (f_lc (fun _ h => pe_lc (own := [("letter", 1)]) rfl scword_of.nd h (blkOk_by rfl) (fun _ _ _ _ _ => pg_t (g_name 1 (pg_name (i := 1) scword_of.nd rfl (by first | exact .inl rfl | exact .inr rfl)))) (fun _ _ _ _ _ => pts_y) (fun _ _ _ _ _ => pe_t (e_op op_sub od_sub (e_var 1 (pv 1)) (e_glob (pe_glob rfl g_END_MARKS r_END_MARKS) d_END_MARKS)))) (by decide) (i_seq (e_sl (e_var 0 (pv 0)) (o_some e_int) (o_some (e_un un_neg ud_neg e_int))))))))
abbrev stformat_word : Stmt := topS 13
theorem scformat_word : FnScope ["word", "letter"] ["word"] (defScope stformat_word) := ⟨rfl, rfl, rfl, by decide +kernel, rfl, by decide +kernel, by decide +kernel⟩
def bodyformat_word : DEnv → Res Out := sRet (dJoin (dC (.str "")) (dFrz (fLc [1] (iSeq (dVar 0)) (setV 1) (tTrue) (dCall oStrI (dCons (dVar 1) (dNil))))))
def denformat_word : DEnv → Res PyData := defD 1 bodyformat_word
theorem wpdformat_word (a0 : Cell) (Q : PyData → DEnv → Prop) (h : WpX Zn (bodyformat_word [a0, .un]) (retQ [a0] Q)) : WpX Zn (denformat_word [a0]) Q := wp_def Q 1 _ _ h
theorem kformat_word {P : Program} {w : World} {K : PySem.W.Frag} {mg : Str → Option Value} {base : Heap} {f : Addr} {fd : FuncData} (B : Blt mg) (G : Glb K mg) (D : IsDef K mg "format_word" "format_word" stformat_word ["word"] f fd) (HT : P = Td.P ∧ w = Td.w ∧ mg = Td.mg ∧ base = Td.base)  : Kept P w K mg base CX0 1 "format_word" ["word"] denformat_word := by
  refine kept_of D scformat_word rfl fun cdv A outer s H E hr => ?_
  have hu65 : (A.deeper (envOfC "format_word" (defScope stformat_word) s.heap.objs.size f cdv)).units + 65 < cLine := by have := hr.un; omega
  have hu1 : (A.deeper (envOfC "format_word" (defScope stformat_word) s.heap.objs.size f cdv)).units + 1 < cLine := by omega
  exact (b_one (s_ret (e_join e_str (e_frz (f_lc (fun _ h => pe_lc (own := [("letter", 1)]) rfl scformat_word.nd h (blkOk_by rfl) (fun _ _ _ _ _ => pg_t (g_name 1 (pg_name (i := 1) scformat_word.nd rfl (by first | exact .inl rfl | exact .inr rfl)))) (fun _ _ _ _ _ => pts_y) (fun _ _ _ _ _ => pe_t (e_callT call_str_int cd_strI rfl (B _ in_str) (by decide +kernel) (a_cons (e_var 1 (pv 1)) a_nil)))) (by decide) (i_seq (e_var 0 (pv 0))))))))
abbrev stlaw : Stmt := topS 21
theorem sclaw : FnScope ["script", "box", "letters", "word", "tape", "text", "letter", "passed", "again", "at", "bad", "many", "told", "k"] ["script"] (defScope stlaw) := ⟨rfl, rfl, rfl, by decide +kernel, rfl, by decide +kernel, by decide +kernel⟩
def bodylaw : DEnv → Res Out := sSeq (sNew 1 (dCallF den_law_box (dCons (dVar 0) (dNil)))) (sSeq (sAsg (dOp oAdd (dC (.int 1)) (dCallI den_law_next 1 (dCons (dC (.int 3)) (dNil)))) (setV 2)) (sSeq (sNew 3 (fLc [13] (iRng rng1 (dCons (dCallI den_law_next 1 (dCons (dC (.int 61)) (dNil))) (dNil))) (setV 13) (tTrue) (dCallI den_law_next 1 (dCons (dVar 2) (dNil))))) (sSeq (sAsg (dFrz (fLst (dCons (dC (.int 0)) (dNil)))) (setV 4)) (sSeq (sAsg (dC (.str "")) (setV 5)) (sSeq (sFrz 3 (sFor (iSeq (dVar 3)) (setV 6) (sSeq (sAsg (dOp oAdd (dVar 4) (dFrz (fLst (dCons (dOp oAdd (dVar 6) (dC (.int 2))) (dNil))))) (setV 4)) (sAsg (dOp oAdd (dVar 5) (dOp oIxS (dC (.str "012")) (dVar 6))) (setV 5))))) (sSeq (sAsg (dOp oAdd (dVar 4) (dFrz (fLst (dCons (dC (.int 1)) (dNil))))) (setV 4)) (sSeq (sAsg (dFrz (fListOf (lName 3))) (setV 7)) (sSeq (sFrz 3 (sIf (tOrD (tOf (dOp oNe (dCallV dentape_of (dCons (dVar 7) (dNil))) (dVar 4))) (tOrD (tOf (dOp oNe (dVar 7) (dVar 3))) (tNotD (tTru (dUn (oIsi "list") (dCallV dentape_of (dCons (dVar 3) (dNil)))))))) (sRet (dC (.bool false))) (sNx))) (sSeq (sFrz 3 (sIf (tOrD (tOf (dOp oNe (dCallV denword_of (dCons (dFrz (fListOf (lName 4))) (dNil))) (dVar 3))) (tOf (dOp oNe (dCallV denformat_word (dCons (dFrz (fListOf (lName 3))) (dNil))) (dVar 5)))) (sRet (dC (.bool false))) (sNx))) (sSeq (sAsg (dCallV den_law_told (dCons (dVar 2) (dCons (dVar 5) (dNil)))) (setV 8)) (sSeq (sFrz 3 (sIf (tOrD (tNotD (tTru (dUn (oIsi "list") (dVar 8)))) (tOf (dOp oNe (dVar 8) (dVar 3)))) (sRet (dC (.bool false))) (sNx))) (sSeq (sAsg (dCallI den_law_next 1 (dCons (dOp oAdd (dCall oLenS (dCons (dVar 5) (dNil))) (dC (.int 1))) (dNil))) (setV 9)) (sSeq (sAsg (dOp oIx (dFrz (fLst (dCons (dOp oIxS (dC (.str "012345")) (dVar 2)) (dCons (dC (.str "a")) (dCons (dC (.str " ")) (dCons (dC (.str "-")) (dCons (dC (.str "9")) (dNil)))))))) (dCallI den_law_next 1 (dCons (dC (.int 5)) (dNil)))) (setV 10)) (sSeq (sIf (tOf (dOp oNe (dCallV den_law_told (dCons (dVar 2) (dCons (dOp oAdd (dOp oAdd (dOp oAdd (dSlS (dVar 5) (oNoPart) (oPart (dVar 9))) (dVar 10)) (dSlS (dVar 5) (oPart (dVar 9)) (oNoPart))) (dVar 10)) (dNil)))) (dTup (dCons (dC (.str "letter")) (dCons (dVar 9) (dCons (dC (.bool true)) (dNil))))))) (sRet (dC (.bool false))) (sNx)) (sSeq (sAsg (dOp oAdd (dC (.int 199)) (dCallI den_law_next 1 (dCons (dC (.int 4)) (dNil)))) (setV 11)) (sSeq (sAsg (dCallV den_law_told (dCons (dVar 2) (dCons (dOp oMulS (dC (.str "0")) (dVar 11)) (dNil)))) (setV 12)) (sSeq (sIf (tOf (dOp oGt (dVar 11) (dC (.int 200)))) (sRet (dOp oEq (dVar 12) (dTup (dCons (dC (.str "long")) (dCons (dC (.int 1)) (dCons (dC (.bool true)) (dNil))))))) (sNx)) (sRet (dOp oEq (dVar 12) (dOp oMul (dFrz (fLst (dCons (dC (.int 0)) (dNil)))) (dVar 11)))))))))))))))))))))
def denlaw : DEnv → Res PyData := defD 13 bodylaw
theorem wpdlaw (a0 : Cell) (Q : PyData → DEnv → Prop) (h : WpX Zn (bodylaw [a0, .un, .un, .un, .un, .un, .un, .un, .un, .un, .un, .un, .un, .un]) (retQ [a0] Q)) : WpX Zn (denlaw [a0]) Q := wp_def Q 13 _ _ h
theorem klaw {P : Program} {w : World} {K : PySem.W.Frag} {mg : Str → Option Value} {base : Heap} {f : Addr} {fd : FuncData} (B : Blt mg) (G : Glb K mg) (D : IsDef K mg "law" "law" stlaw ["script"] f fd) (HT : P = Td.P ∧ w = Td.w ∧ mg = Td.mg ∧ base = Td.base) (K__law_box : KeptF P w K mg base CX0 2 "_law_box" ["script"] den_law_box) (K__law_told : Kept P w K mg base CX0 3 "_law_told" ["letters", "text"] den_law_told) (K__law_next : Kept P w K mg base CX0 1 "_law_next" ["box", "modulus"] den_law_next) (K_tape_of : Kept P w K mg base CX0 1 "tape_of" ["word"] dentape_of) (K_word_of : Kept P w K mg base CX0 1 "word_of" ["tape"] denword_of) (K_format_word : Kept P w K mg base CX0 1 "format_word" ["word"] denformat_word) : FnOk P w K mg base CX0 4 f fd ["script"] (spD K mg 1 denlaw) := by
  refine fnok_of D sclaw rfl fun cdv A outer s H E hr => ?_
  have hu65 : (A.deeper (envOfC "law" (defScope stlaw) s.heap.objs.size f cdv)).units + 65 < cLine := by have := hr.un; omega
  have hu1 : (A.deeper (envOfC "law" (defScope stlaw) s.heap.objs.size f cdv)).units + 1 < cLine := by omega
  exact (b_cons (s_new 1 (f_callF K__law_box rfl (hr.mono (by decide)) rfl (a_cons (e_var 0 (pv 0)) a_nil)) (fun _ h => ps_set (i := 1) sclaw.nd rfl (by first | exact .inl rfl | exact .inr rfl) h))
      (b_cons (s_asg (e_op ho_add od_add e_int (e_callI 1 K__law_next rfl (hr.mono (by decide)) rfl (pv 1) (a_cons e_int a_nil))) (g_name 2 (pg_name (i := 2) sclaw.nd rfl (by first | exact .inl rfl | exact .inr rfl))) (fun _ _ h1 h2 => ps_asg h1 h2))
      (b_cons (s_newLc 3 (fun _ h => ps_setLc (i := 3) (own := [("k", 13)]) rfl sclaw.nd rfl rfl (sw_true rfl rfl rfl (by decide +kernel)) h (blkOk_by rfl) (fun _ _ _ _ _ => pg_t (g_name 13 (pg_name (i := 13) sclaw.nd rfl (by first | exact .inl rfl | exact .inr rfl)))) (fun _ _ _ _ _ => pts_y) (fun _ _ _ _ _ => pe_t (e_callI 1 K__law_next rfl (hr.mono (by decide)) rfl (pv 1) (a_cons (e_var 2 (pv 2)) a_nil)))) (by decide) (i_rng1 rfl (B _ in_range) (a_cons (e_callI 1 K__law_next rfl (hr.mono (by decide)) rfl (pv 1) (a_cons e_int a_nil)) a_nil)))
      (b_cons (s_asg (e_frz (f_lst (a_cons e_int a_nil))) (g_name 4 (pg_name (i := 4) sclaw.nd rfl (by first | exact .inl rfl | exact .inr rfl))) (fun _ _ h1 h2 => ps_asg h1 h2))
      (b_cons (s_asg e_str (g_name 5 (pg_name (i := 5) sclaw.nd rfl (by first | exact .inl rfl | exact .inr rfl))) (fun _ _ h1 h2 => ps_asg h1 h2))
      (b_cons (s_frz 3 (s_for (fun _ _ _ h1 h2 h3 => ps_for PassesOwn.never rfl h1 h2 h3) (i_seq (e_var 3 (pv 3))) (g_name 6 (pg_name (i := 6) sclaw.nd rfl (by first | exact .inl rfl | exact .inr rfl))) (b_cons (s_asg (e_op ho_add od_add (e_var 4 (pv 4)) (e_frz (f_lst (a_cons (e_op ho_add od_add (e_var 6 (pv 6)) e_int) a_nil)))) (g_name 4 (pg_name (i := 4) sclaw.nd rfl (by first | exact .inl rfl | exact .inr rfl))) (fun _ _ h1 h2 => ps_asg h1 h2))
      (b_one (s_asg (e_op ho_add od_add (e_var 5 (pv 5)) (e_ix ix_str od_ixS e_str (e_var 6 (pv 6)) (fun _ _ => rfl))) (g_name 5 (pg_name (i := 5) sclaw.nd rfl (by first | exact .inl rfl | exact .inr rfl))) (fun _ _ h1 h2 => ps_asg h1 h2))))))
      (b_cons (s_asg (e_op ho_add od_add (e_var 4 (pv 4)) (e_frz (f_lst (a_cons e_int a_nil)))) (g_name 4 (pg_name (i := 4) sclaw.nd rfl (by first | exact .inl rfl | exact .inr rfl))) (fun _ _ h1 h2 => ps_asg h1 h2))
      (b_cons (s_asg (e_frz (f_listOf (l_name 3 (pv 3)) rfl (B _ in_list))) (g_name 7 (pg_name (i := 7) sclaw.nd rfl (by first | exact .inl rfl | exact .inr rfl))) (fun _ _ h1 h2 => ps_asg h1 h2))
      (b_cons (s_frz 3 (s_if (w_pt (w_or (t_cmp (op_neD hr.units) od_ne (e_call K_tape_of rfl (hr.mono (by decide)) rfl (a_cons (e_var 7 (pv 7)) a_nil)) (e_var 4 (pv 4)) (nomark _)) (w_or (t_cmp (op_neD hr.units) od_ne (e_var 7 (pv 7)) (e_var 3 (pv 3)) (nomark _)) (w_or1 (t_not (t_truth (e_isi (e_call K_tape_of rfl (hr.mono (by decide)) rfl (a_cons (e_var 3 (pv 3)) a_nil)) (pe_bltn (v := .ty "list") rfl (B _ in_list) (by decide +kernel) rfl) rfl (B _ in_isinstance) (fun _ _ h1 h2 => pa_cons h1 h2)))))))) (b_one (s_ret e_bl)) b_nil))
      (b_cons (s_frz 3 (s_if (w_pt (w_or (t_cmp (op_neD hr.units) od_ne (e_call K_word_of rfl (hr.mono (by decide)) rfl (a_cons (e_frz (f_listOf (l_name 4 (pv 4)) rfl (B _ in_list))) a_nil)) (e_var 3 (pv 3)) (nomark _)) (w_or1 (t_cmp (op_neD hr.units) od_ne (e_call K_format_word rfl (hr.mono (by decide)) rfl (a_cons (e_frz (f_listOf (l_name 3 (pv 3)) rfl (B _ in_list))) a_nil)) (e_var 5 (pv 5)) (nomark _))))) (b_one (s_ret e_bl)) b_nil))
      (b_cons (s_asg (e_call K__law_told rfl (hr.mono (by decide)) rfl (a_cons (e_var 2 (pv 2)) (a_cons (e_var 5 (pv 5)) a_nil))) (g_name 8 (pg_name (i := 8) sclaw.nd rfl (by first | exact .inl rfl | exact .inr rfl))) (fun _ _ h1 h2 => ps_asg h1 h2))
      (b_cons (s_frz 3 (s_if (w_pt (w_or (t_not (t_truth (e_isi (e_var 8 (pv 8)) (pe_bltn (v := .ty "list") rfl (B _ in_list) (by decide +kernel) rfl) rfl (B _ in_isinstance) (fun _ _ h1 h2 => pa_cons h1 h2)))) (w_or1 (t_cmp (op_neD hr.units) od_ne (e_var 8 (pv 8)) (e_var 3 (pv 3)) (nomark _))))) (b_one (s_ret e_bl)) b_nil))
      (b_cons (s_asg (e_callI 1 K__law_next rfl (hr.mono (by decide)) rfl (pv 1) (a_cons (e_op ho_add od_add (e_callB call_len_str cd_lenS rfl (B _ in_len) (by decide +kernel) (a_cons (e_var 5 (pv 5)) a_nil)) e_int) a_nil)) (g_name 9 (pg_name (i := 9) sclaw.nd rfl (by first | exact .inl rfl | exact .inr rfl))) (fun _ _ h1 h2 => ps_asg h1 h2))
      (b_cons (s_asg (e_ix ho_ix od_ix (e_frz (f_lst (a_cons (e_ix ix_str od_ixS e_str (e_var 2 (pv 2)) (fun _ _ => rfl)) (a_cons e_str (a_cons e_str (a_cons e_str (a_cons e_str a_nil))))))) (e_callI 1 K__law_next rfl (hr.mono (by decide)) rfl (pv 1) (a_cons e_int a_nil)) (fun _ _ => rfl)) (g_name 10 (pg_name (i := 10) sclaw.nd rfl (by first | exact .inl rfl | exact .inr rfl))) (fun _ _ h1 h2 => ps_asg h1 h2))
      (b_cons (s_if (t_cmp (op_neD hr.units) od_ne (e_call K__law_told rfl (hr.mono (by decide)) rfl (a_cons (e_var 2 (pv 2)) (a_cons (e_op ho_add od_add (e_op ho_add od_add (e_op ho_add od_add (e_slS (e_var 5 (pv 5)) o_none (o_some (e_var 9 (pv 9)))) (e_var 10 (pv 10))) (e_slS (e_var 5 (pv 5)) (o_some (e_var 9 (pv 9))) o_none)) (e_var 10 (pv 10))) a_nil))) (e_tup (a_cons e_str (a_cons (e_var 9 (pv 9)) (a_cons e_bl a_nil)))) (nomark _)) (b_one (s_ret e_bl)) b_nil)
      (b_cons (s_asg (e_op ho_add od_add e_int (e_callI 1 K__law_next rfl (hr.mono (by decide)) rfl (pv 1) (a_cons e_int a_nil))) (g_name 11 (pg_name (i := 11) sclaw.nd rfl (by first | exact .inl rfl | exact .inr rfl))) (fun _ _ h1 h2 => ps_asg h1 h2))
      (b_cons (s_asg (e_call K__law_told rfl (hr.mono (by decide)) rfl (a_cons (e_var 2 (pv 2)) (a_cons (e_op op_mulS od_mulS e_str (e_var 11 (pv 11))) a_nil))) (g_name 12 (pg_name (i := 12) sclaw.nd rfl (by first | exact .inl rfl | exact .inr rfl))) (fun _ _ h1 h2 => ps_asg h1 h2))
      (b_cons (s_if (t_cmp op_gt od_gt (e_var 11 (pv 11)) e_int (nomark _)) (b_one (s_ret (e_cmp (op_eqD hr.units) od_eq (e_var 12 (pv 12)) (e_tup (a_cons e_str (a_cons e_int (a_cons e_bl a_nil)))) (nomark _)))) b_nil)
      (b_one (s_ret (e_cmp (op_eqD hr.units) od_eq (e_var 12 (pv 12)) (e_op ho_mul od_mul (e_frz (f_lst (a_cons e_int a_nil))) (e_var 11 (pv 11))) (nomark _))))))))))))))))))))))
abbrev LawTrue : Prop := ∀ ns : List Int, ns.length ≤ 63 → ∃ cs, denlaw [.val (scrD ns)] = .ok (.bool true) cs
end
theorem all_mk (T : ∀ [Td], LawTrue) {l : PySem.W.OpenLaw} {w : World} {K : PySem.W.Frag} {h : Heap} {mg : Str → Option Value} {fa : Addr} (X : K.In h) (G : h.Ns mainGlobals mg) (hfa : mg "law" = some (.ref fa))
    {f0 f1 f2 f3 f4 f5 f6 f7 f8 f9 : Addr} {od0 an0 od1 an1 od2 an2 od3 an3 od4 an4 od5 an5 od6 an6 od7 an7 od8 an8 od9 an9 : Option Addr} {sl0 sl1 sl2 sl3 sl4 sl5 sl6 sl7 sl8 sl9 : Array (Option Value)} {oc0 kV0 dc0 pm0 ct0 cd0 oc1 kV1 dc1 pm1 ct1 cd1 oc2 kV2 dc2 pm2 ct2 cd2 oc3 kV3 dc3 pm3 ct3 cd3 oc4 kV4 dc4 pm4 ct4 cd4 oc5 kV5 dc5 pm5 ct5 cd5 oc6 kV6 dc6 pm6 ct6 cd6 oc7 kV7 dc7 pm7 ct7 cd7 oc8 kV8 dc8 pm8 ct8 cd8 oc9 kV9 dc9 pm9 ct9 cd9 : Value}
    (a0 : PySem.W.nsIn K mainGlobals "_law_draws" = some (some (.ref f0))) (l0 : K.lookup f0 = some ⟨oc0, od0, .func (PySem.W.fnOf "_law_draws" "_law_draws" (defArgs st_law_draws) (defBody st_law_draws) (defScope st_law_draws) .none kV0 dc0 pm0 an0 cd0 ct0), sl0⟩) (c0 : PySem.W.codeIn K cd0 "_law_draws" = true) (k0 : PySem.W.keepIn K (.ref f0) = true)
    (a1 : PySem.W.nsIn K mainGlobals "_law_box" = some (some (.ref f1))) (l1 : K.lookup f1 = some ⟨oc1, od1, .func (PySem.W.fnOf "_law_box" "_law_box" (defArgs st_law_box) (defBody st_law_box) (defScope st_law_box) .none kV1 dc1 pm1 an1 cd1 ct1), sl1⟩) (c1 : PySem.W.codeIn K cd1 "_law_box" = true) (k1 : PySem.W.keepIn K (.ref f1) = true)
    (a2 : PySem.W.nsIn K mainGlobals "_integers" = some (some (.ref f2))) (l2 : K.lookup f2 = some ⟨oc2, od2, .func (PySem.W.fnOf "_integers" "_integers" (defArgs st_integers) (defBody st_integers) (defScope st_integers) .none kV2 dc2 pm2 an2 cd2 ct2), sl2⟩) (c2 : PySem.W.codeIn K cd2 "_integers" = true) (k2 : PySem.W.keepIn K (.ref f2) = true)
    (a3 : PySem.W.nsIn K mainGlobals "parse_word" = some (some (.ref f3))) (l3 : K.lookup f3 = some ⟨oc3, od3, .func (PySem.W.fnOf "parse_word" "parse_word" (defArgs stparse_word) (defBody stparse_word) (defScope stparse_word) .none kV3 dc3 pm3 an3 cd3 ct3), sl3⟩) (c3 : PySem.W.codeIn K cd3 "parse_word" = true) (k3 : PySem.W.keepIn K (.ref f3) = true)
    (a4 : PySem.W.nsIn K mainGlobals "_law_told" = some (some (.ref f4))) (l4 : K.lookup f4 = some ⟨oc4, od4, .func (PySem.W.fnOf "_law_told" "_law_told" (defArgs st_law_told) (defBody st_law_told) (defScope st_law_told) .none kV4 dc4 pm4 an4 cd4 ct4), sl4⟩) (c4 : PySem.W.codeIn K cd4 "_law_told" = true) (k4 : PySem.W.keepIn K (.ref f4) = true)
    (a5 : PySem.W.nsIn K mainGlobals "_law_next" = some (some (.ref f5))) (l5 : K.lookup f5 = some ⟨oc5, od5, .func (PySem.W.fnOf "_law_next" "_law_next" (defArgs st_law_next) (defBody st_law_next) (defScope st_law_next) .none kV5 dc5 pm5 an5 cd5 ct5), sl5⟩) (c5 : PySem.W.codeIn K cd5 "_law_next" = true) (k5 : PySem.W.keepIn K (.ref f5) = true)
    (a6 : PySem.W.nsIn K mainGlobals "tape_of" = some (some (.ref f6))) (l6 : K.lookup f6 = some ⟨oc6, od6, .func (PySem.W.fnOf "tape_of" "tape_of" (defArgs sttape_of) (defBody sttape_of) (defScope sttape_of) .none kV6 dc6 pm6 an6 cd6 ct6), sl6⟩) (c6 : PySem.W.codeIn K cd6 "tape_of" = true) (k6 : PySem.W.keepIn K (.ref f6) = true)
    (a7 : PySem.W.nsIn K mainGlobals "word_of" = some (some (.ref f7))) (l7 : K.lookup f7 = some ⟨oc7, od7, .func (PySem.W.fnOf "word_of" "word_of" (defArgs stword_of) (defBody stword_of) (defScope stword_of) .none kV7 dc7 pm7 an7 cd7 ct7), sl7⟩) (c7 : PySem.W.codeIn K cd7 "word_of" = true) (k7 : PySem.W.keepIn K (.ref f7) = true)
    (a8 : PySem.W.nsIn K mainGlobals "format_word" = some (some (.ref f8))) (l8 : K.lookup f8 = some ⟨oc8, od8, .func (PySem.W.fnOf "format_word" "format_word" (defArgs stformat_word) (defBody stformat_word) (defScope stformat_word) .none kV8 dc8 pm8 an8 cd8 ct8), sl8⟩) (c8 : PySem.W.codeIn K cd8 "format_word" = true) (k8 : PySem.W.keepIn K (.ref f8) = true)
    (a9 : PySem.W.nsIn K mainGlobals "law" = some (some (.ref f9))) (l9 : K.lookup f9 = some ⟨oc9, od9, .func (PySem.W.fnOf "law" "law" (defArgs stlaw) (defBody stlaw) (defScope stlaw) .none kV9 dc9 pm9 an9 cd9 ct9), sl9⟩) (c9 : PySem.W.codeIn K cd9 "law" = true) (k9 : PySem.W.keepIn K (.ref f9) = true)
    (z_len : PySem.W.nsIn K mainGlobals "len" = some none)
    (z_range : PySem.W.nsIn K mainGlobals "range" = some none)
    (z_list : PySem.W.nsIn K mainGlobals "list" = some none)
    (z_int : PySem.W.nsIn K mainGlobals "int" = some none)
    (z_str : PySem.W.nsIn K mainGlobals "str" = some none)
    (z_isinstance : PySem.W.nsIn K mainGlobals "isinstance" = some none)
    (z_enumerate : PySem.W.nsIn K mainGlobals "enumerate" = some none)
    (z_ValueError : PySem.W.nsIn K mainGlobals "ValueError" = some none)
    (z_super : PySem.W.nsIn K mainGlobals "super" = some none)
    {tk_LEFT_END : Tok} (q_LEFT_END : PySem.W.nsIn K mainGlobals "LEFT_END" = some (some (.int 0 tk_LEFT_END)))
    {tk_RIGHT_END : Tok} (q_RIGHT_END : PySem.W.nsIn K mainGlobals "RIGHT_END" = some (some (.int 1 tk_RIGHT_END)))
    {tk_END_MARKS : Tok} (q_END_MARKS : PySem.W.nsIn K mainGlobals "END_MARKS" = some (some (.int 2 tk_END_MARKS)))
    {tk_LONGEST_WORD : Tok} (q_LONGEST_WORD : PySem.W.nsIn K mainGlobals "LONGEST_WORD" = some (some (.int 200 tk_LONGEST_WORD)))
    {tk_DIGITS : Tok} (q_DIGITS : PySem.W.nsIn K mainGlobals "DIGITS" = some (some (.str "0123456789" tk_DIGITS)))
    {C_InvalidLetter : Addr} (xa_InvalidLetter : PySem.W.nsIn K mainGlobals "InvalidLetter" = some (some (.ref C_InvalidLetter)))
    {C_TwowaysError : Addr} (xa_TwowaysError : PySem.W.nsIn K mainGlobals "TwowaysError" = some (some (.ref C_TwowaysError)))
    {C_WordTooLong : Addr} (xa_WordTooLong : PySem.W.nsIn K mainGlobals "WordTooLong" = some (some (.ref C_WordTooLong)))
    (xe_WordTooLong : PySem.W.excIn K C_WordTooLong [.type "ValueError", .type "Exception", .type "BaseException", .type "object"] "ValueError.__new__" = true)
    (xk_InvalidLetter : PySem.W.keepIn K (.ref C_InvalidLetter) = true) (xt_InvalidLetter : PySem.W.typeIn K (.ref C_InvalidLetter) = some (.type "type"))
    (xk_WordTooLong : PySem.W.keepIn K (.ref C_WordTooLong) = true) (xt_WordTooLong : PySem.W.typeIn K (.ref C_WordTooLong) = some (.type "type"))
    (xs_InvalidLetter : PySem.W.subIn K (.ref C_InvalidLetter) (.type "BaseException") = some true)
    (xs_WordTooLong : PySem.W.subIn K (.ref C_WordTooLong) (.type "BaseException") = some true)
    (x1_InvalidLetter : PySem.W.findIn K (.ref C_InvalidLetter) "__getattribute__" = some (some (.builtin "BaseException.__getattribute__"))) (x2_InvalidLetter : PySem.W.findIn K (.ref C_InvalidLetter) "__getattr__" = some none) (x3_InvalidLetter : PySem.W.hasDictIn K C_InvalidLetter = true) (x4_InvalidLetter : PySem.W.findIn K (.ref C_InvalidLetter) "__class__" = some (some (.builtin "object.__class__"))) (x5_InvalidLetter : PySem.W.specialIn K (.builtin "object.__class__") "__get__" = some (some (.builtin "getset_descriptor.__get__"))) (x6_InvalidLetter : PySem.W.takesIn K (.builtin "object.__class__") = some true) (x7_InvalidLetter : PySem.W.mroIn K C_InvalidLetter (.type "object") = some true)
    (x1_WordTooLong : PySem.W.findIn K (.ref C_WordTooLong) "__getattribute__" = some (some (.builtin "BaseException.__getattribute__"))) (x2_WordTooLong : PySem.W.findIn K (.ref C_WordTooLong) "__getattr__" = some none) (x3_WordTooLong : PySem.W.hasDictIn K C_WordTooLong = true) (x4_WordTooLong : PySem.W.findIn K (.ref C_WordTooLong) "__class__" = some (some (.builtin "object.__class__"))) (x5_WordTooLong : PySem.W.specialIn K (.builtin "object.__class__") "__get__" = some (some (.builtin "getset_descriptor.__get__"))) (x6_WordTooLong : PySem.W.takesIn K (.builtin "object.__class__") = some true) (x7_WordTooLong : PySem.W.mroIn K C_WordTooLong (.type "object") = some true)
    {fi_InvalidLetter ica_InvalidLetter icc_InvalidLetter iN_InvalidLetter : Addr} {io_InvalidLetter ikV_InvalidLetter idoc_InvalidLetter ipm_InvalidLetter ict_InvalidLetter ix_InvalidLetter iy_InvalidLetter : Value} {ian_InvalidLetter iod_InvalidLetter ixd_InvalidLetter iyd_InvalidLetter idd_InvalidLetter : Option Addr} {isl_InvalidLetter ixs_InvalidLetter iys_InvalidLetter : Array (Option Value)} {ivs_InvalidLetter : Array Value} {ifl_InvalidLetter inm_InvalidLetter iqn_InvalidLetter : Str} {itf_InvalidLetter : Tok} {ibs_InvalidLetter ibm_InvalidLetter isb_InvalidLetter : List Value} {isn_InvalidLetter : List Str} {iab_InvalidLetter : Bool} {icol_InvalidLetter : Option Bool} {ik0_InvalidLetter ik1_InvalidLetter ik2_InvalidLetter ik3_InvalidLetter ik5_InvalidLetter : Option Value}
    (ii_InvalidLetter : PySem.W.findIn K (.ref C_InvalidLetter) "__init__" = some (some (.ref fi_InvalidLetter)))
    (il_InvalidLetter : K.lookup fi_InvalidLetter = some ⟨io_InvalidLetter, iod_InvalidLetter, .func (PySem.W.ksFn "__init__" "InvalidLetter.__init__" (defArgs (inClass (topS 9) 0)) (defBody (inClass (topS 9) 0)) (defScope (inClass (topS 9) 0)) .none ikV_InvalidLetter idoc_InvalidLetter ipm_InvalidLetter ian_InvalidLetter (.ref ica_InvalidLetter) ict_InvalidLetter icc_InvalidLetter), isl_InvalidLetter⟩)
    (ic_InvalidLetter : PySem.W.codeIn K (.ref ica_InvalidLetter) "InvalidLetter.__init__" = true)
    (ih_InvalidLetter : K.lookup ica_InvalidLetter = some ⟨ix_InvalidLetter, ixd_InvalidLetter, .fields ivs_InvalidLetter, ixs_InvalidLetter⟩)
    (iv_InvalidLetter : ivs_InvalidLetter[2]? = some (.str ifl_InvalidLetter itf_InvalidLetter))
    (ig_InvalidLetter : ((l.prog.main.file : Str) == ifl_InvalidLetter) = true)
    (im_InvalidLetter : K.lookup icc_InvalidLetter = some ⟨iy_InvalidLetter, iyd_InvalidLetter, .cell (some (.ref C_InvalidLetter)), iys_InvalidLetter⟩)
    (iz_InvalidLetter : K.lookup C_InvalidLetter = some (excClassObj inm_InvalidLetter iqn_InvalidLetter C_InvalidLetter iN_InvalidLetter ibs_InvalidLetter ibm_InvalidLetter true isn_InvalidLetter isb_InvalidLetter iab_InvalidLetter icol_InvalidLetter idd_InvalidLetter ik0_InvalidLetter ik1_InvalidLetter ik2_InvalidLetter ik3_InvalidLetter ik5_InvalidLetter "ValueError.__new__"))
    (iw_InvalidLetter : PySem.HandSPX.refsVE ibm_InvalidLetter = true)
    (ja_InvalidLetter : PySem.W.findIn K (.ref C_InvalidLetter) "__setattr__" = some (some (.builtin "object.__setattr__"))) (jb_InvalidLetter : PySem.W.typeIn K (.ref fi_InvalidLetter) = some (.type "function")) (jc_InvalidLetter : PySem.W.ks_superIn K C_InvalidLetter C_InvalidLetter "__init__" = some (some (.builtin "ValueError.__init__"))) (jd_InvalidLetter : PySem.W.subIn K (.ref C_InvalidLetter) (.type "ValueError") = some true) (je_InvalidLetter : PySem.W.mroIn K C_InvalidLetter (.ref C_InvalidLetter) = some true)
    (jf_InvalidLetter : PySem.W.findIn K (.ref C_InvalidLetter) "place" = some none)
    (jg : PySem.W.nsIn K cStatics "thirdparty.any" = some none) (jh : (l.prog.main.scope.names.lookup ("super" : Str)).isSome = false)
    (xmq_TwowaysError : ([C_InvalidLetter, C_WordTooLong] : List Addr).map (fun C => PySem.W.exmOne K (.ref C) (.ref C_TwowaysError)) = [some true, some true])
    (xiq_InvalidLetter : ([C_InvalidLetter, C_WordTooLong] : List Addr).map (fun C => PySem.W.kitOne K (.ref C) (.ref C_InvalidLetter)) = [some true, some false])
    (xiq_ValueError : ([C_InvalidLetter, C_WordTooLong] : List Addr).map (fun C => PySem.W.kitOne K (.ref C) (.type "ValueError")) = [some true, some true])
    (xiq_WordTooLong : ([C_InvalidLetter, C_WordTooLong] : List Addr).map (fun C => PySem.W.kitOne K (.ref C) (.ref C_WordTooLong)) = [some false, some true])
    : LamX.LawAtS l w K CX0 4 63 "script" mg fa h := by
  have e := hfa.symm.trans (PySem.W.mg_of X G a9)
  cases e
  have B : Blt mg := by
    intro x hx
    simp only [bltNames, List.mem_cons, List.not_mem_nil, or_false] at hx
    rcases hx with rfl | rfl | rfl | rfl | rfl | rfl | rfl | rfl | rfl
    · exact PySem.W.mg_none_of X G z_len
    · exact PySem.W.mg_none_of X G z_range
    · exact PySem.W.mg_none_of X G z_list
    · exact PySem.W.mg_none_of X G z_int
    · exact PySem.W.mg_none_of X G z_str
    · exact PySem.W.mg_none_of X G z_isinstance
    · exact PySem.W.mg_none_of X G z_enumerate
    · exact PySem.W.mg_none_of X G z_ValueError
    · exact PySem.W.mg_none_of X G z_super
  refine ⟨PySem.W.fnOf "law" "law" (defArgs stlaw) (defBody stlaw) (defScope stlaw) .none kV9 dc9 pm9 an9 cd9 ct9, [], @spLaw ⟨[], l.prog, w, mg, h⟩ K, (fun p hp => nomatch hp), (fun p hp => nomatch hp), (fun p hp => nomatch hp), fun s v => .of_eq rfl, fun H a ns hl _ ht hS => ⟨a, ns, rfl, hS, hl, ?_, fun _ => rfl⟩, fun base _ _ hTB => ?_⟩
  · exact fun p hp => nomatch hp
  · letI : Td := ⟨[], l.prog, w, mg, base⟩
    have GG : Glb K mg := ⟨⟨_, .int 0, PySem.W.mg_of X G q_LEFT_END, ⟨_, rfl⟩, fun _ => .int _⟩, ⟨_, .int 1, PySem.W.mg_of X G q_RIGHT_END, ⟨_, rfl⟩, fun _ => .int _⟩, ⟨_, .int 2, PySem.W.mg_of X G q_END_MARKS, ⟨_, rfl⟩, fun _ => .int _⟩, ⟨_, .int 200, PySem.W.mg_of X G q_LONGEST_WORD, ⟨_, rfl⟩, fun _ => .int _⟩, ⟨_, .str "0123456789", PySem.W.mg_of X G q_DIGITS, ⟨_, rfl⟩, fun _ => .str _⟩⟩
    have XF_WordTooLong : XcF K mg "WordTooLong" C_WordTooLong := ⟨PySem.W.mg_of X G xa_WordTooLong, xe_WordTooLong, xk_WordTooLong, xs_WordTooLong, xt_WordTooLong, ⟨x1_WordTooLong, x2_WordTooLong, xs_WordTooLong, x3_WordTooLong, x4_WordTooLong, x5_WordTooLong, x6_WordTooLong, x7_WordTooLong⟩⟩
    have XC_InvalidLetter : ExcC K C_InvalidLetter := ⟨x1_InvalidLetter, x2_InvalidLetter, xs_InvalidLetter, x3_InvalidLetter, x4_InvalidLetter, x5_InvalidLetter, x6_InvalidLetter, x7_InvalidLetter⟩
    have XC_WordTooLong : ExcC K C_WordTooLong := ⟨x1_WordTooLong, x2_WordTooLong, xs_WordTooLong, x3_WordTooLong, x4_WordTooLong, x5_WordTooLong, x6_WordTooLong, x7_WordTooLong⟩
    have XI_InvalidLetter : XiF l.prog K mg "InvalidLetter" C_InvalidLetter fi_InvalidLetter "place" := ⟨xa_InvalidLetter, PySem.W.mg_of X G xa_InvalidLetter, xk_InvalidLetter, ⟨⟨⟨inm_InvalidLetter, iqn_InvalidLetter, iN_InvalidLetter, ibs_InvalidLetter, ibm_InvalidLetter, isn_InvalidLetter, isb_InvalidLetter, iab_InvalidLetter, icol_InvalidLetter, idd_InvalidLetter, ik0_InvalidLetter, ik1_InvalidLetter, ik2_InvalidLetter, ik3_InvalidLetter, ik5_InvalidLetter, iz_InvalidLetter, iw_InvalidLetter⟩, ja_InvalidLetter, xs_InvalidLetter, xt_InvalidLetter, xk_InvalidLetter⟩, ii_InvalidLetter, jb_InvalidLetter, jc_InvalidLetter, jd_InvalidLetter, jg, je_InvalidLetter, jf_InvalidLetter,
      ⟨_, _, _, "place", _, _, _, _, _, _, _, _, _, _, _, _, _, _, _, _, _, _, _, _, _, _, _, _, _, _, _, _, _, _, _, _, _, _, _, il_InvalidLetter, ic_InvalidLetter, by decide +kernel, by decide, fun s x v => .of_eq rfl, rfl, by decide +kernel, by decide +kernel, by decide +kernel, by decide +kernel, by decide +kernel, by decide +kernel, by decide +kernel, rfl, rfl, rfl, rfl, ih_InvalidLetter, iv_InvalidLetter, ig_InvalidLetter, jh, im_InvalidLetter, by decide +kernel⟩⟩, PySem.W.mg_none_of X G z_super⟩
    have MT_TwowaysError : Matches K mg (.ref C_TwowaysError) (tab1 xh_TwowaysError) := matches_rows fun p hp => by
      simp only [xh_TwowaysError, List.mem_cons, List.not_mem_nil, or_false] at hp
      rcases hp with rfl | rfl
      · exact ⟨C_InvalidLetter, PySem.W.mg_of X G xa_InvalidLetter, Option.some.inj (congrArg (fun z => z[0]?) xmq_TwowaysError)⟩
      · exact ⟨C_WordTooLong, PySem.W.mg_of X G xa_WordTooLong, Option.some.inj (congrArg (fun z => z[1]?) xmq_TwowaysError)⟩
    have IF_InvalidLetter : IsF K mg (.ref C_InvalidLetter) (tab1 xr_InvalidLetter) := isF_rows fun p hp => by
      simp only [xr_InvalidLetter, List.mem_cons, List.not_mem_nil, or_false] at hp
      rcases hp with rfl | rfl
      · exact ⟨C_InvalidLetter, PySem.W.mg_of X G xa_InvalidLetter, XC_InvalidLetter, Option.some.inj (congrArg (fun z => z[0]?) xiq_InvalidLetter)⟩
      · exact ⟨C_WordTooLong, PySem.W.mg_of X G xa_WordTooLong, XC_WordTooLong, Option.some.inj (congrArg (fun z => z[1]?) xiq_InvalidLetter)⟩
    have IF_ValueError : IsF K mg (.type "ValueError") (tab1 xr_ValueError) := isF_rows fun p hp => by
      simp only [xr_ValueError, List.mem_cons, List.not_mem_nil, or_false] at hp
      rcases hp with rfl | rfl
      · exact ⟨C_InvalidLetter, PySem.W.mg_of X G xa_InvalidLetter, XC_InvalidLetter, Option.some.inj (congrArg (fun z => z[0]?) xiq_ValueError)⟩
      · exact ⟨C_WordTooLong, PySem.W.mg_of X G xa_WordTooLong, XC_WordTooLong, Option.some.inj (congrArg (fun z => z[1]?) xiq_ValueError)⟩
    have IF_WordTooLong : IsF K mg (.ref C_WordTooLong) (tab1 xr_WordTooLong) := isF_rows fun p hp => by
      simp only [xr_WordTooLong, List.mem_cons, List.not_mem_nil, or_false] at hp
      rcases hp with rfl | rfl
      · exact ⟨C_InvalidLetter, PySem.W.mg_of X G xa_InvalidLetter, XC_InvalidLetter, Option.some.inj (congrArg (fun z => z[0]?) xiq_WordTooLong)⟩
      · exact ⟨C_WordTooLong, PySem.W.mg_of X G xa_WordTooLong, XC_WordTooLong, Option.some.inj (congrArg (fun z => z[1]?) xiq_WordTooLong)⟩
    have XFM_place : XFM K mg xf_place "place" := fun c hc C e => by
      simp only [xf_place, List.mem_cons, List.not_mem_nil, or_false] at hc
      rcases hc with rfl
      · have e2 := (PySem.W.mg_of X G xa_InvalidLetter).symm.trans e
        cases e2
        exact ⟨⟨x1_InvalidLetter, x2_InvalidLetter, xs_InvalidLetter, x3_InvalidLetter⟩, jf_InvalidLetter⟩
    have HT : l.prog = Td.P ∧ w = Td.w ∧ mg = Td.mg ∧ base = Td.base := ⟨rfl, rfl, rfl, rfl⟩
    have F0 := fun_mk (st := st_law_draws) l0 c0 k0
    have D0 : IsDef K mg "_law_draws" "_law_draws" st_law_draws ["cell", "modulus", "count"] _ _ := ⟨F0, PySem.W.mg_of X G a0, F0.binds (ps := ["cell", "modulus", "count"]) fun _ _ _ _ _ _ us hl => match us, hl with | [_, _, _], _ => rfl⟩
    have F1 := fun_mk (st := st_law_box) l1 c1 k1
    have D1 : IsDef K mg "_law_box" "_law_box" st_law_box ["script"] _ _ := ⟨F1, PySem.W.mg_of X G a1, F1.binds (ps := ["script"]) fun _ _ _ _ _ _ us hl => match us, hl with | [_], _ => rfl⟩
    have F2 := fun_mk (st := st_integers) l2 c2 k2
    have D2 : IsDef K mg "_integers" "_integers" st_integers ["texts"] _ _ := ⟨F2, PySem.W.mg_of X G a2, F2.binds (ps := ["texts"]) fun _ _ _ _ _ _ us hl => match us, hl with | [_], _ => rfl⟩
    have F3 := fun_mk (st := stparse_word) l3 c3 k3
    have D3 : IsDef K mg "parse_word" "parse_word" stparse_word ["letters", "text"] _ _ := ⟨F3, PySem.W.mg_of X G a3, F3.binds (ps := ["letters", "text"]) fun _ _ _ _ _ _ us hl => match us, hl with | [_, _], _ => rfl⟩
    have F4 := fun_mk (st := st_law_told) l4 c4 k4
    have D4 : IsDef K mg "_law_told" "_law_told" st_law_told ["letters", "text"] _ _ := ⟨F4, PySem.W.mg_of X G a4, F4.binds (ps := ["letters", "text"]) fun _ _ _ _ _ _ us hl => match us, hl with | [_, _], _ => rfl⟩
    have F5 := fun_mk (st := st_law_next) l5 c5 k5
    have D5 : IsDef K mg "_law_next" "_law_next" st_law_next ["box", "modulus"] _ _ := ⟨F5, PySem.W.mg_of X G a5, F5.binds (ps := ["box", "modulus"]) fun _ _ _ _ _ _ us hl => match us, hl with | [_, _], _ => rfl⟩
    have F6 := fun_mk (st := sttape_of) l6 c6 k6
    have D6 : IsDef K mg "tape_of" "tape_of" sttape_of ["word"] _ _ := ⟨F6, PySem.W.mg_of X G a6, F6.binds (ps := ["word"]) fun _ _ _ _ _ _ us hl => match us, hl with | [_], _ => rfl⟩
    have F7 := fun_mk (st := stword_of) l7 c7 k7
    have D7 : IsDef K mg "word_of" "word_of" stword_of ["tape"] _ _ := ⟨F7, PySem.W.mg_of X G a7, F7.binds (ps := ["tape"]) fun _ _ _ _ _ _ us hl => match us, hl with | [_], _ => rfl⟩
    have F8 := fun_mk (st := stformat_word) l8 c8 k8
    have D8 : IsDef K mg "format_word" "format_word" stformat_word ["word"] _ _ := ⟨F8, PySem.W.mg_of X G a8, F8.binds (ps := ["word"]) fun _ _ _ _ _ _ us hl => match us, hl with | [_], _ => rfl⟩
    have F9 := fun_mk (st := stlaw) l9 c9 k9
    have D9 : IsDef K mg "law" "law" stlaw ["script"] _ _ := ⟨F9, PySem.W.mg_of X G a9, F9.binds (ps := ["script"]) fun _ _ _ _ _ _ us hl => match us, hl with | [_], _ => rfl⟩
    have K0 := k_law_draws (P := l.prog) (w := w) (base := base) B GG D0 HT 
    have K1 := k_law_box (P := l.prog) (w := w) (base := base) B GG D1 HT K0
    have K2 := k_integers (P := l.prog) (w := w) (base := base) B GG D2 HT 
    have K3 := kparse_word (P := l.prog) (w := w) (base := base) B GG D3 HT K2 XF_WordTooLong XI_InvalidLetter
    have K4 := k_law_told (P := l.prog) (w := w) (base := base) B GG D4 HT K3 (PySem.W.mg_of X G xa_InvalidLetter) (PySem.W.mg_of X G xa_TwowaysError) (PySem.W.mg_of X G xa_WordTooLong) MT_TwowaysError IF_InvalidLetter IF_ValueError IF_WordTooLong XFM_place
    have K5 := k_law_next (P := l.prog) (w := w) (base := base) B GG D5 HT 
    have K6 := ktape_of (P := l.prog) (w := w) (base := base) B GG D6 HT 
    have K7 := kword_of (P := l.prog) (w := w) (base := base) B GG D7 HT 
    have K8 := kformat_word (P := l.prog) (w := w) (base := base) B GG D8 HT 
    have K9 := klaw (P := l.prog) (w := w) (base := base) B GG D9 HT K1 K4 K5 K6 K7 K8
    exact K9.imp fun vs H Q E z => law_sp T vs H Q E z
end M
set_option Elab.async false
set_option linter.all false
set_option maxRecDepth 100000
set_option maxHeartbeats 4000000
namespace M
open PySem PySem.Spec PyProof.Rows L2 DL
variable [Td]
local macro_rules | `(tactic| walk_at "dl") => `(tactic| try simp only [↓ws_seq, ↓ws_nx, ↓ws_bk, ↓ws_ct, ↓ws_ret, ↓ws_retN, ↓ws_drop, ↓ws_if, ↓ws_asg, ↓ws_new, ↓ws_nxOf, ↓ws_frz, ↓ws_for, ↓ws_app, ↓ws_setH, ↓wp_C, ↓wp_vr, ↓wp_op, ↓wp_un, ↓wp_nil, ↓wp_cons, ↓wp_call, ↓wp_tup, ↓wp_lst, ↓wp_frz, ↓wp_tof, ↓wp_tru, ↓wp_tnot, ↓wp_tand, ↓wp_tor, ↓wp_and, ↓wp_or, ↓wp_not, ↓wp_if, ↓wp_chain, ↓wp_len, ↓wp_tupleOf, ↓wp_listOf, ↓wp_lof, ↓wp_lname, ↓wp_ixN, ↓wp_inN, ↓wp_indexN, ↓wp_popAt, ↓wp_tupRg, ↓wp_lstRg, ↓wp_sl, ↓wp_noPart, ↓wp_part, ↓wp_callV, ↓wp_callI, ↓wp_iseq, ↓wp_irng, ↓wp_lc, ↓wp_of_some, ↓wp_dget, ↓wp_dgetT, ↓ws_dput, ↓ws_dputT, ↓wp_newT, ↓wp_newK, ↓wp_disp, ↓wp_callF, ↓wf_seq, ↓wf_frz, ↓wp_ienums, ↓wp_izip, ↓ws_aug, ↓wp_sorted, ↓ws_augH, ↓wp_rep, ↓wp_sortD, ↓wp_sortSet, ↓wp_dc, ↓wp_keys, ↓wp_inK, ↓wp_lenK, ↓ws_ext, ↓wp_fLcH, ↓wp_fLc2, ↓wp_kget, ↓ws_frzK, ↓wp_fld, ↓ws_fset, ↓wp_meth, ↓wp_make, ↓wp_rev, ↓wp_sortDr, ↓wp_lstRev, ↓wp_irevRg, frzKO_own, frzKO_val, undk_dk, lstQ_lst, Int.reduceBEq,
  onNx_nx, onNx_rt, onNx_bk, onNx_ct, boolQ_bool, intQ_int, frzQ_lst, retQ_rt, retQ_nx, cellQ_val, heldQ_some, ixQ_some, atI_0, ixN_0, atI_1, ixN_1, atI_2, ixN_2, atI_3, ixN_3, atI_4, ixN_4, atI_5, ixN_5, atI_6, ixN_6, atI_7, ixN_7, len_0, len_1, len_2, len_3, len_4, len_5, len_6, len_7, len_8, wp_of_ite, List.getElem?_cons_succ, List.getElem?_cons_zero, setV_eq, setVo_val, setVo_un, setVo_own, setO_eq, setOo_val, setOo_un, setOo_own, nameD_eq, nameO_val, nameO_own, nameO_io, heldL_eq, heldO_own, heldO_io, isHeld_eq, setHeld_eq, setHeldO_own, setHeldO_io, frzC_eq, frzO_own, frzO_val, frzO_io, frzO_un, List.set_cons_succ, List.set_cons_zero, Option.bind_some, Option.isSome_some, Option.getD_some, Option.map_some, own_own, own_io, isLst_some, List.map_cons, List.map_nil,
  oAdd_int, oAdd_tup, oSub_int, oMul_int, oDiv_int, oMod_int, oPow_int, oNeg_int, oLt_int, oLe_int, oGt_int, oGe_int, oIx_lst, oIx_tup, oInt_int, oInt_bool, oMax2_int, oMin2_int, oEq_int, oNe_int, oEq_bool, oNe_bool, oIsN_none, oNotN_none, isNone_none, isNone_int, isNone_tup, isNone_lst, isNone_str, tru_bool, tru_int, tru_none, tru_lst, tru_tup, seqOf_lst, seqOf_tup, slOf_lst, slOf_tup, rng1_int, rng2_int, wipeC_nil, wipeC_cons, backIO_nil, backIO_io', backIO_val, isi_int_int, isi_bool_int, isi_bool_bool, isi_int_bool, Bool.false_eq_true, reduceCtorEq, unwipe_one, loopQ_nx, loopQ_ct, loopQ_bk, loopQ_rt, wp_tTrue,  augQ_val, oAddI_int, oSubI_int, isi_int_str, isi_int_tup, isi_tup_tup, isi_tup_int, isi_tup_str, oShl_int, oShr_int, oOr_int, oAnd_int, oXor_int, someQ_some, someQ_ite, repOf_int, isi_lst_lst, nxF_nx, retF_eq, dkQ_dk, dtQ_dt, keyQ_some, hobj_eq, hobjO_own, hobjO_io, keyD_int, keyD_str, keysD_nil, keysD_int, frzO_dk, frzO_dt, box_row, box_at, box_put, box_merge, insQ_ins, mkQ_io, rlQ_list, roQ_some, if_true, if_false, Bool.not_true, Bool.not_false, decide_eq_true_eq, true_and, and_true])
local macro_rules | `(tactic| walk_at "dls") => `(tactic| simp only [setV_eq, setVo_val, setVo_un, setVo_own, List.getElem?_cons_succ, List.getElem?_cons_zero, List.set_cons_succ, List.set_cons_zero])
theorem draws_ok {c m : Int} {count : Nat} (h1 : 1 ≤ m) (h2 : m < 1073741824) (hn : count ≤ 1000) {Q : PyData → DEnv → Prop}
    (k : ∀ xs : List Int, xs.length = count → Q (.list (xs.map .int)) [.val (.int c), .val (.int m), .val (.int (count : Nat))]) : WpX Zn (den_law_draws [.val (.int c), .val (.int m), .val (.int (count : Nat))]) Q := by
  refine wpd_law_draws _ _ _ _ ?_
  unfold body_law_draws
  walk_at "dl"
  have cm : ∀ {a b : Int}, (-(2 ^ 64) < b ∧ b < 2 ^ 64) → CMul a b := fun h => .inr h
  have cl : ∀ {a b : Int}, (-(2 ^ 64) < a ∧ a < 2 ^ 64) → CMul a b := fun h => .inl h
  rw [Int.toNat_natCast]
  have loop1 : ∀ (a : Int) {S : Out → DEnv → Prop}, (∀ (a' : Int) (xs : List Int) (c5 : Cell), xs.length = count → S .nx [.val (.int c), .val (.int m), .val (.int (count : Nat)), .val (.int a'), .own (.lst (xs.map .int)), c5, .un]) →
      WpX Zn (forL (setV 5) (sSeq (sApp 4 (dOp oMod (dCall oInt (dCons (dVar 3) dNil)) (dVar 1))) (sAsg (dOp oDiv (dVar 3) (dVar 1)) (setV 3))) (intsD 0 count) [.val (.int c), .val (.int m), .val (.int (count : Nat)), .val (.int a), .own (.lst []), .un, .un]) S := fun a S fin => by
    refine wp_forL (fun i ρ => ∃ (a' : Int) (xs : List Int) (c5 : Cell), ρ = [.val (.int c), .val (.int m), .val (.int (count : Nat)), .val (.int a'), .own (.lst (xs.map .int)), c5, .un] ∧ xs.length = i ∧ Loose c5) ⟨a, [], .un, rfl, rfl, .un⟩ (fun i d ρ hd hI => ?_) fun ρ hI => ?_
    · obtain ⟨a', xs, c5, rfl, hx, h5⟩ := hI
      have hi : i < count := (ints_get hd).1
      refine ⟨_, setV_fr rfl h5 d, ?_⟩
      walk_at "dl"
      exact ⟨by omega, small_line' (by rw [List.length_map]; omega), ⟨by omega, h2⟩, _, xs ++ [_], _, by rw [List.map_append]; rfl, by rw [List.length_append, hx]; rfl, .val _⟩
    · obtain ⟨a', xs, c5, rfl, hx, h5⟩ := hI
      rw [ints_len] at hx
      exact fin a' xs c5 hx
  have loop2 : ∀ (a : Int) {S : Out → DEnv → Prop}, (∀ (xs : List Int) (c5 c6 : Cell), xs.length = count → S .nx [.val (.int c), .val (.int m), .val (.int (count : Nat)), .val (.int a), .own (.lst (xs.map .int)), c5, c6]) →
      WpX Zn (forL (setV 5) (sSeq (sAsg (dOp oMod (dCall oInt (dCons (dOp oMul (dOp oAdd (dOp oAdd (dVar 3) (dOp oMul (dC (.int 7)) (dVar 5))) (dC (.int 1))) (dC (.int 48271))) dNil)) (dC (.int 2147483647))) (setV 6)) (sSeq (sAsg (dOp oMod (dCall oInt (dCons (dOp oAdd (dOp oMul (dVar 6) (dC (.int 69621))) (dOp oMul (dC (.int 31)) (dVar 5))) dNil)) (dC (.int 2147483629))) (setV 6)) (sApp 4 (dOp oMod (dCall oInt (dCons (dOp oDiv (dVar 6) (dC (.int 7))) dNil)) (dVar 1))))) (intsD 0 count) [.val (.int c), .val (.int m), .val (.int (count : Nat)), .val (.int a), .own (.lst []), .un, .un]) S := fun a S fin => by
    refine wp_forL (fun i ρ => ∃ (xs : List Int) (c5 c6 : Cell), ρ = [.val (.int c), .val (.int m), .val (.int (count : Nat)), .val (.int a), .own (.lst (xs.map .int)), c5, c6] ∧ xs.length = i ∧ Loose c5 ∧ Loose c6) ⟨[], .un, .un, rfl, rfl, .un, .un⟩ (fun i d ρ hd hI => ?_) fun ρ hI => ?_
    · obtain ⟨xs, c5, c6, rfl, hx, h5, h6⟩ := hI
      obtain ⟨hi, rfl⟩ := ints_get hd
      refine ⟨_, setV_fr rfl h5 _, ?_⟩
      walk_at "dl"
      refine ⟨cl (by decide), cm (by decide), by decide, ?_⟩
      rw [setVo_loose h6]
      walk_at "dl"
      exact ⟨cm (by decide), cl (by decide), by decide, ⟨by decide, by decide⟩, by omega, small_line' (by rw [List.length_map]; omega), xs ++ [_], _, _, by rw [List.map_append]; rfl, by rw [List.length_append, hx]; rfl, .val _, .val _⟩
    · obtain ⟨xs, c5, c6, rfl, hx, h5, h6⟩ := hI
      rw [ints_len] at hx
      exact fin xs c5 c6 hx
  have e18 : (0 ≤ (18 : Int) ∧ (18 : Int) ≤ 1000000 ∧ Int.natAbs 10 < 2 ^ 64) := by decide
  have hr : DL.inR ((count : Nat) : Int) := inR_nat (by omega)
  refine ite2 (fun _ => ⟨e18, ite2 (fun _ => ⟨hr, loop1 _ fun a' xs c5 hx => ?_⟩) fun _ => ⟨hr, loop2 _ fun xs c5 c6 hx => ?_⟩⟩) fun _ => ⟨e18, ite2 (fun _ => ⟨hr, loop1 _ fun a' xs c5 hx => ?_⟩) fun _ => ⟨hr, loop2 _ fun xs c5 c6 hx => ?_⟩⟩
  all_goals (walk_at "dl"; exact k xs hx)
structure BoxOk (o : OD) : Prop where
  ex : ∃ (row : List Int) (a : Int), o = boxO row a ∧ row ≠ [] ∧ row.length ≤ 1000 ∧ 0 ≤ a
theorem next_ok {o : OD} (h : BoxOk o) {m : Int} (h1 : 1 ≤ m) {Q : PyData → DEnv → Prop} (k : ∀ o' d, BoxOk o' → 0 ≤ d → d < m → Q (.int d) [.io o', .val (.int m)]) : WpX Zn (den_law_next [.io o, .val (.int m)]) Q := by
  obtain ⟨row, a, rfl, h2, h3, h4⟩ := h
  have hl : 0 < row.length := List.length_pos_iff.mpr h2
  refine wpd_law_next _ _ _ ?_
  unfold body_law_next boxO
  walk_at "dl"
  have m1 : 0 ≤ a % ((row.length : Nat) : Int) := Int.emod_nonneg _ (by omega)
  have m2 : a % ((row.length : Nat) : Int) < ((row.length : Nat) : Int) := Int.emod_lt_of_pos _ (by omega)
  rw [List.length_map]
  obtain ⟨c, e⟩ : ∃ c, atI (row.map PyData.int) (a % ((row.length : Nat) : Int)) = some (.int c) := by
    have hj : (a % ((row.length : Nat) : Int)).toNat < row.length := by omega
    exact ⟨row[(a % ((row.length : Nat) : Int)).toNat], atI_lit m1 (by rw [List.getElem?_map, List.getElem?_eq_getElem hj]; rfl)⟩
  rw [e]
  walk_at "dl"
  rw [List.length_map]
  refine ⟨by show 2 < sizeLine; decide, by omega, ⟨by omega, by omega⟩, .inl (by decide), by omega, k (boxO row (a + 1)) _ ⟨row, a + 1, rfl, h2, h3, by omega⟩ (Int.emod_nonneg _ (by omega)) (Int.emod_lt_of_pos _ (by omega))⟩
theorem next_own {ρ : DEnv} {i : Nat} {o : OD} {lim : Int} {Q : PyData → DEnv → Prop} (hi : ρ[i]? = some (.own o)) (h : BoxOk o) (h1 : 1 ≤ lim) (k : ∀ o' d, BoxOk o' → 0 ≤ d → d < lim → Q (.int d) (ρ.set i (.own o'))) : WpX Zn (callIO den_law_next i [.int lim] ρ) Q :=
  wp_callIO_own _ _ _ _ _ _ hi (next_ok h h1 fun o' d a b c => ⟨o', _, rfl, k o' d a b c⟩)
theorem box_ok {ns : List Int} (hn : ns.length ≤ 63) {O : OD → DEnv → Prop} (k : ∀ o, BoxOk o → O o [.val (scrD ns)]) : WpX Zn (den_law_box [.val (scrD ns)]) O := by
  refine wpd_law_box _ _ ?_
  unfold body_law_box
  walk_at "dl"
  rw [seqOf_scr]
  walk_at "dl"
  refine wp_forL (fun i ρ => ∃ (row : List Int) (c2 : Cell), ρ = [.val (scrD ns), .val (.list (row.map .int)), c2] ∧ row.length = 6 * i ∧ Loose c2) ⟨[], .un, rfl, rfl, .un⟩ (fun i d ρ hd hI => ?_) fun ρ hI => ?_
  · obtain ⟨row, c2, rfl, hl, h2⟩ := hI
    obtain ⟨c, _, rfl⟩ := List.mem_map.mp (List.mem_of_getElem? hd)
    have hi : i < ns.length := by
      have := (List.getElem?_eq_some_iff.mp hd).1
      rw [List.length_map] at this
      exact this
    refine ⟨_, setV_fr rfl h2 _, ?_⟩
    walk_at "dl"
    refine draws_ok (count := 6) (by decide) (by decide) (by decide) fun xs hx => ?_
    rw [oAdd_lst, if_pos (small_line (by rw [List.length_map, List.length_map]; omega))]
    walk_at "dl"
    exact ⟨row ++ xs, _, by rw [List.map_append], by rw [List.length_append]; omega, .val _⟩
  · obtain ⟨row, c2, rfl, hl, h2⟩ := hI
    rw [List.length_map] at hl
    walk_at "dl"
    rw [List.length_map]
    have e0 : (0 : Int) = ((0 : Nat) : Int) := rfl
    refine ite2 (fun he => ?_) fun he => ?_
    · exact k (boxO [11, 5, 2, 7, 31, 101, 997] 0) ⟨_, _, rfl, by decide, by decide, by decide⟩
    · refine k (boxO row 0) ⟨row, 0, rfl, fun z => he ?_, by omega, by decide⟩
      subst z
      rfl
end M
set_option Elab.async false
set_option linter.all false
set_option maxRecDepth 100000
set_option maxHeartbeats 4000000
namespace M
open PySem PySem.Spec PyProof.Rows L2 DL
variable [Td]
local macro_rules | `(tactic| walk_at "dl") => `(tactic| try simp only [↓wp_isV, ↓wp_exn, ↓wp_exz, ↓wp_xfld, ↓wp_slS, ↓wp_join, ↓wp_fListS, ↓ws_raiseI, ↓wp_ienumS, ↓wp_js_cons, ↓wp_js_nil, ↓wp_fmt, ↓ws_raise, ↓wp_callCX, ↓wp_callCdX, ↓wp_callN, ↓wp_callCN, ↓wp_callX, ↓ws_raise, ↓wp_keysG, ↓wp_dcG, ↓wp_disp1G, oIxF_ft, ↓wp_lstZip, ↓wp_ftup, ↓wp_fcall, fnQ_fn, ↓wp_callC, ↓wp_cNil, ↓wp_cCons, ↓wp_cDat, ↓wp_cPar, parQ_fn, ↓wp_cGlob, ↓wp_inG, ↓wp_dgetG, ↓ws_dputG, ↓wp_disp1, keyD_int, ↓wp_star, gStarD_tup, gCons_eq, gNil_eq, ↓wp_izipM, zipM_lst, zipM_tup, zipM_tl, zipM_lt, ↓ws_seq, ↓ws_nx, ↓ws_bk, ↓ws_ct, ↓ws_ret, ↓ws_retN, ↓ws_drop, ↓ws_if, ↓ws_asg, ↓ws_new, ↓ws_nxOf, ↓ws_frz, ↓ws_for, ↓ws_app, ↓ws_setH, ↓wp_C, ↓wp_vr, ↓wp_op, ↓wp_un, ↓wp_nil, ↓wp_cons, ↓wp_call, ↓wp_tup, ↓wp_lst, ↓wp_frz, ↓wp_tof, ↓wp_tru, ↓wp_tnot, ↓wp_tand, ↓wp_tor, ↓wp_and, ↓wp_or, ↓wp_not, ↓wp_if, ↓wp_chain, ↓wp_len, ↓wp_tupleOf, ↓wp_listOf, ↓wp_lof, ↓wp_lname, ↓wp_ixN, ↓wp_inN, ↓wp_indexN, ↓wp_popAt, ↓wp_tupRg, ↓wp_lstRg, ↓wp_sl, ↓wp_noPart, ↓wp_part, ↓wp_callV, ↓wp_callI, ↓wp_iseq, ↓wp_irng, ↓wp_lc, ↓wp_of_some, ↓wp_dget, ↓wp_dgetT, ↓ws_dput, ↓ws_dputT, ↓wp_newT, ↓wp_newK, ↓wp_disp, ↓wp_callF, ↓wf_seq, ↓wf_frz, ↓wp_ienums, ↓wp_izip, ↓ws_aug, ↓wp_sorted, ↓ws_augH, ↓wp_rep, ↓wp_sortD, ↓wp_sortSet, ↓wp_dc, ↓wp_keys, ↓wp_inK, ↓wp_lenK, ↓ws_ext, ↓wp_fLcH, lstQ_lst, Int.reduceBEq,
  onNx_nx, onNx_rt, onNx_bk, onNx_ct, boolQ_bool, intQ_int, frzQ_lst, retQ_rt, retQ_nx, cellQ_val, heldQ_some, ixQ_some, atI_0, ixN_0, atI_1, ixN_1, atI_2, ixN_2, atI_3, ixN_3, atI_4, ixN_4, atI_5, ixN_5, atI_6, ixN_6, atI_7, ixN_7, len_0, len_1, len_2, len_3, len_4, len_5, len_6, len_7, len_8, wp_of_ite, List.getElem?_cons_succ, List.getElem?_cons_zero, setV_eq, setVo_val, setVo_un, setVo_own, setO_eq, setOo_val, setOo_un, setOo_own, nameD_eq, nameO_val, nameO_own, nameO_io, heldL_eq, heldO_own, heldO_io, isHeld_eq, setHeld_eq, setHeldO_own, setHeldO_io, frzC_eq, frzO_own, frzO_val, frzO_io, frzO_un, List.set_cons_succ, List.set_cons_zero, Option.bind_some, Option.isSome_some, Option.getD_some, Option.map_some, own_own, own_io, isLst_some, List.map_cons, List.map_nil,
  oAdd_int, oAdd_tup, oSub_int, oMul_int, oDiv_int, oMod_int, oPow_int, oNeg_int, oLt_int, oLe_int, oGt_int, oGe_int, oIx_lst, oIx_tup, oInt_int, oInt_bool, oMax2_int, oMin2_int, oEq_int, oNe_int, oEq_bool, oNe_bool, oIsN_none, oNotN_none, isNone_none, isNone_int, isNone_tup, isNone_lst, isNone_str, tru_bool, tru_int, tru_none, tru_lst, tru_tup, seqOf_lst, seqOf_tup, slOf_lst, slOf_tup, rng1_int, rng2_int, wipeC_nil, wipeC_cons, backIO_nil, backIO_io', backIO_val, isi_int_int, isi_bool_int, isi_bool_bool, isi_int_bool, Bool.false_eq_true, reduceCtorEq, unwipe_one, loopQ_nx, loopQ_ct, loopQ_bk, loopQ_rt, wp_tTrue,  augQ_val, oAddI_int, oSubI_int, isi_int_str, isi_int_tup, isi_tup_tup, isi_tup_int, isi_tup_str, oShl_int, oShr_int, oOr_int, oAnd_int, oXor_int, someQ_some, someQ_ite, repOf_int, isi_lst_lst, nxF_nx, retF_eq, dkQ_dk, dtQ_dt, keyQ_some, hobj_eq, hobjO_own, hobjO_io, keyD_int, keyD_str, keysD_nil, keysD_int, frzO_dk, frzO_dt, if_true, if_false, Bool.not_true, Bool.not_false, decide_eq_true_eq, true_and, and_true])
local macro_rules | `(tactic| walk_at "dls") => `(tactic| simp only [setV_eq, setVo_val, setVo_un, setVo_own, List.getElem?_cons_succ, List.getElem?_cons_zero, List.set_cons_succ, List.set_cons_zero])
/-- the text of a word -/
def tx (ws : List Nat) : Str := ⟨(ws.map (48 + ·)).toArray⟩
theorem tx_toList (ws : List Nat) : (tx ws).cps.toList = ws.map (48 + ·) := by unfold tx; simp
theorem tx_len (ws : List Nat) : (tx ws).length = ws.length := by unfold tx Str.length; simp
def Good (L c : Nat) : Prop := 48 ≤ c ∧ c < 48 + L
instance (L c : Nat) : Decidable (Good L c) := inferInstanceAs (Decidable (_ ∧ _))
theorem digits_ok {L : Nat} (h : L ≤ 3) (h1 : 1 ≤ L) : ∃ z : Str, cutS "0123456789" none (some (L : Nat)) = z ∧ ∀ c, c ∈ z.cps.toList ↔ Good L c := by
  have hL : L = 1 ∨ L = 2 ∨ L = 3 := by omega
  rcases hL with rfl | rfl | rfl
  · refine ⟨⟨#[48]⟩, by decide +kernel, fun c => ?_⟩
    unfold Good; simp; omega
  · refine ⟨⟨#[48, 49]⟩, by decide +kernel, fun c => ?_⟩
    unfold Good; simp; omega
  · refine ⟨⟨#[48, 49, 50]⟩, by decide +kernel, fun c => ?_⟩
    unfold Good; simp; omega
theorem int_sign {c : Nat} (h : Good 3 c) : PySem.intText? ⟨#[c]⟩ = some ((c : Int) - 48) := by
  unfold Good at h
  have hc : c = 48 ∨ c = 49 ∨ c = 50 := by omega
  rcases hc with rfl | rfl | rfl <;> decide +kernel
def codeI (c : Nat) : PyData := .int ((c : Int) - 48)
def sgnI : PyData → PyData
  | .str y => codeI (y.cps.toList.headD 0)
  | d => d
theorem integers_ok {z : Str} (hz : z.length ≤ 1000) (hg : ∀ c ∈ z.cps.toList, Good 3 c) {Q : PyData → DEnv → Prop} (k : Q (.list (z.cps.toList.map codeI)) [.val (.list (signsD z))]) : WpX Zn (den_integers [.val (.list (signsD z))]) Q := by
  refine wpd_integers _ _ ?_
  unfold body_integers
  walk_at "dl"
  refine wp_lcMap sgnI (small_line (by unfold signsD; rw [List.length_map, Array.length_toList]; show z.length ≤ _; omega)) (fun d hd => ?_) ?_
  · unfold signsD at hd
    obtain ⟨c, hc, rfl⟩ := List.mem_map.mp hd
    refine ⟨_, rfl, ?_⟩
    walk_at "dl"
    have e : oIntS [.str ⟨#[c]⟩] = some (codeI c) := by
      show (if (⟨#[c]⟩ : Str).length ≤ 640 then (PySem.intText? ⟨#[c]⟩).map PyData.int else none) = _
      rw [if_pos (show (⟨#[c]⟩ : Str).length ≤ 640 from by show 1 ≤ 640; decide), int_sign (hg c hc)]
      rfl
    rw [e]
    walk_at "dl"
    try rfl
  · have e : (signsD z).map sgnI = z.cps.toList.map codeI := by unfold signsD; rw [List.map_map]; rfl
    rw [e]
    walk_at "dl"
    exact k
theorem num_at {z : Str} {i : Nat} {d : PyData} (h : (numbered 0 (signsD z))[i]? = some d) : ∃ c, z.cps.toList[i]? = some c ∧ d = .tuple [.int (i : Nat), .str ⟨#[c]⟩] := by
  obtain ⟨y, k1, rfl⟩ := numbered_get 0 i _ d h
  unfold signsD at k1
  rw [List.getElem?_map] at k1
  obtain ⟨c, k2, rfl⟩ := Option.map_eq_some_iff.mp k1
  exact ⟨c, k2, by rw [Nat.zero_add]⟩
theorem parse_ok {L : Nat} (h1 : 1 ≤ L) (h3 : L ≤ 3) {z : Str} (hz : z.length ≤ 1000) {Z : Exn → DEnv → Prop} {Q : PyData → DEnv → Prop}
    (bad : ∀ p c, z.cps.toList[p]? = some c → ¬ Good L c → (∀ q, q < p → ∀ c, z.cps.toList[q]? = some c → Good L c) → ∀ ρ, Z ⟨"InvalidLetter", [("place", .int (p : Nat))]⟩ ρ)
    (long : (∀ c ∈ z.cps.toList, Good L c) → 200 < z.length → ∀ ρ, Z ⟨"WordTooLong", []⟩ ρ)
    (good : (∀ c ∈ z.cps.toList, Good L c) → z.length ≤ 200 → Q (.list (z.cps.toList.map codeI)) [.val (.int (L : Nat)), .val (.str z)]) :
    WpX Z (denparse_word [.val (.int (L : Nat)), .val (.str z)]) Q := by
  obtain ⟨g, eg, hg⟩ := digits_ok h3 h1
  refine wp_defX 3 _ _ ?_
  show WpX _ (bodyparse_word [.val (.int (L : Nat)), .val (.str z), .un, .un, .un]) _
  unfold bodyparse_word
  walk_at "dl"
  refine ⟨_, rfl, by decide, z, rfl, ?_⟩
  rw [eg]
  have hlen : z.cps.toList.length = z.length := Array.length_toList
  refine wp_forL (fun i ρ => ∃ c3 c4, ρ = [.val (.int (L : Nat)), .val (.str z), .val (.str g), c3, c4] ∧ Loose c3 ∧ Loose c4 ∧ ∀ q, q < i → ∀ c, z.cps.toList[q]? = some c → Good L c) ⟨_, _, rfl, .un, .un, fun q h => absurd h (Nat.not_lt_zero _)⟩ (fun i d ρ hd hI => ?_) fun ρ hI => ?_
  · obtain ⟨c3, c4, rfl, l3, l4, hq⟩ := hI
    obtain ⟨c, hc, rfl⟩ := num_at hd
    have e1 : gTupD 2 (gConsD (setV 3) (gConsD (setV 4) gNilD)) (.tuple [.int (i : Nat), .str ⟨#[c]⟩]) [.val (.int (L : Nat)), .val (.str z), .val (.str g), c3, c4] = some [.val (.int (L : Nat)), .val (.str z), .val (.str g), .val (.int (i : Nat)), .val (.str ⟨#[c]⟩)] := by
      rcases l3 with rfl | ⟨e3, rfl⟩ <;> rcases l4 with rfl | ⟨e4, rfl⟩ <;> rfl
    refine ⟨_, e1, ?_⟩
    walk_at "dl"
    have e2 : oNotInS (.str ⟨#[c]⟩) (.str g) = some (.bool (!decide (Good L c))) := by
      show some (PyData.bool (!decide (c ∈ g.cps.toList))) = _
      rw [decide_eq_decide.mpr (hg c)]
    rw [e2]
    walk_at "dl"
    have hi : i < z.length := by
      have := (List.getElem?_eq_some_iff.mp hc).1
      omega
    have hfit : fitD (.int (i : Nat)) = true := by
      refine decide_eq_true ?_
      show (Int.natAbs (i : Nat)).log2 < 1920
      rw [Int.natAbs_natCast]
      by_cases h0 : i = 0
      · rw [h0]; decide
      · exact (Nat.log2_lt h0).mpr (Nat.lt_of_lt_of_le (show i < 2 ^ 10 by omega) (Nat.pow_le_pow_right (by decide) (by decide)))
    by_cases hgd : Good L c
    · rw [decide_eq_true hgd]
      walk_at "dl"
      refine ⟨_, _, rfl, .val _, .val _, fun q h c' hc' => ?_⟩
      by_cases e : q = i
      · subst e; rw [hc] at hc'; cases hc'; exact hgd
      · exact hq q (by omega) c' hc'
    · rw [decide_eq_false hgd]
      walk_at "dl"
      exact ⟨hfit, bad i c hc hgd hq _⟩
  · obtain ⟨c3, c4, rfl, l3, l4, hq⟩ := hI
    have hall : ∀ c ∈ z.cps.toList, Good L c := fun c hc => by
      obtain ⟨q, h⟩ := List.mem_iff_getElem?.mp hc
      refine hq q ?_ c h
      rw [numbered_len]
      unfold signsD
      rw [List.length_map]
      exact (List.getElem?_eq_some_iff.mp h).1
    walk_at "dl"
    have e3 : oLenS [.str z] = some (.int (z.length : Nat)) := if_pos (small_line (by omega))
    rw [e3]
    have e4 : c_LONGEST_WORD = .int 200 := rfl
    rw [e4]
    walk_at "dl"
    refine ite2 (fun h => ?_) fun h => ?_
    · exact ⟨_, rfl, by decide, .inr ⟨200, rfl, by decide, _, rfl, by decide +kernel, _, rfl, by decide +kernel, long hall (by omega) _⟩⟩
    · refine ⟨z, rfl, small_line (by omega), ?_⟩
      exact integers_ok hz (fun c hc => ⟨(hall c hc).1, by have := (hall c hc).2; omega⟩) (good hall (by omega))
theorem told_good {L : Nat} (h1 : 1 ≤ L) (h3 : L ≤ 3) {z : Str} (hz : z.length ≤ 200) (hg : ∀ c ∈ z.cps.toList, Good L c) {Q : PyData → DEnv → Prop} (k : Q (.list (z.cps.toList.map codeI)) [.val (.int (L : Nat)), .val (.str z)]) : WpX Zn (den_law_told [.val (.int (L : Nat)), .val (.str z)]) Q := by
  refine wpd_law_told _ _ _ ?_
  unfold body_law_told
  refine ws_tryN ?_
  walk_at "dl"
  refine parse_ok h1 h3 (by omega) (fun p c hc hn _ _ => absurd (hg c (List.mem_of_getElem? hc)) hn) (fun _ h _ => absurd h (by omega)) fun _ _ => ?_
  walk_at "dl"
  exact k
theorem told_bad {L : Nat} (h1 : 1 ≤ L) (h3 : L ≤ 3) {z : Str} (hz : z.length ≤ 1000) {p c : Nat} (hc : z.cps.toList[p]? = some c) (hb : ¬ Good L c) (hg : ∀ q, q < p → ∀ c, z.cps.toList[q]? = some c → Good L c) {Q : PyData → DEnv → Prop}
    (k : Q (.tuple [.str "letter", .int (p : Nat), .bool true]) [.val (.int (L : Nat)), .val (.str z)]) : WpX Zn (den_law_told [.val (.int (L : Nat)), .val (.str z)]) Q := by
  refine wpd_law_told _ _ _ ?_
  unfold body_law_told
  refine ws_tryN ?_
  walk_at "dl"
  refine parse_ok h1 h3 hz (fun p' c' hc' hn hq ρ => ?_) (fun ha _ _ => absurd (ha c (List.mem_of_getElem? hc)) hb) fun ha _ => absurd (ha c (List.mem_of_getElem? hc)) hb
  have e : p' = p := by
    rcases Nat.lt_trichotomy p' p with h | h | h
    · exact absurd (hg p' h c' hc') hn
    · exact h
    · exact absurd (hq p h c hc) hb
  subst e
  show ∃ ρ2, _ ∧ _
  refine ⟨_, rfl, ?_⟩
  have ex : allX [fun _ => some (PyData.str "letter"), xfldX xf_place "place", fun x => Option.map PyData.bool (tab1 xr_ValueError x.cls)] ⟨"InvalidLetter", [("place", .int (p' : Nat))]⟩ = some [.str "letter", .int (p' : Nat), .bool true] := by
    have e1 : xfldX xf_place "place" ⟨"InvalidLetter", [("place", .int (p' : Nat))]⟩ = some (.int (p' : Nat)) := by
      unfold xfldX
      rw [if_pos (show ("InvalidLetter" : Str) ∈ xf_place by decide)]
      rfl
    have e2 : tab1 xr_ValueError "InvalidLetter" = some true := by decide +kernel
    simp only [allX, e1, e2, Option.bind_some, Option.map_some]
  have et : Option.map PyData.bool (tab1 xr_InvalidLetter "InvalidLetter") = some (.bool true) := by
    rw [show tab1 xr_InvalidLetter "InvalidLetter" = some true by decide +kernel]
    rfl
  unfold sIfX
  dsimp only
  rw [et]
  dsimp only
  unfold sRet dTupX
  rw [ex]
  dsimp only
  rw [if_pos (by show (3 : Nat) ≤ sizeLine; decide)]
  show WpX Zn (.ok _ _) _
  rw [wp_ok]
  exact k
theorem told_long {L : Nat} (h1 : 1 ≤ L) (h3 : L ≤ 3) {z : Str} (hz : z.length ≤ 1000) (hl : 200 < z.length) (hg : ∀ c ∈ z.cps.toList, Good L c) {Q : PyData → DEnv → Prop} (k : Q (.tuple [.str "long", .int 1, .bool true]) [.val (.int (L : Nat)), .val (.str z)]) :
    WpX Zn (den_law_told [.val (.int (L : Nat)), .val (.str z)]) Q := by
  refine wpd_law_told _ _ _ ?_
  unfold body_law_told
  refine ws_tryN ?_
  walk_at "dl"
  refine parse_ok h1 h3 hz (fun p c hc hn _ _ => absurd (hg c (List.mem_of_getElem? hc)) hn) (fun _ _ ρ => ?_) fun _ h => absurd h (by omega)
  show ∃ ρ2, _ ∧ _
  refine ⟨_, rfl, ?_⟩
  have ex : allX [fun _ => some (PyData.str "long"), fun x => (Option.map PyData.bool (tab1 xr_WordTooLong x.cls)).bind oIntX, fun x => Option.map PyData.bool (tab1 xr_ValueError x.cls)] ⟨"WordTooLong", []⟩ = some [.str "long", .int 1, .bool true] := by
    have e1 : tab1 xr_WordTooLong "WordTooLong" = some true := by decide +kernel
    have e2 : tab1 xr_ValueError "WordTooLong" = some true := by decide +kernel
    simp only [allX, e1, e2, Option.bind_some, Option.map_some]
    rfl
  have et : Option.map PyData.bool (tab1 xr_InvalidLetter "WordTooLong") = some (.bool false) := by
    rw [show tab1 xr_InvalidLetter "WordTooLong" = some false by decide +kernel]
    rfl
  unfold sIfX
  dsimp only
  rw [et]
  dsimp only
  unfold sRet dTupX
  rw [ex]
  dsimp only
  rw [if_pos (by show (3 : Nat) ≤ sizeLine; decide)]
  show WpX Zn (.ok _ _) _
  rw [wp_ok]
  exact k
end M
set_option Elab.async false
set_option linter.all false
set_option maxRecDepth 100000
set_option maxHeartbeats 4000000
namespace M
open PySem PySem.Spec PyProof.Rows L2 DL
variable [Td]
local macro_rules | `(tactic| walk_at "dl") => `(tactic| try simp only [↓wp_isV, ↓wp_exn, ↓wp_exz, ↓wp_xfld, ↓wp_slS, ↓wp_join, ↓wp_fListS, ↓ws_raiseI, ↓wp_ienumS, ↓wp_js_cons, ↓wp_js_nil, ↓wp_fmt, ↓ws_raise, ↓wp_callCX, ↓wp_callCdX, ↓wp_callN, ↓wp_callCN, ↓wp_callX, ↓ws_raise, ↓wp_keysG, ↓wp_dcG, ↓wp_disp1G, oIxF_ft, ↓wp_lstZip, ↓wp_ftup, ↓wp_fcall, fnQ_fn, ↓wp_callC, ↓wp_cNil, ↓wp_cCons, ↓wp_cDat, ↓wp_cPar, parQ_fn, ↓wp_cGlob, ↓wp_inG, ↓wp_dgetG, ↓ws_dputG, ↓wp_disp1, keyD_int, ↓wp_star, gStarD_tup, gCons_eq, gNil_eq, ↓wp_izipM, zipM_lst, zipM_tup, zipM_tl, zipM_lt, ↓ws_seq, ↓ws_nx, ↓ws_bk, ↓ws_ct, ↓ws_ret, ↓ws_retN, ↓ws_drop, ↓ws_if, ↓ws_asg, ↓ws_new, ↓ws_nxOf, ↓ws_frz, ↓ws_for, ↓ws_app, ↓ws_setH, ↓wp_C, ↓wp_vr, ↓wp_op, ↓wp_un, ↓wp_nil, ↓wp_cons, ↓wp_call, ↓wp_tup, ↓wp_lst, ↓wp_frz, ↓wp_tof, ↓wp_tru, ↓wp_tnot, ↓wp_tand, ↓wp_tor, ↓wp_and, ↓wp_or, ↓wp_not, ↓wp_if, ↓wp_chain, ↓wp_len, ↓wp_tupleOf, ↓wp_listOf, ↓wp_lof, ↓wp_lname, ↓wp_ixN, ↓wp_inN, ↓wp_indexN, ↓wp_popAt, ↓wp_tupRg, ↓wp_lstRg, ↓wp_sl, ↓wp_noPart, ↓wp_part, ↓wp_callV, ↓wp_callI, ↓wp_iseq, ↓wp_irng, ↓wp_lc, ↓wp_of_some, ↓wp_dget, ↓wp_dgetT, ↓ws_dput, ↓ws_dputT, ↓wp_newT, ↓wp_newK, ↓wp_disp, ↓wp_callF, ↓wf_seq, ↓wf_frz, ↓wp_ienums, ↓wp_izip, ↓ws_aug, ↓wp_sorted, ↓ws_augH, ↓wp_rep, ↓wp_sortD, ↓wp_sortSet, ↓wp_dc, ↓wp_keys, ↓wp_inK, ↓wp_lenK, ↓ws_ext, ↓wp_fLcH, lstQ_lst, Int.reduceBEq,
  onNx_nx, onNx_rt, onNx_bk, onNx_ct, boolQ_bool, intQ_int, frzQ_lst, retQ_rt, retQ_nx, cellQ_val, heldQ_some, ixQ_some, atI_0, ixN_0, atI_1, ixN_1, atI_2, ixN_2, atI_3, ixN_3, atI_4, ixN_4, atI_5, ixN_5, atI_6, ixN_6, atI_7, ixN_7, len_0, len_1, len_2, len_3, len_4, len_5, len_6, len_7, len_8, wp_of_ite, List.getElem?_cons_succ, List.getElem?_cons_zero, setV_eq, setVo_val, setVo_un, setVo_own, setO_eq, setOo_val, setOo_un, setOo_own, nameD_eq, nameO_val, nameO_own, nameO_io, heldL_eq, heldO_own, heldO_io, isHeld_eq, setHeld_eq, setHeldO_own, setHeldO_io, frzC_eq, frzO_own, frzO_val, frzO_io, frzO_un, List.set_cons_succ, List.set_cons_zero, Option.bind_some, Option.isSome_some, Option.getD_some, Option.map_some, own_own, own_io, isLst_some, List.map_cons, List.map_nil,
  oAdd_int, oAdd_tup, oSub_int, oMul_int, oDiv_int, oMod_int, oPow_int, oNeg_int, oLt_int, oLe_int, oGt_int, oGe_int, oIx_lst, oIx_tup, oInt_int, oInt_bool, oMax2_int, oMin2_int, oEq_int, oNe_int, oEq_bool, oNe_bool, oIsN_none, oNotN_none, isNone_none, isNone_int, isNone_tup, isNone_lst, isNone_str, tru_bool, tru_int, tru_none, tru_lst, tru_tup, seqOf_lst, seqOf_tup, slOf_lst, slOf_tup, rng1_int, rng2_int, wipeC_nil, wipeC_cons, backIO_nil, backIO_io', backIO_val, isi_int_int, isi_bool_int, isi_bool_bool, isi_int_bool, Bool.false_eq_true, reduceCtorEq, unwipe_one, loopQ_nx, loopQ_ct, loopQ_bk, loopQ_rt, wp_tTrue,  augQ_val, oAddI_int, oSubI_int, isi_int_str, isi_int_tup, isi_tup_tup, isi_tup_int, isi_tup_str, oShl_int, oShr_int, oOr_int, oAnd_int, oXor_int, someQ_some, someQ_ite, repOf_int, isi_lst_lst, nxF_nx, retF_eq, dkQ_dk, dtQ_dt, keyQ_some, hobj_eq, hobjO_own, hobjO_io, keyD_int, keyD_str, keysD_nil, keysD_int, frzO_dk, frzO_dt, if_true, if_false, Bool.not_true, Bool.not_false, decide_eq_true_eq, true_and, and_true])
local macro_rules | `(tactic| walk_at "dls") => `(tactic| simp only [setV_eq, setVo_val, setVo_un, setVo_own, List.getElem?_cons_succ, List.getElem?_cons_zero, List.set_cons_succ, List.set_cons_zero])
def digD (ws : List Nat) : List PyData := ws.map fun x => .int (x : Nat)
def tapeD (ws : List Nat) : List PyData := .int 0 :: (ws.map fun x => PyData.int ((x : Nat) + 2)) ++ [.int 1]
def plus2 : PyData → PyData
  | .int i => .int (i + 2)
  | d => d
def minus2 : PyData → PyData
  | .int i => .int (i - 2)
  | d => d
theorem tape_ok {ws : List Nat} (hl : ws.length ≤ 1000) {Q : PyData → DEnv → Prop} (k : Q (.list (tapeD ws)) [.val (.list (digD ws))]) : WpX Zn (dentape_of [.val (.list (digD ws))]) Q := by
  refine wpdtape_of _ _ ?_
  unfold bodytape_of
  walk_at "dl"
  have e0 : c_LEFT_END = .int 0 := rfl
  have e1 : c_RIGHT_END = .int 1 := rfl
  have e2 : c_END_MARKS = .int 2 := rfl
  rw [e0, e1, e2]
  refine wp_lcMap plus2 (small_line (by unfold digD; rw [List.length_map]; omega)) (fun d hd => ?_) ?_
  · unfold digD at hd
    obtain ⟨x, hx, rfl⟩ := List.mem_map.mp hd
    refine ⟨_, rfl, ?_⟩
    walk_at "dl"
    try rfl
    try exact ⟨rfl, rfl⟩
  · have e : (digD ws).map plus2 = ws.map fun x => PyData.int ((x : Nat) + 2) := by unfold digD; rw [List.map_map]; rfl
    rw [e]
    walk_at "dl"
    rw [oAdd_lst, if_pos (small_line (by show (_ : Nat) ≤ _; simp; omega))]
    walk_at "dl"
    rw [oAdd_lst, if_pos (small_line (by show (_ : Nat) ≤ _; simp; omega))]
    walk_at "dl"
    exact k
theorem cut_mid (a b : PyData) (xs : List PyData) : DL.cutD (a :: xs ++ [b]) (some 1) (some (-1)) = xs := by
  have h1 : HT.sIx (a :: xs ++ [b]).length 0 (some 1) = 1 := by unfold HT.sIx; simp
  have h2 : HT.sIx (a :: xs ++ [b]).length (a :: xs ++ [b]).length (some (-1)) = xs.length + 1 := by
    show (if (-1 : Int) < 0 then ((-1 : Int) + ((a :: xs ++ [b]).length : Nat)).toNat else min (-1 : Int).toNat (a :: xs ++ [b]).length) = _
    rw [if_pos (by decide)]
    have : (a :: xs ++ [b]).length = xs.length + 2 := by simp
    omega
  unfold DL.cutD
  rw [h1, h2]
  simp
theorem word_ok {ws : List Nat} (hl : ws.length ≤ 1000) {Q : PyData → DEnv → Prop} (k : Q (.list (digD ws)) [.val (.list (tapeD ws))]) : WpX Zn (denword_of [.val (.list (tapeD ws))]) Q := by
  refine wpdword_of _ _ ?_
  unfold bodyword_of
  walk_at "dl"
  have e2 : c_END_MARKS = .int 2 := rfl
  have ec : DL.cutD (tapeD ws) (some 1) (some (-1)) = ws.map fun x => PyData.int ((x : Nat) + 2) := cut_mid _ _ _
  rw [e2, ec]
  refine wp_lcMap minus2 (small_line (by rw [List.length_map]; omega)) (fun d hd => ?_) ?_
  · obtain ⟨x, hx, rfl⟩ := List.mem_map.mp hd
    refine ⟨_, rfl, ?_⟩
    walk_at "dl"
    try rfl
    try exact ⟨rfl, rfl⟩
  · have e : (ws.map fun x => PyData.int ((x : Nat) + 2)).map minus2 = digD ws := by
      unfold digD
      rw [List.map_map]
      refine List.map_congr_left fun x _ => ?_
      show PyData.int ((x : Int) + 2 - 2) = _
      rw [Int.add_sub_cancel]
    rw [e]
    exact k
theorem str_dig {x : Nat} (h : x < 3) : Str.ofString (toString (x : Int)) = ⟨#[48 + x]⟩ := by
  have hx : x = 0 ∨ x = 1 ∨ x = 2 := by omega
  rcases hx with rfl | rfl | rfl <;> decide +kernel
def strD : PyData → PyData
  | .int i => .str (toString i)
  | d => d
theorem glue_fold (acc : Array Nat) : ∀ ws : List Nat, (ws.map fun x => (⟨#[48 + x]⟩ : Str)).foldl (fun acc p => acc ++ (Str.ofString "").cps ++ p.cps) acc = acc ++ (ws.map (48 + ·)).toArray
  | [] => by simp
  | x :: ws => by
    rw [List.map_cons, List.foldl_cons, glue_fold _ ws]
    have e : (Str.ofString "").cps = #[] := rfl
    rw [e]
    simp
theorem glue_tx (ws : List Nat) : Builtin.Str.glued (Str.ofString "") (ws.map fun x => (⟨#[48 + x]⟩ : Str)) = tx ws := by
  unfold Builtin.Str.glued tx
  cases ws with
  | nil => rfl
  | cons x ws =>
    show (⟨(ws.map fun x => (⟨#[48 + x]⟩ : Str)).foldl _ #[48 + x]⟩ : Str) = _
    rw [glue_fold]
    simp
theorem format_ok {ws : List Nat} (hl : ws.length ≤ 1000) (hw : ∀ x ∈ ws, x < 3) {Q : PyData → DEnv → Prop} (k : Q (.str (tx ws)) [.val (.list (digD ws))]) : WpX Zn (denformat_word [.val (.list (digD ws))]) Q := by
  refine wpdformat_word _ _ ?_
  unfold bodyformat_word
  walk_at "dl"
  refine ⟨_, rfl, wp_lcMap strD (small_line (by unfold digD; rw [List.length_map]; omega)) (fun d hd => ?_) ?_⟩
  · unfold digD at hd
    obtain ⟨x, hx, rfl⟩ := List.mem_map.mp hd
    refine ⟨_, rfl, ?_⟩
    walk_at "dl"
    have e : oStrI [.int (x : Nat)] = some (strD (.int (x : Nat))) := by
      refine if_pos ?_
      have h3 := hw x hx
      show (Int.natAbs (x : Nat)).log2 < 1920
      rw [Int.natAbs_natCast]
      by_cases h0 : x = 0
      · rw [h0]; decide
      · exact (Nat.log2_lt h0).mpr (Nat.lt_of_lt_of_le (show x < 2 ^ 10 by omega) (Nat.pow_le_pow_right (by decide) (by decide)))
    rw [e]
    walk_at "dl"
    try rfl
  · have e : (digD ws).map strD = (ws.map fun x => (⟨#[48 + x]⟩ : Str)).map PyData.str := by
      unfold digD
      rw [List.map_map, List.map_map]
      refine List.map_congr_left fun x hx => ?_
      show PyData.str (Str.ofString (toString (x : Int))) = _
      rw [str_dig (hw x hx)]
      rfl
    rw [e]
    have e2 : ∀ l : List Str, unStrs (l.map PyData.str) = some l := fun l => by
      induction l with
      | nil => rfl
      | cons a l ih => show (unStrs (l.map PyData.str)).map (a :: ·) = _; rw [ih]; rfl
    have e3 : oJoin (Str.ofString "") (.list ((ws.map fun x => (⟨#[48 + x]⟩ : Str)).map PyData.str)) = some (.str (tx ws)) := by
      unfold oJoin
      dsimp only
      rw [e2]
      dsimp only
      rw [if_pos ?_]
      · show some (PyData.str (Builtin.Str.glued _ _)) = _
        rw [glue_tx]
      · have hs : ∀ l : List Nat, ((l.map fun x => (⟨#[48 + x]⟩ : Str)).map (·.length)).sum = l.length := fun l => by
          induction l with
          | nil => rfl
          | cons a l ih => rw [List.map_cons, List.map_cons, List.sum_cons, ih]; show 1 + _ = _; rw [List.length_cons]; omega
        rw [hs, List.length_map]
        have : (Str.ofString "").length = 0 := rfl
        rw [this]
        omega
    rw [e3]
    walk_at "dl"
    exact k
end M
set_option Elab.async false
set_option linter.all false
set_option maxRecDepth 100000
set_option maxHeartbeats 4000000
namespace M
open PySem PySem.Spec PyProof.Rows L2 DL
variable [Td]
local macro_rules | `(tactic| walk_at "dl") => `(tactic| try simp only [↓wp_isV, ↓wp_exn, ↓wp_exz, ↓wp_xfld, ↓wp_slS, ↓wp_join, ↓wp_fListS, ↓ws_raiseI, ↓wp_ienumS, ↓wp_js_cons, ↓wp_js_nil, ↓wp_fmt, ↓ws_raise, ↓wp_callCX, ↓wp_callCdX, ↓wp_callN, ↓wp_callCN, ↓wp_callX, ↓ws_raise, ↓wp_keysG, ↓wp_dcG, ↓wp_disp1G, oIxF_ft, ↓wp_lstZip, ↓wp_ftup, ↓wp_fcall, fnQ_fn, ↓wp_callC, ↓wp_cNil, ↓wp_cCons, ↓wp_cDat, ↓wp_cPar, parQ_fn, ↓wp_cGlob, ↓wp_inG, ↓wp_dgetG, ↓ws_dputG, ↓wp_disp1, keyD_int, ↓wp_star, gStarD_tup, gCons_eq, gNil_eq, ↓wp_izipM, zipM_lst, zipM_tup, zipM_tl, zipM_lt, ↓ws_seq, ↓ws_nx, ↓ws_bk, ↓ws_ct, ↓ws_ret, ↓ws_retN, ↓ws_drop, ↓ws_if, ↓ws_asg, ↓ws_new, ↓ws_nxOf, ↓ws_frz, ↓ws_for, ↓ws_app, ↓ws_setH, ↓wp_C, ↓wp_vr, ↓wp_op, ↓wp_un, ↓wp_nil, ↓wp_cons, ↓wp_call, ↓wp_tup, ↓wp_lst, ↓wp_frz, ↓wp_tof, ↓wp_tru, ↓wp_tnot, ↓wp_tand, ↓wp_tor, ↓wp_and, ↓wp_or, ↓wp_not, ↓wp_if, ↓wp_chain, ↓wp_len, ↓wp_tupleOf, ↓wp_listOf, ↓wp_lof, ↓wp_lname, ↓wp_ixN, ↓wp_inN, ↓wp_indexN, ↓wp_popAt, ↓wp_tupRg, ↓wp_lstRg, ↓wp_sl, ↓wp_noPart, ↓wp_part, ↓wp_callV, ↓wp_callI, ↓wp_iseq, ↓wp_irng, ↓wp_lc, ↓wp_of_some, ↓wp_dget, ↓wp_dgetT, ↓ws_dput, ↓ws_dputT, ↓wp_newT, ↓wp_newK, ↓wp_disp, ↓wp_callF, ↓wf_seq, ↓wf_frz, ↓wp_ienums, ↓wp_izip, ↓ws_aug, ↓wp_sorted, ↓ws_augH, ↓wp_rep, ↓wp_sortD, ↓wp_sortSet, ↓wp_dc, ↓wp_keys, ↓wp_inK, ↓wp_lenK, ↓ws_ext, ↓wp_fLcH, lstQ_lst, Int.reduceBEq,
  onNx_nx, onNx_rt, onNx_bk, onNx_ct, boolQ_bool, intQ_int, frzQ_lst, retQ_rt, retQ_nx, cellQ_val, heldQ_some, ixQ_some, atI_0, ixN_0, atI_1, ixN_1, atI_2, ixN_2, atI_3, ixN_3, atI_4, ixN_4, atI_5, ixN_5, atI_6, ixN_6, atI_7, ixN_7, len_0, len_1, len_2, len_3, len_4, len_5, len_6, len_7, len_8, wp_of_ite, List.getElem?_cons_succ, List.getElem?_cons_zero, setV_eq, setVo_val, setVo_un, setVo_own, setO_eq, setOo_val, setOo_un, setOo_own, nameD_eq, nameO_val, nameO_own, nameO_io, heldL_eq, heldO_own, heldO_io, isHeld_eq, setHeld_eq, setHeldO_own, setHeldO_io, frzC_eq, frzO_own, frzO_val, frzO_io, frzO_un, List.set_cons_succ, List.set_cons_zero, Option.bind_some, Option.isSome_some, Option.getD_some, Option.map_some, own_own, own_io, isLst_some, List.map_cons, List.map_nil,
  oAdd_int, oAdd_tup, oSub_int, oMul_int, oDiv_int, oMod_int, oPow_int, oNeg_int, oLt_int, oLe_int, oGt_int, oGe_int, oIx_lst, oIx_tup, oInt_int, oInt_bool, oMax2_int, oMin2_int, oEq_int, oNe_int, oEq_bool, oNe_bool, oIsN_none, oNotN_none, isNone_none, isNone_int, isNone_tup, isNone_lst, isNone_str, tru_bool, tru_int, tru_none, tru_lst, tru_tup, seqOf_lst, seqOf_tup, slOf_lst, slOf_tup, rng1_int, rng2_int, wipeC_nil, wipeC_cons, backIO_nil, backIO_io', backIO_val, isi_int_int, isi_bool_int, isi_bool_bool, isi_int_bool, Bool.false_eq_true, reduceCtorEq, unwipe_one, loopQ_nx, loopQ_ct, loopQ_bk, loopQ_rt, wp_tTrue,  augQ_val, oAddI_int, oSubI_int, isi_int_str, isi_int_tup, isi_tup_tup, isi_tup_int, isi_tup_str, oShl_int, oShr_int, oOr_int, oAnd_int, oXor_int, someQ_some, someQ_ite, repOf_int, isi_lst_lst, nxF_nx, retF_eq, dkQ_dk, dtQ_dt, keyQ_some, hobj_eq, hobjO_own, hobjO_io, keyD_int, keyD_str, keysD_nil, keysD_int, frzO_dk, frzO_dt, if_true, if_false, Bool.not_true, Bool.not_false, decide_eq_true_eq, true_and, and_true])
local macro_rules | `(tactic| walk_at "dls") => `(tactic| simp only [setV_eq, setVo_val, setVo_un, setVo_own, List.getElem?_cons_succ, List.getElem?_cons_zero, List.set_cons_succ, List.set_cons_zero])
theorem inR_nat' {m : Int} (h0 : 0 ≤ m) (h : m ≤ 1000) : DL.inR m := by
  obtain ⟨k, rfl⟩ := Int.eq_ofNat_of_zero_le h0
  exact inR_nat (by omega)
def tapeP (ws : List Nat) : List PyData := .int 0 :: ws.map fun x => PyData.int ((x : Nat) + 2)
theorem tx_snoc (ws : List Nat) (x : Nat) : tx (ws ++ [x]) = tx ws ++ ⟨#[48 + x]⟩ := by
  unfold tx
  rw [List.map_append]
  show (⟨(ws.map (48 + ·) ++ [48 + x]).toArray⟩ : Str) = ⟨(ws.map (48 + ·)).toArray ++ #[48 + x]⟩
  simp
theorem ok_tx {L : Nat} (ws : List Nat) (hw : ∀ x ∈ ws, x < L) (h3 : L ≤ 3) : PySem.PyData.strOk (tx ws) = true := by
  unfold PySem.PyData.strOk tx
  simp
  intro x hx
  have := hw x hx
  omega
/-- the text with two bad signs -/
def badT (ws : List Nat) (k c : Nat) : Str := cutS (tx ws) none (some (k : Nat)) ++ ⟨#[c]⟩ ++ cutS (tx ws) (some (k : Nat)) none ++ ⟨#[c]⟩
theorem cutS_to (ws : List Nat) {k : Nat} (h : k ≤ ws.length) : cutS (tx ws) none (some (k : Nat)) = tx (ws.take k) := by
  unfold cutS
  rw [HT.sIx_none, HT.sIx_nat, tx_len, tx_toList, Nat.min_eq_left h, Nat.sub_zero, List.drop_zero, ← List.map_take]
  rfl
theorem cutS_from (ws : List Nat) {k : Nat} (h : k ≤ ws.length) : cutS (tx ws) (some (k : Nat)) none = tx (ws.drop k) := by
  unfold cutS
  rw [HT.sIx_none, HT.sIx_nat, tx_len, tx_toList, Nat.min_eq_left h, ← List.map_drop, List.take_of_length_le (by rw [List.length_map, List.length_drop]; exact Nat.le_refl _)]
  rfl
theorem badT_list (ws : List Nat) {k : Nat} (c : Nat) (h : k ≤ ws.length) : (badT ws k c).cps.toList = (ws.take k).map (48 + ·) ++ c :: ((ws.drop k).map (48 + ·) ++ [c]) := by
  unfold badT
  rw [cutS_to ws h, cutS_from ws h]
  show ((tx (ws.take k)).cps ++ #[c] ++ (tx (ws.drop k)).cps ++ #[c]).toList = _
  rw [Array.toList_append, Array.toList_append, Array.toList_append, tx_toList, tx_toList]
  simp
theorem ne_self {k : Nat} {d : PyData} (h : Shp k d) (hk : k ≤ 64) : oNe d d = some (.bool false) := by
  unfold oNe
  rw [if_pos ⟨h.ok hk, h.ok hk⟩, PySem.SeqAt.eqv_refl d h.1]
  rfl
theorem eq_self {k : Nat} {d : PyData} (h : Shp k d) (hk : k ≤ 64) : oEq d d = some (.bool true) := by
  unfold oEq
  rw [if_pos ⟨h.ok hk, h.ok hk⟩, PySem.SeqAt.eqv_refl d h.1]
theorem shp_dig (ws : List Nat) : Shp 1 (.list (digD ws)) := .list fun d hd => by
  obtain ⟨x, _, rfl⟩ := List.mem_map.mp hd
  exact .int _
theorem shp_tape (ws : List Nat) : Shp 1 (.list (tapeD ws)) := .list fun d hd => by
  unfold tapeD at hd
  rcases List.mem_append.mp hd with hd | hd
  · rcases List.mem_cons.mp hd with rfl | hd
    · exact .int _
    · obtain ⟨x, _, rfl⟩ := List.mem_map.mp hd
      exact .int _
  · rw [List.mem_singleton.mp hd]; exact .int _
theorem code_tx (ws : List Nat) : (tx ws).cps.toList.map codeI = digD ws := by
  rw [tx_toList, List.map_map]
  refine List.map_congr_left fun x _ => ?_
  show PyData.int (((48 + x : Nat) : Int) - 48) = _
  congr 1
  omega
theorem good_tx {L : Nat} {ws : List Nat} (hw : ∀ x ∈ ws, x < L) : ∀ c ∈ (tx ws).cps.toList, Good L c := fun c hc => by
  rw [tx_toList] at hc
  obtain ⟨x, hx, rfl⟩ := List.mem_map.mp hc
  have := hw x hx
  exact ⟨by omega, by omega⟩
theorem rep0 (acc : Array Nat) : ∀ n : Nat, ((List.replicate n (#[48] : Array Nat)).foldl (· ++ ·) acc).toList = acc.toList ++ List.replicate n 48
  | 0 => by simp
  | n + 1 => by
    rw [List.replicate_succ, List.foldl_cons, rep0 _ n, Array.toList_append, List.replicate_succ, List.append_assoc]
    rfl
theorem mul0 {M : Nat} (h : 2 ≤ M) : (Txt.mul (Str.ofString "0") (M : Nat)).cps.toList = List.replicate M 48 := by
  unfold Txt.mul
  rw [if_neg (by omega), if_neg (by
    have e1 : ((M : Int) == 1) = false := beq_eq_false_iff_ne.mpr (by omega)
    rw [e1]
    decide), Int.toNat_natCast]
  exact rep0 #[] M
theorem lawTrue : LawTrue := by
  intro ns hn
  have main : WpX Zn (denlaw [.val (scrD ns)]) (fun d _ => d = .bool true) := by
    refine wpdlaw _ _ ?_
    unfold bodylaw
    walk_at "dl"
    refine box_ok hn fun o ho => ?_
    walk_at "dl"
    refine next_own rfl ho (by decide) fun o1 n ho1 n0 n1 => ?_
    obtain ⟨L, hL⟩ : ∃ L : Nat, 1 + n = (L : Nat) := ⟨(1 + n).toNat, by omega⟩
    have h1 : 1 ≤ L := by omega
    have h3 : L ≤ 3 := by omega
    walk_at "dl"
    rw [hL]
    refine next_own rfl ho1 (by decide) fun o2 m ho2 m0 m1 => ?_
    walk_at "dl"
    refine ⟨inR_nat' m0 (by omega), ?_⟩
    refine wp_lcL (fun i acc ρ' => ∃ (ws : List Nat) (o' : OD), acc = digD ws ∧ ws.length = i ∧ (∀ x ∈ ws, x < L) ∧ BoxOk o' ∧ ρ' = [.val (scrD ns), .own o', .val (.int (L : Nat)), .un, .un, .un, .un, .un, .un, .un, .un, .un, .un, .un])
      ⟨[], o2, rfl, rfl, fun x h => absurd h List.not_mem_nil, ho2, rfl⟩ (small_line (by rw [ints_len]; omega)) (fun i d acc ρ' hd h => ?_) fun acc ρ' h => ?_
    · obtain ⟨ws, o', rfl, hl, hw, hb, rfl⟩ := h
      refine ⟨_, rfl, ?_⟩
      rw [wp_tTrue, if_pos rfl]
      walk_at "dl"
      refine next_own rfl hb (by omega) fun o3 x hb3 x0 x1 => ?_
      refine ⟨ws ++ [x.toNat], o3, ?_, by rw [List.length_append, hl]; rfl, fun y hy => ?_, hb3, rfl⟩
      · unfold digD
        rw [List.map_append]
        show _ ++ [PyData.int x] = _ ++ [PyData.int ((x.toNat : Nat) : Int)]
        rw [Int.toNat_of_nonneg x0]
      · rcases List.mem_append.mp hy with hy | hy
        · exact hw y hy
        · rw [List.mem_singleton.mp hy]; omega
    · obtain ⟨ws, o', rfl, hl, hw, hb, rfl⟩ := h
      rw [ints_len] at hl
      have hl60 : ws.length ≤ 60 := by omega
      walk_at "dl"
      have lp : ws.length = ws.length := rfl
      refine wp_forL (fun i ρ => ∃ c6, ρ = [.val (scrD ns), .own o', .val (.int (L : Nat)), .val (.list (digD ws)), .val (.list (tapeP (ws.take i))), .val (.str (tx (ws.take i))), c6, .un, .un, .un, .un, .un, .un, .un] ∧ Loose c6) ⟨_, rfl, .un⟩ (fun i d ρ hd hI => ?_) fun ρ hI => ?_
      · obtain ⟨c6, rfl, l6⟩ := hI
        unfold digD at hd
        rw [List.getElem?_map] at hd
        obtain ⟨x, hx, rfl⟩ := Option.map_eq_some_iff.mp hd
        have hx3 : x < 3 := by have := hw x (List.mem_of_getElem? hx); omega
        have hi : i < ws.length := (List.getElem?_eq_some_iff.mp hx).1
        have htk : ws.take (i + 1) = ws.take i ++ [x] := by rw [List.take_add_one, hx]; rfl
        refine ⟨_, setV_fr rfl l6 _, ?_⟩
        walk_at "dl"
        rw [oAdd_lst, if_pos (small_line (by unfold tapeP; rw [List.length_cons, List.length_map, List.length_take]; show _ + 1 ≤ _; omega))]
        walk_at "dl"
        have e1 : oIxS (.str (Str.ofString "012")) (.int (x : Nat)) = some (.str ⟨#[48 + x]⟩) := by
          have hx' : x = 0 ∨ x = 1 ∨ x = 2 := by omega
          rcases hx' with rfl | rfl | rfl <;> rfl
        rw [e1]
        walk_at "dl"
        have e2 : oAdd (.str (tx (ws.take i))) (.str ⟨#[48 + x]⟩) = some (.str (tx (ws.take (i + 1)))) := by
          rw [htk, tx_snoc]
          exact if_pos (small_line (by rw [tx_len, List.length_take]; show _ + 1 ≤ _; omega))
        rw [e2]
        walk_at "dl"
        refine ⟨.val (.int (x : Nat)), ?_, .val _⟩
        rw [htk]
        unfold tapeP
        rw [List.map_append]
        rfl
      · obtain ⟨c6, rfl, l6⟩ := hI
        have hlen : (digD ws).length = ws.length := by unfold digD; rw [List.length_map]
        rw [hlen, List.take_length]
        walk_at "dl"
        have e1 : oAdd (.list (tapeP ws)) (.list [.int 1]) = some (.list (tapeD ws)) := by
          rw [oAdd_lst, if_pos (small_line (by unfold tapeP; rw [List.length_cons, List.length_map]; show _ + 1 ≤ _; omega))]
          rfl
        rw [e1]
        walk_at "dl"
        refine tape_ok (by omega) ?_
        rw [ne_self (shp_tape ws) (by decide)]
        walk_at "dl"
        rw [ne_self (shp_dig ws) (by decide)]
        walk_at "dl"
        refine tape_ok (by omega) ?_
        walk_at "dl"
        refine word_ok (by omega) ?_
        rw [ne_self (shp_dig ws) (by decide)]
        walk_at "dl"
        refine format_ok (by omega) (fun x hx => by have := hw x hx; omega) ?_
        rw [ne_self (.str (k := 0) (ok_tx ws hw h3)) (by decide)]
        walk_at "dl"
        refine told_good h1 h3 (by rw [tx_len]; omega) (good_tx hw) ?_
        rw [code_tx]
        walk_at "dl"
        rw [ne_self (shp_dig ws) (by decide)]
        walk_at "dl"
        have el : oLenS [.str (tx ws)] = some (.int (ws.length : Nat)) := by
          have := tx_len ws
          show (if (tx ws).length ≤ sizeLine then some (PyData.int ((tx ws).length : Nat)) else none) = _
          rw [this, if_pos (small_line (by omega))]
        rw [el]
        walk_at "dl"
        refine next_own rfl hb (by omega) fun o3 kz hb3 k0 k1 => ?_
        obtain ⟨k, rfl⟩ := Int.eq_ofNat_of_zero_le k0
        have hk : k ≤ ws.length := by omega
        walk_at "dl"
        have e6 : oIxS (.str "012345") (.int (L : Nat)) = some (.str ⟨#[48 + L]⟩) := by
          have hL3 : L = 1 ∨ L = 2 ∨ L = 3 := by omega
          rcases hL3 with rfl | rfl | rfl <;> rfl
        rw [e6]
        walk_at "dl"
        refine next_own rfl hb3 (by decide) fun o4 b hb4 b0 b1 => ?_
        obtain ⟨c, ec, hc⟩ : ∃ c, oIx (.list [.str ⟨#[48 + L]⟩, .str "a", .str " ", .str "-", .str "9"]) (.int b) = some (.str ⟨#[c]⟩) ∧ ¬ Good L c := by
          have hbb : b = 0 ∨ b = 1 ∨ b = 2 ∨ b = 3 ∨ b = 4 := by omega
          unfold Good
          rcases hbb with rfl | rfl | rfl | rfl | rfl
          · exact ⟨48 + L, rfl, by omega⟩
          · exact ⟨97, rfl, by omega⟩
          · exact ⟨32, rfl, by omega⟩
          · exact ⟨45, rfl, by omega⟩
          · exact ⟨57, rfl, by omega⟩
        rw [ec]
        walk_at "dl"
        have tl := tx_len ws
        refine ⟨tx ws, rfl, small_line (by omega), ?_⟩
        have a1 : oAdd (.str (cutS (tx ws) none (some (k : Nat)))) (.str ⟨#[c]⟩) = some (.str (cutS (tx ws) none (some (k : Nat)) ++ ⟨#[c]⟩)) := by
          rw [oAdd_str, if_pos (small_line ?_)]
          rw [cutS_to ws hk, tx_len, List.length_take]
          show _ + 1 ≤ _
          omega
        rw [a1]
        walk_at "dl"
        refine ⟨tx ws, rfl, small_line (by omega), ?_⟩
        have a2 : oAdd (.str (cutS (tx ws) none (some (k : Nat)) ++ ⟨#[c]⟩)) (.str (cutS (tx ws) (some (k : Nat)) none)) = some (.str (cutS (tx ws) none (some (k : Nat)) ++ ⟨#[c]⟩ ++ cutS (tx ws) (some (k : Nat)) none)) := by
          rw [oAdd_str, if_pos (small_line ?_)]
          rw [strLen_append, cutS_to ws hk, cutS_from ws hk, tx_len, tx_len, List.length_take, List.length_drop]
          show _ + 1 + _ ≤ _
          omega
        rw [a2]
        walk_at "dl"
        have a3 : oAdd (.str (cutS (tx ws) none (some (k : Nat)) ++ ⟨#[c]⟩ ++ cutS (tx ws) (some (k : Nat)) none)) (.str ⟨#[c]⟩) = some (.str (badT ws k c)) := by
          rw [oAdd_str, if_pos (small_line ?_)]
          · rfl
          · rw [strLen_append, strLen_append, cutS_to ws hk, cutS_from ws hk, tx_len, tx_len, List.length_take, List.length_drop]
            show _ + 1 + _ + 1 ≤ _
            omega
        rw [a3]
        walk_at "dl"
        have bl := badT_list ws c hk
        have htk : ((ws.take k).map (48 + ·)).length = k := by rw [List.length_map, List.length_take]; omega
        refine told_bad h1 h3 (p := k) (c := c) ?_ ?_ hc (fun q hq c' hc' => ?_) ?_
        · have : (badT ws k c).cps.toList.length = (badT ws k c).length := Array.length_toList
          rw [← this, bl, List.length_append, htk, List.length_cons, List.length_append, List.length_map, List.length_drop]
          show _ + (_ + 1 + 1) ≤ _
          omega
        · rw [bl, List.getElem?_append_right (by omega), htk, Nat.sub_self]
          rfl
        · rw [bl, List.getElem?_append_left (by omega)] at hc'
          have hm := List.mem_of_getElem? hc'
          obtain ⟨x, hx, rfl⟩ := List.mem_map.mp hm
          have := hw x (List.mem_of_mem_take hx)
          exact ⟨by omega, by omega⟩
        have shp3 : Shp 1 (.tuple [.str "letter", .int (k : Nat), .bool true]) := .tuple fun d hd => by
          simp only [List.mem_cons, List.not_mem_nil, or_false] at hd
          rcases hd with rfl | rfl | rfl
          · exact .str (by decide +kernel)
          · exact .int _
          · exact .bool _
        rw [ne_self shp3 (by decide)]
        walk_at "dl"
        refine next_own rfl hb4 (by decide) fun o5 mz hb5 z0 z1 => ?_
        obtain ⟨M, hM⟩ : ∃ M : Nat, 199 + mz = (M : Nat) := ⟨(199 + mz).toNat, by omega⟩
        walk_at "dl"
        rw [hM]
        have hM1 : 199 ≤ M := by omega
        have hM2 : M ≤ 202 := by omega
        have em : oMulS (.str (Str.ofString "0")) (.int (M : Nat)) = some (.str (Txt.mul (Str.ofString "0") (M : Nat))) := if_pos ⟨by omega, by omega, by decide⟩
        rw [em]
        walk_at "dl"
        have ml := mul0 (M := M) (by omega)
        have mlen : (Txt.mul (Str.ofString "0") (M : Nat)).length = M := by
          have : (Txt.mul (Str.ofString "0") (M : Nat)).cps.toList.length = (Txt.mul (Str.ofString "0") (M : Nat)).length := Array.length_toList
          rw [← this, ml, List.length_replicate]
        have mg : ∀ c ∈ (Txt.mul (Str.ofString "0") (M : Nat)).cps.toList, Good L c := fun c hc => by
          rw [ml] at hc
          rw [List.eq_of_mem_replicate hc]
          exact ⟨by omega, by omega⟩
        by_cases h200 : 200 < M
        · refine told_long h1 h3 (by omega) (by omega) mg ?_
          walk_at "dl"
          have shp4 : Shp 1 (.tuple [.str "long", .int 1, .bool true]) := .tuple fun d hd => by
            simp only [List.mem_cons, List.not_mem_nil, or_false] at hd
            rcases hd with rfl | rfl | rfl
            · exact .str (by decide +kernel)
            · exact .int _
            · exact .bool _
          rw [if_pos (show (200 : Int) < (M : Nat) by omega), eq_self shp4 (by decide)]
          walk_at "dl"
        · refine told_good h1 h3 (by omega) mg ?_
          walk_at "dl"
          rw [if_neg (show ¬ (200 : Int) < (M : Nat) by omega)]
          have e0 : (Txt.mul (Str.ofString "0") (M : Nat)).cps.toList.map codeI = List.replicate M (.int 0) := by
            rw [ml, List.map_replicate]
            rfl
          have e1 : oMul (.list [.int 0]) (.int (M : Nat)) = some (.list (List.replicate M (.int 0))) := by
            unfold oMul
            dsimp only
            rw [if_pos ⟨by omega, by omega, small_line (by rw [Int.toNat_natCast]; show 1 * M ≤ _; omega)⟩, Int.toNat_natCast]
            simp
          have shp5 : Shp 1 (.list (List.replicate M (.int 0))) := .list fun d hd => by
            rw [List.eq_of_mem_replicate hd]
            exact .int _
          rw [e0, e1]
          walk_at "dl"
          rw [eq_self shp5 (by decide)]
          walk_at "dl"
  obtain ⟨d, cs, e, rfl⟩ := main.get
  exact ⟨cs, e⟩
end M
set_option Elab.async false
open PySem PySem.W PyProof.Rows in
set_option maxRecDepth 100000 in
set_option maxHeartbeats 0 in
theorem PySem.Challenge.cw_twoways_k01_words_and_tapes_holds : PySem.Challenge.rw_twoways_k01_words_and_tapes.Holds := by
  w_on; o_law; k_head; (case hw => w_witness2)
  k_fill
  refine LamX.walk_ofTs (l := PySem.Challenge.rw_twoways_k01_words_and_tapes) (n := 63) (k := 4) (x := "script") (CX := fun _ => L2.CX0) rfl (by decide) rfl ⟨rfl, by decide, by decide⟩ (fun w h Y => PySem.W.kIn_of Y) ?F (fun _ _ _ _ _ h => h)
  case F =>
    intro w mg fa h Y KX G hmg
    refine' M.all_mk @M.lawTrue KX G hmg ?a0 ?l0 ?c0 ?k0 ?a1 ?l1 ?c1 ?k1 ?a2 ?l2 ?c2 ?k2 ?a3 ?l3 ?c3 ?k3 ?a4 ?l4 ?c4 ?k4 ?a5 ?l5 ?c5 ?k5 ?a6 ?l6 ?c6 ?k6 ?a7 ?l7 ?c7 ?k7 ?a8 ?l8 ?c8 ?k8 ?a9 ?l9 ?c9 ?k9 ?z_len ?z_range ?z_list ?z_int ?z_str ?z_isinstance ?z_enumerate ?z_ValueError ?z_super ?q_LEFT_END ?q_RIGHT_END ?q_END_MARKS ?q_LONGEST_WORD ?q_DIGITS ?xa_InvalidLetter ?xa_TwowaysError ?xa_WordTooLong ?xe_WordTooLong ?xk_InvalidLetter ?xt_InvalidLetter ?xk_WordTooLong ?xt_WordTooLong ?xs_InvalidLetter ?xs_WordTooLong ?x1_InvalidLetter ?x2_InvalidLetter ?x3_InvalidLetter ?x4_InvalidLetter ?x5_InvalidLetter ?x6_InvalidLetter ?x7_InvalidLetter ?x1_WordTooLong ?x2_WordTooLong ?x3_WordTooLong ?x4_WordTooLong ?x5_WordTooLong ?x6_WordTooLong ?x7_WordTooLong ?ii_InvalidLetter ?il_InvalidLetter ?ic_InvalidLetter ?ih_InvalidLetter ?iv_InvalidLetter ?ig_InvalidLetter ?im_InvalidLetter ?iz_InvalidLetter ?iw_InvalidLetter ?ja_InvalidLetter ?jb_InvalidLetter ?jc_InvalidLetter ?jd_InvalidLetter ?je_InvalidLetter ?jf_InvalidLetter ?jg ?jh ?xmq_TwowaysError ?xiq_InvalidLetter ?xiq_ValueError ?xiq_WordTooLong
    (case a0 => k_is)
    (case l0 => k_is)
    (case c0 => k_is)
    (case k0 => k_is)
    (case a1 => k_is)
    (case l1 => k_is)
    (case c1 => k_is)
    (case k1 => k_is)
    (case a2 => k_is)
    (case l2 => k_is)
    (case c2 => k_is)
    (case k2 => k_is)
    (case a3 => k_is)
    (case l3 => k_is)
    (case c3 => k_is)
    (case k3 => k_is)
    (case a4 => k_is)
    (case l4 => k_is)
    (case c4 => k_is)
    (case k4 => k_is)
    (case a5 => k_is)
    (case l5 => k_is)
    (case c5 => k_is)
    (case k5 => k_is)
    (case a6 => k_is)
    (case l6 => k_is)
    (case c6 => k_is)
    (case k6 => k_is)
    (case a7 => k_is)
    (case l7 => k_is)
    (case c7 => k_is)
    (case k7 => k_is)
    (case a8 => k_is)
    (case l8 => k_is)
    (case c8 => k_is)
    (case k8 => k_is)
    (case a9 => k_is)
    (case l9 => k_is)
    (case c9 => k_is)
    (case k9 => k_is)
    (case z_len => k_is)
    (case z_range => k_is)
    (case z_list => k_is)
    (case z_int => k_is)
    (case z_str => k_is)
    (case z_isinstance => k_is)
    (case z_enumerate => k_is)
    (case z_ValueError => k_is)
    (case z_super => k_is)
    (case q_LEFT_END => k_is)
    (case q_RIGHT_END => k_is)
    (case q_END_MARKS => k_is)
    (case q_LONGEST_WORD => k_is)
    (case q_DIGITS => k_is)
    (case xa_InvalidLetter => k_is)
    (case xa_TwowaysError => k_is)
    (case xa_WordTooLong => k_is)
    (case xe_WordTooLong => kernel_rfl)
    (case xk_InvalidLetter => kernel_rfl)
    (case xt_InvalidLetter => kernel_rfl)
    (case xk_WordTooLong => kernel_rfl)
    (case xt_WordTooLong => kernel_rfl)
    (case xs_InvalidLetter => kernel_rfl)
    (case xs_WordTooLong => kernel_rfl)
    (case x1_InvalidLetter => kernel_rfl)
    (case x2_InvalidLetter => kernel_rfl)
    (case x3_InvalidLetter => kernel_rfl)
    (case x4_InvalidLetter => kernel_rfl)
    (case x5_InvalidLetter => kernel_rfl)
    (case x6_InvalidLetter => kernel_rfl)
    (case x7_InvalidLetter => kernel_rfl)
    (case x1_WordTooLong => kernel_rfl)
    (case x2_WordTooLong => kernel_rfl)
    (case x3_WordTooLong => kernel_rfl)
    (case x4_WordTooLong => kernel_rfl)
    (case x5_WordTooLong => kernel_rfl)
    (case x6_WordTooLong => kernel_rfl)
    (case x7_WordTooLong => kernel_rfl)
    (case ii_InvalidLetter => k_is)
    (case il_InvalidLetter => k_is)
    (case ic_InvalidLetter => k_is)
    (case ih_InvalidLetter => k_is)
    (case iv_InvalidLetter => exact rfl)
    (case ig_InvalidLetter => first | rfl | decide +kernel)
    (case im_InvalidLetter => k_is)
    (case iz_InvalidLetter => k_is)
    (case iw_InvalidLetter => kernel_rfl)
    (case ja_InvalidLetter => kernel_rfl)
    (case jb_InvalidLetter => kernel_rfl)
    (case jc_InvalidLetter => kernel_rfl)
    (case jd_InvalidLetter => kernel_rfl)
    (case je_InvalidLetter => kernel_rfl)
    (case jf_InvalidLetter => kernel_rfl)
    (case jg => first | k_is | kernel_rfl)
    (case jh => first | rfl | decide +kernel)
    (case xmq_TwowaysError => kernel_rfl)
    (case xiq_InvalidLetter => kernel_rfl)
    (case xiq_ValueError => kernel_rfl)
    (case xiq_WordTooLong => kernel_rfl)
