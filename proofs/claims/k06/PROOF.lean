import PyProof.Rows.All
import Wide.All
import OpenK.AllK
import Wide.FinOn
import HandS.ForMost
import HandS.IsInst
import HandS.Deep
import KE.KeyNested
import KE.KDictKeyed
import HandS.TupAny
import HandS.TupMul
import HandS.Strs
import HandS.More
import KE.DatumIndex
import KE.DatumOrd
import HandS.Style
import HandS.Zip
import HandS.Comp
import PyProof.Rows.StrStep
import HandS.Iter
import KE.GoesMore
import KE.GoesEnum
import HandS.Words
import KE.KDictDisplayH
import KE.GoesZip
import KE.DataCmp
import HandS.GenList
import HandS.AnyAll
import PyProof.TupleOfGen
import KE.KNestM
import HandS.Dict
import HandS.Defaults
import HandS.HeadEnd
import HandS.HeadHook4
import HandS.Head0
import HandS.Head1
import HandS.Head2
import HandS.HeadHook1
import HandS.HeadHook2
import HandS.HeadHook3
import PySem.Challenge.RW_actasone_k06_whole_rows_and_alike_states
set_option Elab.async false
set_option linter.all false
set_option maxRecDepth 100000
set_option maxHeartbeats 1000000
/-! PDa: data, slots, states; what stands for what. -/
namespace PD
open PySem PySem.Spec PyProof.Rows L2

/-! ### tables of code objects: they grow, nothing else of them is known -/
def isT : HO → Bool
  | .tbl _ => true
  | _ => false
def TGr (H H' : Hp) : Prop := ∀ b ps, H b = some (.tbl ps) → ∃ more, H' b = some (.tbl (ps ++ more))
theorem TGr.refl (H : Hp) : TGr H H := fun b ps e => ⟨#[], by rw [e]; simp⟩
theorem TGr.trans {H H1 H2 : Hp} (a : TGr H H1) (b : TGr H1 H2) : TGr H H2 := fun c ps e => by
  obtain ⟨m, h1⟩ := a c ps e
  obtain ⟨n, h2⟩ := b c _ h1
  exact ⟨m ++ n, by rw [h2, Array.append_assoc]⟩
def TOk (H : Hp) : Prop := ∀ b ps, H b = some (.tbl ps) → TriplesOk ps.toList
/-- the tables of the defs are told of -/
def TbAt (tb : Addr → Prop) (H : Hp) : Prop := ∀ P, tb P → ∃ ps, H P = some (.tbl ps)
theorem TbAt.grow {tb : Addr → Prop} {H H' : Hp} (h : TbAt tb H) (g : TGr H H') : TbAt tb H' := fun P z => by
  obtain ⟨ps, e⟩ := h P z
  obtain ⟨m, e2⟩ := g P ps e
  exact ⟨_, e2⟩
def NoT (G : Hp) : Prop := ∀ b ps, G b = some (.tbl ps) → False
theorem TGr.put {H : Hp} {p : Addr} {o : HO} (h : ∀ ps, H p ≠ some (.tbl ps)) : TGr H (upd H p o) := fun b ps e => ⟨#[], by
  rw [upd_ne (fun z => h ps (by rw [← z]; exact e)), e]
  simp⟩
theorem TOk.put {H : Hp} {p : Addr} {o : HO} (t : TOk H) (n : isT o = false) : TOk (upd H p o) := fun b ps e => by
  by_cases z : b = p
  · rw [z, upd_same] at e
    cases e
    cases n
  · rw [upd_ne z] at e
    exact t b ps e
theorem NoT.put {G : Hp} {p : Addr} {o : HO} (t : NoT G) (n : isT o = false) : NoT (upd G p o) := fun b ps e => by
  by_cases z : b = p
  · rw [z, upd_same] at e
    cases e
    cases n
  · rw [upd_ne z] at e
    exact t b ps e
theorem TGr.after {H H1 : Hp} {p : Addr} {o : HO} (t : TGr H H1) (h : ∀ ps, H1 p ≠ some (.tbl ps)) : TGr H (upd H1 p o) := t.trans (TGr.put h)
theorem none_nt {H : Hp} {p : Addr} (h : H p = none) : ∀ ps, H p ≠ some (.tbl ps) := fun ps z => by rw [h] at z; cases z
theorem some_nt {H : Hp} {p : Addr} {o : HO} (h : H p = some o) (n : isT o = false) : ∀ ps, H p ≠ some (.tbl ps) := fun ps z => by
  rw [h] at z
  cases z
  cases n
/-- a tuple whose object is known to bear no dict of its own -/
def TupK (K : PySem.W.Frag) (G : Hp) (a : Addr) (xs : List V) : Prop :=
  (∃ o, G a = some (.frz o (.tup xs)) ∧ o.dict = none) ∨
    ∃ (o : Obj) (its : Array Value) (n : Nat), K.lookup a = some o ∧ o.cls = .type "tuple" ∧ o.dict = none ∧ o.data = .seq its n ∧ its.size ≤ sizeLine ∧ Vals xs its.toList
theorem TupK.sqt {K : PySem.W.Frag} {G : Hp} {a : Addr} {xs : List V} (h : TupK K G a xs) : SqT K G a xs := by
  rcases h with ⟨o, h, _⟩ | ⟨o, its, n, h1, h2, _, h4, h5, h6⟩
  · exact .inl (.inr ⟨o, h⟩)
  · exact .inr ⟨o, its, n, h1, h2, h4, h5, h6⟩
theorem TupK.mono {K : PySem.W.Frag} {G G' : Hp} {a : Addr} {xs : List V} (h : Same G G') (q : TupK K G a xs) : TupK K G' a xs := by
  rcases q with ⟨o, q, d⟩ | q
  · exact .inl ⟨o, h _ _ q, d⟩
  · exact .inr q
mutual
inductive Rp (K : PySem.W.Frag) (G : Hp) : V → PyData → Prop
  | non : Rp K G .non .none
  | bl (b : Bool) : Rp K G (.bl b) (.bool b)
  | int (i : Int) : Rp K G (.int i) (.int i)
  | str (x : Str) : Rp K G (.str x) (.str x)
  | lst {a : Addr} {xs : List V} {ds : List PyData} : G a = some (.lst xs) → RpAll K G xs ds → Rp K G (.ref a) (.list ds)
  | tup {a : Addr} {xs : List V} {ds : List PyData} : TupK K G a xs → RpAll K G xs ds → Rp K G (.ref a) (.tuple ds)
inductive RpAll (K : PySem.W.Frag) (G : Hp) : List V → List PyData → Prop
  | nil : RpAll K G [] []
  | cons {v : V} {vs : List V} {d : PyData} {ds : List PyData} : Rp K G v d → RpAll K G vs ds → RpAll K G (v :: vs) (d :: ds)
end

mutual
theorem Rp.mono {K : PySem.W.Frag} {G G' : Hp} (h : Same G G') : ∀ {v : V} {d : PyData}, Rp K G v d → Rp K G' v d
  | _, _, .non => .non
  | _, _, .bl b => .bl b
  | _, _, .int i => .int i
  | _, _, .str x => .str x
  | _, _, .lst q r => .lst (h _ _ q) (RpAll.mono h r)
  | _, _, .tup q r => .tup (q.mono h) (RpAll.mono h r)
theorem RpAll.mono {K : PySem.W.Frag} {G G' : Hp} (h : Same G G') : ∀ {vs : List V} {ds : List PyData}, RpAll K G vs ds → RpAll K G' vs ds
  | _, _, .nil => .nil
  | _, _, .cons q r => .cons (Rp.mono h q) (RpAll.mono h r)
end
mutual
theorem Rp.dp {K : PySem.W.Frag} {G : Hp} : ∀ {v : V} {d : PyData}, Rp K G v d → Dp K G v d
  | _, _, .non => .non
  | _, _, .bl b => .bl b
  | _, _, .int i => .int i
  | _, _, .str x => .str x
  | _, _, .lst q r => .lst (.inl (.inl q)) (RpAll.dp r)
  | _, _, .tup q r => .tup q.sqt (RpAll.dp r)
theorem RpAll.dp {K : PySem.W.Frag} {G : Hp} : ∀ {vs : List V} {ds : List PyData}, RpAll K G vs ds → DpAll K G vs ds
  | _, _, .nil => .nil
  | _, _, .cons q r => .cons (Rp.dp q) (RpAll.dp r)
end
theorem RpAll.length {K : PySem.W.Frag} {G : Hp} : ∀ {vs : List V} {ds : List PyData}, RpAll K G vs ds → vs.length = ds.length
  | _, _, .nil => rfl
  | _, _, .cons _ r => congrArg (· + 1) (RpAll.length r)
theorem RpAll.append {K : PySem.W.Frag} {G : Hp} : ∀ {vs ws : List V} {ds es : List PyData}, RpAll K G vs ds → RpAll K G ws es → RpAll K G (vs ++ ws) (ds ++ es)
  | _, _, _, _, .nil, s => s
  | _, _, _, _, .cons q r, s => .cons q (RpAll.append r s)
theorem RpAll.get {K : PySem.W.Frag} {G : Hp} : ∀ {vs : List V} {ds : List PyData} {i : Nat} {d : PyData}, RpAll K G vs ds → ds[i]? = some d → ∃ v, vs[i]? = some v ∧ Rp K G v d
  | _, _, _, _, .nil, e => by simp at e
  | _, _, 0, _, .cons q r, e => by simp at e; subst e; exact ⟨_, rfl, q⟩
  | _, _, i + 1, d, .cons q r, e => by
    obtain ⟨v, h1, h2⟩ := RpAll.get (i := i) r (by simpa using e)
    exact ⟨v, by simpa using h1, h2⟩
theorem RpAll.take {K : PySem.W.Frag} {G : Hp} : ∀ {vs : List V} {ds : List PyData} (n : Nat), RpAll K G vs ds → RpAll K G (vs.take n) (ds.take n)
  | _, _, 0, _ => by simp; exact .nil
  | _, _, _ + 1, .nil => .nil
  | _, _, n + 1, .cons q r => .cons q (RpAll.take n r)
theorem RpAll.drop {K : PySem.W.Frag} {G : Hp} : ∀ {vs : List V} {ds : List PyData} (n : Nat), RpAll K G vs ds → RpAll K G (vs.drop n) (ds.drop n)
  | _, _, 0, r => r
  | _, _, _ + 1, .nil => .nil
  | _, _, n + 1, .cons _ r => RpAll.drop n r
theorem RpAll.set {K : PySem.W.Frag} {G : Hp} {v : V} {d : PyData} (q : Rp K G v d) : ∀ {vs : List V} {ds : List PyData} (i : Nat), RpAll K G vs ds → RpAll K G (vs.set i v) (ds.set i d)
  | _, _, _, .nil => .nil
  | _, _, 0, .cons _ r => .cons q r
  | _, _, i + 1, .cons p r => .cons p (RpAll.set q i r)
theorem RpAll.eraseIdx {K : PySem.W.Frag} {G : Hp} : ∀ {vs : List V} {ds : List PyData} (i : Nat), RpAll K G vs ds → RpAll K G (vs.eraseIdx i) (ds.eraseIdx i)
  | _, _, _, .nil => .nil
  | _, _, 0, .cons _ r => r
  | _, _, i + 1, .cons p r => .cons p (RpAll.eraseIdx i r)
theorem RpAll.reverse {K : PySem.W.Frag} {G : Hp} : ∀ {vs : List V} {ds : List PyData}, RpAll K G vs ds → RpAll K G vs.reverse ds.reverse
  | _, _, .nil => .nil
  | _, _, .cons q r => by
    rw [List.reverse_cons, List.reverse_cons]
    exact RpAll.append (RpAll.reverse r) (.cons q .nil)
theorem RpAll.ints {K : PySem.W.Frag} {G : Hp} : ∀ {vs : List V} {ns : List Int}, RpAll K G vs (ns.map PyData.int) → vs = ns.map V.int
  | _, [], h => by cases h; rfl
  | _, n :: ns, h => by
    cases h with
    | cons q r => cases q; rw [RpAll.ints r]; rfl
theorem RpAll.of_ints {K : PySem.W.Frag} {G : Hp} : ∀ (ns : List Int), RpAll K G (ns.map V.int) (ns.map PyData.int)
  | [] => .nil
  | n :: ns => .cons (.int n) (RpAll.of_ints ns)
theorem RpAll.strs {K : PySem.W.Frag} {G : Hp} : ∀ {vs : List V} {ns : List Str}, RpAll K G vs (ns.map PyData.str) → vs = ns.map V.str
  | _, [], h => by cases h; rfl
  | _, n :: ns, h => by
    cases h with
    | cons q r => cases q; rw [RpAll.strs r]; rfl
theorem RpAll.of_strs {K : PySem.W.Frag} {G : Hp} : ∀ (ns : List Str), RpAll K G (ns.map V.str) (ns.map PyData.str)
  | [] => .nil
  | n :: ns => .cons (.str n) (RpAll.of_strs ns)
theorem RpAll.bools {K : PySem.W.Frag} {G : Hp} : ∀ {vs : List V} {ns : List Bool}, RpAll K G vs (ns.map PyData.bool) → vs = ns.map V.bl
  | _, [], h => by cases h; rfl
  | _, n :: ns, h => by
    cases h with
    | cons q r => cases q; rw [RpAll.bools r]; rfl

/-! ### dicts whose keys are tuples, nested: an object by what is true of it -/
/-- the world that the texts' hashes are of -/
class TheW where
  w : World
def ndE (w : World) (q : NestedKey × Addr × Value) : DictEntry := ⟨q.1.hash w, .ref q.2.1, q.2.2⟩
abbrev NEnt : Type := NestedKey × Addr × V
def NDφ (w : World) (a : Addr) (es : List NEnt) (h : Heap) : Prop := (a == sysModules) = false ∧ es.length ≤ sizeLine ∧ (es.map (·.1)).Nodup ∧ ∃ xs : List (NestedKey × Addr × Value),
  Paired (fun (p : NEnt) (q : NestedKey × Addr × Value) => p.1 = q.1 ∧ p.2.1 = q.2.1 ∧ RelV p.2.2 q.2.2) es xs ∧ ∃ o ds ep, h.get? a = some o ∧ o.ExactDict ∧ o.data = .dict ds ep ∧ ds.toList = xs.map (ndE w)
mutual
def keyN : PyData → Option NestedKey
  | .none => some .none
  | .int i => some (.num i)
  | .str x => some (.text x)
  | .tuple ds => (keysN ds).map .tup
  | _ => none
def keysN : List PyData → Option (List NestedKey)
  | [] => some []
  | d :: ds => (keyN d).bind fun k => (keysN ds).map fun ks => k :: ks
end
/-- a tuple that is a key -/
def keyT : PyData → Option NestedKey
  | .tuple ds => (keysN ds).bind fun ks => if (NestedKey.tup ks).depth ≤ 8 then some (.tup ks) else none
  | _ => none
/-- the entries' keys and values -/
def NRp (K : PySem.W.Frag) (G : Hp) : List NEnt → List (NestedKey × PyData) → Prop := Paired fun p q => p.1 = q.1 ∧ keyT p.1.data = some p.1 ∧ Rp K G (.ref p.2.1) p.1.data ∧ Rp K G p.2.2 q.2
theorem NRp.mono {K : PySem.W.Frag} {G G' : Hp} (h : Same G G') : ∀ {a : List NEnt} {b : List (NestedKey × PyData)}, NRp K G a b → NRp K G' a b
  | _, _, .nil => .nil
  | _, _, .cons q r => .cons ⟨q.1, q.2.1, q.2.2.1.mono h, q.2.2.2.mono h⟩ (NRp.mono h r)
/-- the entries of a dict -/
def KVRp (K : PySem.W.Frag) (G : Hp) : List (Key × V) → List (Key × PyData) → Prop := Paired fun p q => p.1 = q.1 ∧ Rp K G p.2 q.2
theorem KVRp.mono {K : PySem.W.Frag} {G G' : Hp} (h : Same G G') : ∀ {a : List (Key × V)} {b : List (Key × PyData)}, KVRp K G a b → KVRp K G' a b
  | _, _, .nil => .nil
  | _, _, .cons q r => .cons ⟨q.1, q.2.mono h⟩ (KVRp.mono h r)

/-- the script's feed: cells, spot, rest, turn -/
structure FS where
  cells : List Int
  spot : Int
  rest : Int
  turn : Int

/-- what a name's place holds -/
inductive Pl where
  | val (d : PyData)
  | fd
  | dic (kvs : List (Key × PyData))
  | ownL (xs : List PyData)
  | ownK (kvs : List (Key × PyData))
  | dicN (kvs : List (NestedKey × PyData))
  | ownN (kvs : List (NestedKey × PyData))
def Pl.own : Pl → Bool
  | .ownL _ => true
  | .ownK _ => true
  | .ownN _ => true
  | _ => false

variable [TheW]
def NDO (a : Addr) (es : List NEnt) : HO := .ext (NDφ TheW.w a es)
def SRp (K : PySem.W.Frag) (fa : Addr) (H G : Hp) (v : V) : Pl → Prop
  | .val d => Rp K G v d
  | .fd => v = .ref fa
  | .dic kvs => ∃ p kv, v = .ref p ∧ G p = some (.dK kv) ∧ KVRp K G kv kvs
  | .ownL xs => ∃ p vs, v = .ref p ∧ H p = some (.lst vs) ∧ G p = none ∧ p ≠ fa ∧ RpAll K G vs xs
  | .ownK kvs => ∃ p kv, v = .ref p ∧ H p = some (.dK kv) ∧ G p = none ∧ p ≠ fa ∧ KVRp K G kv kvs
  | .dicN kvs => ∃ p es, v = .ref p ∧ G p = some (NDO p es) ∧ NRp K G es kvs
  | .ownN kvs => ∃ p es, v = .ref p ∧ H p = some (NDO p es) ∧ G p = none ∧ p ≠ fa ∧ NRp K G es kvs

structure DS where
  env : List (Option Pl)
  fs : FS

/-- an own thing of a name's place stands there -/
def OwnAt (σ : L2.St) (s : DS) (b : Addr) : Prop := ∃ (i : Nat) (a : Pl), s.env[i]? = some (some a) ∧ a.own = true ∧ σ[i]? = some (some (.ref b))

def kCells : Key := .inr "cells"
def kSpot : Key := .inr "spot"
def kRest : Key := .inr "rest"
def kTurn : Key := .inr "turn"
/-- the feed's dict -/
def FeedAt (fa : Addr) (H G : Hp) (f : FS) : Prop :=
  ∃ c, H fa = some (.dK [(kCells, .ref c), (kSpot, .int f.spot), (kRest, .int f.rest), (kTurn, .int f.turn)]) ∧ G fa = none ∧ G c = some (.lst (f.cells.map V.int))

structure Gm where
  fa : Addr
  H0 : Hp
  G0 : Hp

structure Sta (K : PySem.W.Frag) (Γ : Gm) (σ : L2.St) (H G : Hp) (s : DS) : Prop where
  sub : Same G H
  g0 : Same Γ.G0 G
  fr : ∀ b, G b ≠ none → Γ.G0 b ≠ none ∨ Γ.H0 b = none
  keep : ∀ b o, b ≠ Γ.fa → isT o = false → Γ.H0 b = some o → H b = some o
  len : s.env.length = σ.length
  env : ∀ (i : Nat) (sl : Pl), s.env[i]? = some (some sl) → ∃ v, σ[i]? = some (some v) ∧ SRp K Γ.fa H G v sl
  dis : ∀ (i j : Nat) (a c : Pl) (v : V), s.env[i]? = some (some a) → s.env[j]? = some (some c) → a.own = true → c.own = true → σ[i]? = some (some v) → σ[j]? = some (some v) → i = j
  new : ∀ b, OwnAt σ s b → Γ.H0 b = none
  fd : FeedAt Γ.fa H G s.fs
  tok : TOk H
  tgr : TGr Γ.H0 H
  gnt : NoT G

/-- what an expression may do: G grows by what was new (or one's own), all but the feed and one's own stays -/
structure Stp (Γ : Gm) (σ : L2.St) (H G : Hp) (s : DS) (H' G' : Hp) (s' : DS) : Prop where
  gg : Same G G'
  keep : ∀ b o, b ≠ Γ.fa → ¬ OwnAt σ s b → isT o = false → H b = some o → H' b = some o
  own : ∀ b, OwnAt σ s' b → OwnAt σ s b
  nw : ∀ b, G' b ≠ none → G b ≠ none ∨ H b = none ∨ OwnAt σ s b
  mo : ∀ b, H b ≠ none → H' b ≠ none
  tgr : TGr H H'
theorem Stp.refl {Γ : Gm} {σ : L2.St} {H G : Hp} {s : DS} : Stp Γ σ H G s H G s :=
  ⟨Same.refl _, fun _ _ _ _ _ e => e, fun _ e => e, fun _ e => .inl e, fun _ e => e, TGr.refl _⟩
theorem Stp.trans {Γ : Gm} {σ : L2.St} {H G H1 G1 H2 G2 : Hp} {s s1 s2 : DS} (a : Stp Γ σ H G s H1 G1 s1) (b : Stp Γ σ H1 G1 s1 H2 G2 s2) : Stp Γ σ H G s H2 G2 s2 :=
  ⟨a.gg.trans b.gg, fun c o h1 h2 nt e => b.keep c o h1 (fun z => h2 (a.own c z)) nt (a.keep c o h1 h2 nt e), fun c e => a.own c (b.own c e),
    fun c e => by
      rcases b.nw c e with q | q | q
      · exact a.nw c q
      · refine .inr (.inl ?_)
        cases z : H c with
        | none => rfl
        | some o => exact absurd q (a.mo c (by rw [z]; simp))
      · exact .inr (.inr (a.own c q)),
    fun c e => b.mo c (a.mo c e), a.tgr.trans b.tgr⟩

/-- a value that has come (Hs: the heap at the start): an own one is new -/
structure Got (K : PySem.W.Frag) (Γ : Gm) (Hs H G : Hp) (v : V) (r : Pl) : Prop where
  rp : SRp K Γ.fa H G v r
  ow : r.own = true → ∃ p, v = .ref p ∧ Hs p = none

abbrev Ef := DS → Option (Pl × DS)
/-- an expression as a function of data -/
def PEd (X : Cx) (Γ : Gm) (e : Expr) (f : Ef) : Prop :=
  ∃ t : TE, PE X e t ∧ ∀ (σ : L2.St) (H G : Hp) (s s' : DS) (r : Pl) (Q : VK), Sta X.K Γ σ H G s → f s = some (r, s') →
    (∀ v H' G', Sta X.K Γ σ H' G' s' → Stp Γ σ H G s H' G' s' → Got X.K Γ H H' G' v r → Q v H') → t σ H Q

end PD

set_option Elab.async false
set_option linter.all false
set_option maxRecDepth 100000
set_option maxHeartbeats 1000000
/-! PDb: freezing; views; the first expressions. -/
namespace PD
open PySem PySem.Spec PyProof.Rows L2
section
variable {K : PySem.W.Frag} {Γ : Gm} {σ : L2.St} {H G : Hp} {s : DS}

theorem same_upd' {H : Hp} {p : Addr} {o : HO} (h : H p = none) : Same H (upd H p o) := fun b x e => by
  rw [upd_ne (ne_of_none e h)]
  exact e
def fz : Pl → Pl
  | .ownL xs => .val (.list xs)
  | .ownK k => .dic k
  | .ownN k => .dicN k
  | s => s
@[simp] theorem fz_val (d : PyData) : fz (.val d) = .val d := rfl
@[simp] theorem fz_fd : fz .fd = .fd := rfl
@[simp] theorem fz_dic (k) : fz (.dic k) = .dic k := rfl
@[simp] theorem fz_ownL (xs) : fz (.ownL xs) = .val (.list xs) := rfl
@[simp] theorem fz_ownK (k) : fz (.ownK k) = .dic k := rfl
@[simp] theorem fz_dicN (k) : fz (.dicN k) = .dicN k := rfl
@[simp] theorem fz_ownN (k) : fz (.ownN k) = .dicN k := rfl
theorem fz_own (r : Pl) : (fz r).own = false := by cases r <;> rfl
variable [TheW]

theorem SRp.step {K : PySem.W.Frag} {fa : Addr} {H G H' G' : Hp} {v : V} {r : Pl} (a : SRp K fa H G v r) (hg : Same G G') (ho : r.own = true → ∀ p, v = .ref p → H' p = H p ∧ G' p = none) : SRp K fa H' G' v r := by
  cases r with
  | val d => exact Rp.mono hg a
  | fd => exact a
  | dic kvs => obtain ⟨p, kv, e, h, q⟩ := a; exact ⟨p, kv, e, hg _ _ h, q.mono hg⟩
  | ownL xs =>
    obtain ⟨p, vs, e, h, n, f, q⟩ := a
    obtain ⟨h1, h2⟩ := ho rfl p e
    exact ⟨p, vs, e, h1.trans h, h2, f, q.mono hg⟩
  | ownK kvs =>
    obtain ⟨p, kv, e, h, n, f, q⟩ := a
    obtain ⟨h1, h2⟩ := ho rfl p e
    exact ⟨p, kv, e, h1.trans h, h2, f, q.mono hg⟩
  | dicN kvs => obtain ⟨p, kv, e, h, q⟩ := a; exact ⟨p, kv, e, hg _ _ h, q.mono hg⟩
  | ownN kvs =>
    obtain ⟨p, kv, e, h, n, f, q⟩ := a
    obtain ⟨h1, h2⟩ := ho rfl p e
    exact ⟨p, kv, e, h1.trans h, h2, f, q.mono hg⟩

/-- an own thing: where it stands -/
theorem SRp.ownP {K : PySem.W.Frag} {fa : Addr} {H G : Hp} {v : V} {r : Pl} (a : SRp K fa H G v r) (h : r.own = true) :
    ∃ p o, v = .ref p ∧ H p = some o ∧ G p = none ∧ p ≠ fa ∧ (∀ G', Same G G' → G' p = some o → SRp K fa H G' v (fz r)) := by
  cases r with
  | val d => cases h
  | fd => cases h
  | dic kvs => cases h
  | ownL xs =>
    obtain ⟨p, vs, e, h, n, f, q⟩ := a
    exact ⟨p, _, e, h, n, f, fun G' hg hp => by rw [e]; exact .lst hp (q.mono hg)⟩
  | ownK kvs =>
    obtain ⟨p, kv, e, h, n, f, q⟩ := a
    exact ⟨p, _, e, h, n, f, fun G' hg hp => ⟨p, kv, e, hp, q.mono hg⟩⟩
  | dicN kvs => cases h
  | ownN kvs =>
    obtain ⟨p, kv, e, h, n, f, q⟩ := a
    exact ⟨p, _, e, h, n, f, fun G' hg hp => ⟨p, kv, e, hp, q.mono hg⟩⟩

theorem SRp.ownNT {K : PySem.W.Frag} {fa : Addr} {H G : Hp} {v : V} {r : Pl} {p : Addr} {o : HO} (a : SRp K fa H G v r) (h : r.own = true) (hv : v = .ref p) (hp : H p = some o) : isT o = false := by
  cases r with
  | val d => cases h
  | fd => cases h
  | dic kvs => cases h
  | ownL xs =>
    obtain ⟨q, vs, e, h, _⟩ := a
    rw [hv] at e
    cases e
    rw [h] at hp
    cases hp
    rfl
  | ownK kvs =>
    obtain ⟨q, kv, e, h, _⟩ := a
    rw [hv] at e
    cases e
    rw [h] at hp
    cases hp
    rfl
  | dicN kvs => cases h
  | ownN kvs =>
    obtain ⟨q, kv, e, h, _⟩ := a
    rw [hv] at e
    cases e
    rw [h] at hp
    cases hp
    rfl

/-- an own thing stands -/
theorem Sta.ownThere (S : Sta K Γ σ H G s) {b : Addr} (h : OwnAt σ s b) : (∃ o, H b = some o) ∧ G b = none ∧ b ≠ Γ.fa := by
  obtain ⟨i, a, h1, h2, h3⟩ := h
  obtain ⟨v, e1, e2⟩ := S.env i a h1
  obtain ⟨p, o, e3, e4, e5, e6, _⟩ := e2.ownP h2
  rw [e1] at h3
  cases h3
  cases e3
  exact ⟨⟨o, e4⟩, e5, e6⟩
theorem Sta.fresh0 (S : Sta K Γ σ H G s) {p : Addr} (h : H p = none) : Γ.H0 p = none := by
  by_cases z : p = Γ.fa
  · obtain ⟨c, h1, _⟩ := S.fd
    rw [z, h1] at h; cases h
  · cases q : Γ.H0 p with
    | none => rfl
    | some o =>
      cases nt : isT o with
      | false => rw [S.keep p o z nt q] at h; cases h
      | true =>
        cases o with
        | tbl ps =>
          obtain ⟨m, e⟩ := S.tgr p ps q
          rw [e] at h; cases h
        | _ => cases nt

/-- G grows by p, a thing that is new since the start -/
theorem Sta.adopt {H1 G1 : Hp} {s1 : DS} (S : Sta K Γ σ H G s) (S1 : Sta K Γ σ H1 G1 s1) (T : Stp Γ σ H G s H1 G1 s1) {p : Addr} {o : HO} (h : H p = none) (hp : H1 p = some o) (gp : G1 p = none) (nt : isT o = false := by rfl) :
    Sta K Γ σ H1 (upd G1 p o) s1 ∧ Stp Γ σ H G s H1 (upd G1 p o) s1 := by
  have sg : Same G1 (upd G1 p o) := same_upd' gp
  have no : ¬ OwnAt σ s1 p := fun z => by
    obtain ⟨⟨o, q⟩, _⟩ := S.ownThere (T.own p z)
    rw [h] at q; cases q
  have pf : p ≠ Γ.fa := fun z => by
    obtain ⟨c, h1, _⟩ := S.fd
    rw [z, h1] at h; cases h
  refine ⟨⟨fun b x e => ?_, S1.g0.trans sg, fun b e => ?_, S1.keep, S1.len, fun i sl e => ?_, S1.dis, S1.new, ?_, S1.tok, S1.tgr, S1.gnt.put nt⟩, ⟨T.gg.trans sg, T.keep, T.own, fun b e => ?_, T.mo, T.tgr⟩⟩
  · by_cases z : b = p
    · rw [z, upd_same] at e; rw [z, hp]; exact e
    · rw [upd_ne z] at e; exact S1.sub _ _ e
  · by_cases z : b = p
    · exact .inr (by rw [z]; exact S.fresh0 h)
    · rw [upd_ne z] at e; exact S1.fr b e
  · obtain ⟨v, h1, h2⟩ := S1.env i sl e
    refine ⟨v, h1, h2.step sg fun ow q hq => ⟨rfl, ?_⟩⟩
    obtain ⟨q', o', e1, e2, e3, _⟩ := h2.ownP ow
    rw [hq] at e1
    cases e1
    rw [upd_ne (fun z => no ⟨i, sl, e, ow, by rw [h1, hq, z]⟩)]
    exact e3
  · obtain ⟨c, h1, h2, h3⟩ := S1.fd
    exact ⟨c, h1, by rw [upd_ne (Ne.symm pf)]; exact h2, sg _ _ h3⟩
  · by_cases z : b = p
    · rw [z]; exact .inr (.inl h)
    · rw [upd_ne z] at e; exact T.nw b e
/-- what has come is kept for good -/
theorem Sta.freeze {H1 G1 : Hp} {s1 : DS} {v : V} {r : Pl} (S : Sta K Γ σ H G s) (S1 : Sta K Γ σ H1 G1 s1) (T : Stp Γ σ H G s H1 G1 s1) (g : Got K Γ H H1 G1 v r) :
    ∃ G2, Sta K Γ σ H1 G2 s1 ∧ Stp Γ σ H G s H1 G2 s1 ∧ SRp K Γ.fa H1 G2 v (fz r) := by
  cases ho : r.own with
  | false =>
    refine ⟨G1, S1, T, ?_⟩
    cases r with
    | ownL xs => cases ho
    | ownK k => cases ho
    | ownN k => cases ho
    | dicN k => exact g.rp
    | val d => exact g.rp
    | fd => exact g.rp
    | dic k => exact g.rp
  | true =>
    obtain ⟨p, o, e1, e2, e3, e4, e5⟩ := g.rp.ownP ho
    obtain ⟨p', f1, f2⟩ := g.ow ho
    rw [e1] at f1
    cases f1
    obtain ⟨A, B⟩ := S.adopt S1 T f2 e2 e3 (g.rp.ownNT ho e1 e2)
    exact ⟨_, A, B, e5 _ (same_upd' e3) upd_same⟩
/-- an own name's thing is kept for good -/
theorem Sta.freezeAt (S : Sta K Γ σ H G s) {i : Nat} {sl : Pl} (h : s.env[i]? = some (some sl)) (ho : sl.own = true) :
    ∃ G' v, σ[i]? = some (some v) ∧ Sta K Γ σ H G' ⟨s.env.set i (some (fz sl)), s.fs⟩ ∧ Stp Γ σ H G s H G' ⟨s.env.set i (some (fz sl)), s.fs⟩ ∧ SRp K Γ.fa H G' v (fz sl) := by
  obtain ⟨v, hv, hr⟩ := S.env i sl h
  obtain ⟨p, o, rfl, hp, gp, pf, hz⟩ := hr.ownP ho
  have sg : Same G (upd G p o) := same_upd' gp
  have hown : OwnAt σ s p := ⟨i, sl, h, ho, hv⟩
  have lt : i < s.env.length := (List.getElem?_eq_some_iff.mp h).1
  have old : ∀ (j : Nat) (a : Pl), (s.env.set i (some (fz sl)))[j]? = some (some a) → (j = i ∧ a = fz sl) ∨ (j ≠ i ∧ s.env[j]? = some (some a)) := fun j a e => by
    by_cases z : j = i
    · subst z
      rw [List.getElem?_set_self lt] at e
      cases e
      exact .inl ⟨rfl, rfl⟩
    · rw [List.getElem?_set_ne (Ne.symm z)] at e
      exact .inr ⟨z, e⟩
  have oldO : ∀ b, OwnAt σ ⟨s.env.set i (some (fz sl)), s.fs⟩ b → OwnAt σ s b := fun b ⟨j, a, e1, e2, e3⟩ => by
    rcases old j a e1 with ⟨_, rfl⟩ | ⟨_, e⟩
    · rw [fz_own] at e2; cases e2
    · exact ⟨j, a, e, e2, e3⟩
  refine ⟨upd G p o, .ref p, hv, ⟨fun b x e => ?_, S.g0.trans sg, fun b e => ?_, S.keep, by simpa using S.len, fun j a e => ?_, fun j k a c w e1 e2 e3 e4 => ?_, fun b e => S.new b (oldO b e), ?_, S.tok, S.tgr, S.gnt.put (hr.ownNT ho rfl hp)⟩, ⟨sg, fun _ _ _ _ _ e => e, oldO, fun b e => ?_, fun _ e => e, TGr.refl _⟩, hz _ sg upd_same⟩
  · by_cases z : b = p
    · rw [z, upd_same] at e; rw [z, hp]; exact e
    · rw [upd_ne z] at e; exact S.sub _ _ e
  · by_cases z : b = p
    · exact .inr (by rw [z]; exact S.new p hown)
    · rw [upd_ne z] at e; exact S.fr b e
  · rcases old j a e with ⟨rfl, rfl⟩ | ⟨z, e⟩
    · exact ⟨_, hv, hz _ sg upd_same⟩
    · obtain ⟨w, h1, h2⟩ := S.env j a e
      refine ⟨w, h1, h2.step sg fun ow q hq => ⟨rfl, ?_⟩⟩
      obtain ⟨q', o', f1, f2, f3, _⟩ := h2.ownP ow
      rw [hq] at f1
      cases f1
      rw [upd_ne (fun y => z (S.dis j i a sl (.ref q) e h ow ho (by rw [h1, hq]) (by rw [hv, y])))]
      exact f3
  · rcases old j a e1 with ⟨_, rfl⟩ | ⟨_, f1⟩
    · rw [fz_own] at e3; cases e3
    · rcases old k c e2 with ⟨_, rfl⟩ | ⟨_, f2⟩
      · rw [fz_own] at e4; cases e4
      · exact S.dis j k a c w f1 f2 e3 e4
  · obtain ⟨c, h1, h2, h3⟩ := S.fd
    exact ⟨c, h1, by rw [upd_ne (Ne.symm pf)]; exact h2, sg _ _ h3⟩
  · by_cases z : b = p
    · rw [z]; exact .inr (.inr hown)
    · rw [upd_ne z] at e; exact .inl e

/-! ### views -/
/-- a value that shows data now, kept or own -/
def View (K : PySem.W.Frag) (fa : Addr) (H G : Hp) (v : V) : Pl → Prop
  | .val (.list ds) => ∃ p vs, v = .ref p ∧ H p = some (.lst vs) ∧ RpAll K G vs ds
  | .val d => Rp K G v d
  | .dic kvs => ∃ p kv, v = .ref p ∧ H p = some (.dK kv) ∧ KVRp K G kv kvs
  | .fd => v = .ref fa
  | .dicN kvs => ∃ p es, v = .ref p ∧ H p = some (NDO p es) ∧ NRp K G es kvs
  | _ => False
theorem View.of (sub : Same G H) {fa : Addr} {v : V} {r : Pl} (h : SRp K fa H G v r) : View K fa H G v (fz r) := by
  cases r with
  | val d =>
    cases d with
    | list ds =>
      cases h with
      | lst q r => exact ⟨_, _, rfl, sub _ _ q, r⟩
    | none => exact h
    | bool b => exact h
    | int i => exact h
    | str x => exact h
    | tuple ds => exact h
    | dict ds => exact h
  | fd => exact h
  | dic kvs => obtain ⟨p, kv, e, h, q⟩ := h; exact ⟨p, kv, e, sub _ _ h, q⟩
  | ownL xs => obtain ⟨p, vs, e, h, n, f, q⟩ := h; exact ⟨p, vs, e, h, q⟩
  | ownK kvs => obtain ⟨p, kv, e, h, n, f, q⟩ := h; exact ⟨p, kv, e, h, q⟩
  | dicN kvs => obtain ⟨p, kv, e, h, q⟩ := h; exact ⟨p, kv, e, sub _ _ h, q⟩
  | ownN kvs => obtain ⟨p, kv, e, h, n, f, q⟩ := h; exact ⟨p, kv, e, h, q⟩
theorem View.dp (sub : Same G H) {fa : Addr} {v : V} {d : PyData} (h : View K fa H G v (.val d)) : Dp K H v d := by
  cases d with
  | list ds => obtain ⟨p, vs, rfl, h, q⟩ := h; exact .lst (.inl (.inl h)) (q.mono sub).dp
  | none => exact (Rp.mono sub h).dp
  | bool b => exact (Rp.mono sub h).dp
  | int i => exact (Rp.mono sub h).dp
  | str x => exact (Rp.mono sub h).dp
  | tuple ds => exact (Rp.mono sub h).dp
  | dict ds => exact (Rp.mono sub h).dp

end

/-! ### operands -/
section
variable [TheW]
variable {X : Cx} {Γ : Gm}
/-- an expression's view -/
def P1d (X : Cx) (Γ : Gm) (e : Expr) (f : Ef) : Prop :=
  ∃ t : TE, PE X e t ∧ ∀ (σ : L2.St) (H G : Hp) (s s' : DS) (r : Pl) (Q : VK), Sta X.K Γ σ H G s → f s = some (r, s') →
    (∀ v H' G', Sta X.K Γ σ H' G' s' → Stp Γ σ H G s H' G' s' → View X.K Γ.fa H' G' v r → Q v H') → t σ H Q
/-- a name's place as it stands, frozen to look at -/
def fPeek (i : Nat) : Ef := fun s => match s.env[i]? with
  | some (some sl) => some (fz sl, s)
  | _ => none
/-- a name's place, kept for good -/
def fVar (i : Nat) : Ef := fun s => match s.env[i]? with
  | some (some (.ownL xs)) => some (.val (.list xs), ⟨s.env.set i (some (.val (.list xs))), s.fs⟩)
  | some (some (.ownK k)) => some (.dic k, ⟨s.env.set i (some (.dic k)), s.fs⟩)
  | some (some (.ownN k)) => some (.dicN k, ⟨s.env.set i (some (.dicN k)), s.fs⟩)
  | some (some sl) => some (sl, s)
  | _ => none
def fFz (f : Ef) : Ef := fun s => (f s).map fun (r, s') => (fz r, s')
theorem pd_var {e : Expr} (i : Nat) (h : PE X e (tVar i)) : PEd X Γ e (fVar i) := by
  refine ⟨_, h, fun σ H G s s' r Q S hf hq => ?_⟩
  unfold fVar at hf
  cases he : s.env[i]? with
  | none => rw [he] at hf; cases hf
  | some o =>
    cases o with
    | none => rw [he] at hf; cases hf
    | some sl =>
      rw [he] at hf
      cases ho : sl.own with
      | false =>
        obtain ⟨v, h1, h2⟩ := S.env i sl he
        have hf2 : some (sl, s) = some (r, s') := by cases sl <;> first | exact hf | cases ho
        cases hf2
        exact ⟨v, h1, hq v H G S .refl ⟨h2, fun z => by rw [ho] at z; cases z⟩⟩
      | true =>
        obtain ⟨G', v, h1, h2, h3, h4⟩ := S.freezeAt he ho
        have hf2 : some (fz sl, (⟨s.env.set i (some (fz sl)), s.fs⟩ : DS)) = some (r, s') := by cases sl <;> first | exact hf | cases ho
        cases hf2
        exact ⟨v, h1, hq v H G' h2 h3 ⟨h4, fun z => by rw [fz_own] at z; cases z⟩⟩
theorem p1_n {e : Expr} (i : Nat) (h : PE X e (tVar i)) : P1d X Γ e (fPeek i) := by
  refine ⟨_, h, fun σ H G s s' r Q S hf hq => ?_⟩
  unfold fPeek at hf
  cases he : s.env[i]? with
  | none => rw [he] at hf; cases hf
  | some o =>
    cases o with
    | none => rw [he] at hf; cases hf
    | some sl =>
      rw [he] at hf
      cases hf
      obtain ⟨v, h1, h2⟩ := S.env i sl he
      exact ⟨v, h1, hq v H G S .refl (View.of S.sub h2)⟩
theorem p1_e {e : Expr} {f : Ef} (h : PEd X Γ e f) : P1d X Γ e (fFz f) := by
  obtain ⟨t, h, k⟩ := h
  refine ⟨t, h, fun σ H G s s' r Q S hf hq => ?_⟩
  unfold fFz at hf
  cases hs : f s with
  | none => rw [hs] at hf; cases hf
  | some q =>
    obtain ⟨r1, s1⟩ := q
    rw [hs] at hf
    cases hf
    exact k σ H G s _ r1 Q S hs fun v H' G' S' T g => hq v H' G' S' T (View.of S'.sub g.rp)

/-- two operands, from the left -/
def P2d (X : Cx) (Γ : Gm) (a b : Expr) (f : DS → Option (Pl × Pl × DS)) : Prop :=
  ∃ ta tb : TE, PE X a ta ∧ PE X b tb ∧ ∀ (σ : L2.St) (H G : Hp) (s s' : DS) (r1 r2 : Pl) (R : V → V → Hp → Prop), Sta X.K Γ σ H G s → f s = some (r1, r2, s') →
    (∀ v w H' G', Sta X.K Γ σ H' G' s' → Stp Γ σ H G s H' G' s' → View X.K Γ.fa H' G' v r1 → View X.K Γ.fa H' G' w r2 → R v w H') → ta σ H fun v H1 => tb σ H1 fun w H2 => R v w H2
def f2 (f g : Ef) : DS → Option (Pl × Pl × DS) := fun s => (f s).bind fun (a, s1) => (g s1).bind fun (b, s2) => some (fz a, fz b, s2)
/-- the first is a name: what it holds behind the second -/
def f2n (i : Nat) (g : Ef) : DS → Option (Pl × Pl × DS) := fun s => (fPeek i s).bind fun _ => (g s).bind fun (b, s2) => (fPeek i s2).bind fun (a, _) => some (a, fz b, s2)
def f2e (f : Ef) (j : Nat) : DS → Option (Pl × Pl × DS) := fun s => (f s).bind fun (a, s1) => (fPeek j s1).bind fun (b, _) => some (fz a, b, s1)
def f2nn (i j : Nat) : DS → Option (Pl × Pl × DS) := fun s => (fPeek i s).bind fun (a, _) => (fPeek j s).bind fun (b, _) => some (a, b, s)
theorem fPeek_some {i : Nat} {s s' : DS} {r : Pl} (h : fPeek i s = some (r, s')) : ∃ sl, s.env[i]? = some (some sl) ∧ r = fz sl ∧ s' = s := by
  unfold fPeek at h
  cases he : s.env[i]? with
  | none => rw [he] at h; cases h
  | some o =>
    cases o with
    | none => rw [he] at h; cases h
    | some sl => rw [he] at h; cases h; exact ⟨sl, rfl, rfl, rfl⟩
theorem View.mono {K : PySem.W.Frag} {fa : Addr} {H G H' G' : Hp} {v : V} {r : Pl} (h : SRp K fa H G v r) (n : r.own = false) (hg : Same G G') (sub : Same G' H') : View K fa H' G' v r := by
  cases r with
  | val d => exact View.of (r := .val d) sub (Rp.mono hg h)
  | fd => exact h
  | dic kvs => obtain ⟨p, kv, e, h, q⟩ := h; exact ⟨p, kv, e, sub _ _ (hg _ _ h), q.mono hg⟩
  | dicN kvs => obtain ⟨p, kv, e, h, q⟩ := h; exact ⟨p, kv, e, sub _ _ (hg _ _ h), q.mono hg⟩
  | ownL xs => cases n
  | ownK kvs => cases n
  | ownN kvs => cases n
theorem p2_ee {a b : Expr} {f g : Ef} (ha : PEd X Γ a f) (hb : PEd X Γ b g) : P2d X Γ a b (f2 f g) := by
  obtain ⟨ta, ha, ka⟩ := ha
  obtain ⟨tb, hb, kb⟩ := hb
  refine ⟨ta, tb, ha, hb, fun σ H G s s' r1 r2 R S hf hq => ?_⟩
  unfold f2 at hf
  cases h1 : f s with
  | none => rw [h1] at hf; cases hf
  | some q =>
    obtain ⟨x, s1⟩ := q
    rw [h1, Option.bind_some] at hf
    cases h2 : g s1 with
    | none => simp only [h2, Option.bind_none] at hf; cases hf
    | some q2 =>
      obtain ⟨y, s2⟩ := q2
      simp only [h2, Option.bind_some, Option.some.injEq, Prod.mk.injEq] at hf
      obtain ⟨rfl, rfl, rfl⟩ := hf
      refine ka σ H G s s1 x _ S h1 fun v H1 G1 S1 T1 g1 => ?_
      obtain ⟨G1', S1', T1', r1'⟩ := S.freeze S1 T1 g1
      refine kb σ H1 G1' s1 s2 y _ S1' h2 fun w H2 G2 S2 T2 g2 => ?_
      exact hq v w H2 G2 S2 (T1'.trans T2) (View.mono r1' (fz_own x) T2.gg S2.sub) (View.of S2.sub g2.rp)
theorem p2_ne {a b : Expr} {g : Ef} (i : Nat) (ha : PE X a (tVar i)) (hb : PEd X Γ b g) : P2d X Γ a b (f2n i g) := by
  obtain ⟨tb, hb, kb⟩ := hb
  refine ⟨_, tb, ha, hb, fun σ H G s s' r1 r2 R S hf hq => ?_⟩
  unfold f2n at hf
  cases h0 : fPeek i s with
  | none => rw [h0] at hf; cases hf
  | some q0 =>
    rw [h0, Option.bind_some] at hf
    obtain ⟨sl0, e0, _⟩ := fPeek_some h0
    obtain ⟨v, hv, _⟩ := S.env i sl0 e0
    cases h2 : g s with
    | none => rw [h2] at hf; cases hf
    | some q2 =>
      obtain ⟨y, s2⟩ := q2
      rw [h2, Option.bind_some] at hf
      cases h3 : fPeek i s2 with
      | none => simp only [h3, Option.bind_none] at hf; cases hf
      | some q3 =>
        obtain ⟨x, s3⟩ := q3
        simp only [h3, Option.bind_some, Option.some.injEq, Prod.mk.injEq] at hf
        obtain ⟨rfl, rfl, rfl⟩ := hf
        obtain ⟨sl, e1, rfl, _⟩ := fPeek_some h3
        refine ⟨v, hv, kb σ H G s s2 y _ S h2 fun w H2 G2 S2 T2 g2 => ?_⟩
        obtain ⟨v', hv', r'⟩ := S2.env i sl e1
        rw [hv] at hv'
        cases hv'
        exact hq v w H2 G2 S2 T2 (View.of S2.sub r') (View.of S2.sub g2.rp)
theorem p2_en {a b : Expr} {f : Ef} (j : Nat) (ha : PEd X Γ a f) (hb : PE X b (tVar j)) : P2d X Γ a b (f2e f j) := by
  obtain ⟨ta, ha, ka⟩ := ha
  refine ⟨ta, _, ha, hb, fun σ H G s s' r1 r2 R S hf hq => ?_⟩
  unfold f2e at hf
  cases h1 : f s with
  | none => rw [h1] at hf; cases hf
  | some q =>
    obtain ⟨x, s1⟩ := q
    rw [h1, Option.bind_some] at hf
    cases h3 : fPeek j s1 with
    | none => simp only [h3, Option.bind_none] at hf; cases hf
    | some q3 =>
      obtain ⟨y, s3⟩ := q3
      simp only [h3, Option.bind_some, Option.some.injEq, Prod.mk.injEq] at hf
      obtain ⟨rfl, rfl, rfl⟩ := hf
      obtain ⟨sl, e1, rfl, _⟩ := fPeek_some h3
      refine ka σ H G s s1 x _ S h1 fun v H1 G1 S1 T1 g1 => ?_
      obtain ⟨w, hw, rw'⟩ := S1.env j sl e1
      exact ⟨w, hw, hq v w H1 G1 S1 T1 (View.of S1.sub g1.rp) (View.of S1.sub rw')⟩
theorem p2_nn {a b : Expr} (i j : Nat) (ha : PE X a (tVar i)) (hb : PE X b (tVar j)) : P2d X Γ a b (f2nn i j) := by
  refine ⟨_, _, ha, hb, fun σ H G s s' r1 r2 R S hf hq => ?_⟩
  unfold f2nn at hf
  cases h1 : fPeek i s with
  | none => rw [h1] at hf; cases hf
  | some q =>
    obtain ⟨x, s1⟩ := q
    rw [h1, Option.bind_some] at hf
    cases h3 : fPeek j s with
    | none => simp only [h3, Option.bind_none] at hf; cases hf
    | some q3 =>
      obtain ⟨y, s3⟩ := q3
      simp only [h3, Option.bind_some, Option.some.injEq, Prod.mk.injEq] at hf
      obtain ⟨rfl, rfl, rfl⟩ := hf
      obtain ⟨sl, e1, rfl, _⟩ := fPeek_some h1
      obtain ⟨sl2, e2, rfl, _⟩ := fPeek_some h3
      obtain ⟨v, hv, rv⟩ := S.env i sl e1
      obtain ⟨w, hw, rw'⟩ := S.env j sl2 e2
      exact ⟨v, hv, w, hw, hq v w H G S .refl (View.of S.sub rv) (View.of S.sub rw')⟩

/-! ### operators by data -/
/-- what an operation does on data: r is its reading on values -/
def OpD (X : Cx) (r : R2) (g : Pl → Pl → Option Pl) : Prop :=
  ∀ (Γ : Gm) (σ : L2.St) (H G : Hp) (s : DS) (v w : V) (a b c : Pl) (Q : VK), Sta X.K Γ σ H G s → View X.K Γ.fa H G v a → View X.K Γ.fa H G w b → g a b = some c →
    (∀ u H' G', Sta X.K Γ σ H' G' s → Stp Γ σ H G s H' G' s → Got X.K Γ H H' G' u c → Q u H') → r v w H Q
def fBin (f : DS → Option (Pl × Pl × DS)) (g : Pl → Pl → Option Pl) : Ef := fun s => (f s).bind fun (a, b, s') => (g a b).map fun c => (c, s')
theorem Got.later {K : PySem.W.Frag} {Γ : Gm} {σ : L2.St} {Hs Gs H1 G1 H G : Hp} {s s1 : DS} {v : V} {r : Pl} (T : Stp Γ σ Hs Gs s H1 G1 s1) (g : Got K Γ H1 H G v r) : Got K Γ Hs H G v r :=
  ⟨g.rp, fun h => by
    obtain ⟨p, e, n⟩ := g.ow h
    refine ⟨p, e, ?_⟩
    cases z : Hs p with
    | none => rfl
    | some o => exact absurd n (T.mo p (by rw [z]; simp))⟩
theorem pd_tOp {a b : Expr} {f : DS → Option (Pl × Pl × DS)} {r : R2} {g : Pl → Pl → Option Pl} (h : P2d X Γ a b f) (ho : OpD X r g) :
    ∃ ta tb : TE, PE X a ta ∧ PE X b tb ∧ ∀ (σ : L2.St) (H G : Hp) (s s' : DS) (c : Pl) (Q : VK), Sta X.K Γ σ H G s → fBin f g s = some (c, s') →
      (∀ v H' G', Sta X.K Γ σ H' G' s' → Stp Γ σ H G s H' G' s' → Got X.K Γ H H' G' v c → Q v H') → tOp r ta tb σ H Q := by
  obtain ⟨ta, tb, ha, hb, k⟩ := h
  refine ⟨ta, tb, ha, hb, fun σ H G s s' c Q S hf hq => ?_⟩
  unfold fBin at hf
  cases h1 : f s with
  | none => rw [h1] at hf; cases hf
  | some q =>
    obtain ⟨x, y, s1⟩ := q
    rw [h1, Option.bind_some] at hf
    cases h2 : g x y with
    | none => simp only [h2, Option.map_none] at hf; cases hf
    | some z =>
      simp only [h2, Option.map_some, Option.some.injEq, Prod.mk.injEq] at hf
      obtain ⟨rfl, rfl⟩ := hf
      refine k σ H G s s1 x y _ S h1 fun v w H1 G1 S1 T1 v1 v2 => ?_
      exact ho Γ σ H1 G1 s1 v w x y z Q S1 v1 v2 h2 fun u H2 G2 S2 T2 g2 => hq u H2 G2 S2 (T1.trans T2) (g2.later T1)
theorem pd_op {a b : Expr} {op : Operator} {pos : Pos} {f : DS → Option (Pl × Pl × DS)} {r : R2} {g : Pl → Pl → Option Pl} (h : P2d X Γ a b f) (hr : OpR X (binaryOp op) r) (ho : OpD X r g) :
    PEd X Γ (.BinOp a op b pos) (fBin f g) := by
  obtain ⟨ta, tb, ha, hb, k⟩ := pd_tOp h ho
  exact ⟨_, pe_op hr ha hb, k⟩
theorem pd_cmp {a b : Expr} {op : CmpOp} {pos : Pos} {f : DS → Option (Pl × Pl × DS)} {r : R2} {g : Pl → Pl → Option Pl} (h : P2d X Γ a b f) (hr : OpR X (compareOp op) r) (ho : OpD X r g) (hm : behindInMarks op b = false) :
    PEd X Γ (.Compare a [op] [b] pos) (fBin f g) := by
  obtain ⟨ta, tb, ha, hb, k⟩ := pd_tOp h ho
  exact ⟨_, pe_cmpR hr ha hb hm, k⟩
theorem pd_ix {a b : Expr} {pos : Pos} {f : DS → Option (Pl × Pl × DS)} {r : R2} {g : Pl → Pl → Option Pl} (h : P2d X Γ a b f) (hr : IxR X r) (ho : OpD X r g) (hs : PlainIx b) :
    PEd X Γ (.Subscript a b pos) (fBin f g) := by
  obtain ⟨ta, tb, ha, hb, k⟩ := pd_tOp h ho
  exact ⟨_, pe_ix hr ha hb hs, k⟩

/-! ### constants -/
def fC (r : Pl) : Ef := fun s => some (r, s)
theorem pd_c {e : Expr} {v : V} {r : Pl} (h : PE X e (tC v)) (hr : ∀ H G, SRp X.K Γ.fa H G v r) (ho : r.own = false) : PEd X Γ e (fC r) := by
  refine ⟨_, h, fun σ H G s s' r' Q S hf hq => ?_⟩
  cases hf
  exact hq v H G S .refl ⟨hr H G, fun z => by rw [ho] at z; cases z⟩
theorem pd_int {i : Int} {j pos} : PEd X Γ (.Constant (.int i) j pos) (fC (.val (.int i))) := pd_c pe_int (fun _ _ => .int i) rfl
theorem pd_bl {b : Bool} {j pos} : PEd X Γ (.Constant (.bool b) j pos) (fC (.val (.bool b))) := pd_c pe_bl (fun _ _ => .bl b) rfl
theorem pd_non {j pos} : PEd X Γ (.Constant .none j pos) (fC (.val .none)) := pd_c pe_non (fun _ _ => .non) rfl
theorem pd_str {x : Str} {j pos} : PEd X Γ (.Constant (.str x) j pos) (fC (.val (.str x))) := pd_c pe_str (fun _ _ => .str x) rfl
end
end PD

set_option Elab.async false
set_option linter.all false
set_option maxRecDepth 100000
set_option maxHeartbeats 1000000
/-! PDt: tuples whose objects are known: display, tuple(x), +, slices, *; their methods. -/
namespace PD
open PySem PySem.Spec PyProof.Rows L2
/-- a new tuple -/
def NT (xs : List V) (H : Hp) (Q : VK) : Prop := ∀ p o, H p = none → o.dict = none → Q (.ref p) (upd H p (.frz o (.tup xs)))
section
variable {X : Cx}
theorem laidT {pins : List (Addr × Obj)} {σ : L2.St} {H : Hp} {s : Shared} {xs : List V} {its : List Value} {tk : Nat} {Q : VK} (I : Inv X pins σ H s) (hz : xs.length ≤ sizeLine) (r : Vals xs its) (h : NT xs H Q) :
    EP X pins σ Q (.ref s.heap.objs.size) { s with heap := s.heap.push { cls := .type "tuple", data := .seq its.toArray }, toks := tk } := by
  refine ⟨.ref s.heap.objs.size, _, I.laid (t' := tk) (o := .frz { cls := .type "tuple", data := .seq its.toArray } (.tup xs)) (fun b ob q => Heap.get?_push_of_some _ q) (Nat.le_refl _) ⟨Heap.get?_push_size _ rfl, hz, its, r, IsTup.new _ _⟩, rfl, h _ _ (I.hok.fresh (Nat.le_refl _)) rfl⟩
def tTupF (t : TA) : TE := fun σ H Q => t σ H fun xs H1 => xs.length ≤ sizeLine ∧ NT xs H1 Q
theorem pe_tupF {es : List Expr} {t : TA} {x1 pos} (h : PA X es t) : PE X (.Tuple es x1 pos) (tTupF t) := by
  refine ⟨fun pins s σ H Q I hq => ?_⟩
  exact wpAny_Tuple_spliced (thn (h.run pos pins s σ H _ I hq) fun us s1 ⟨xs, H1, I1, r, z, q⟩ => ⟨by rw [← r.length]; exact z, laidT (tk := s1.toks) I1 z r q⟩)
theorem call_tuple_ofF : CallR X (.type "tuple") (fun xs H Q => ∃ p ys, xs = [.ref p] ∧ ((SqL X.K H p ys ∧ NT ys H Q) ∨ (SqT X.K H p ys ∧ Q (.ref p) H))) := by
  intro pins s σ H xs us Q I r h
  obtain ⟨p, ys, rfl, h⟩ := h
  obtain ⟨u, rfl, rx⟩ := vals1 r
  cases rx
  rcases h with ⟨hq, q⟩ | ⟨hq, q⟩
  · obtain ⟨its, r', pl, hz⟩ := I.list hq
    have hlen := r'.length
    refine call_tuple_list pl.isList (fun h' kp => ?_) (by simp only [List.size_toArray] <;> omega)
    have I1 : Inv X pins σ H { s with heap := h' } := I.kept (t' := s.toks) kp
    exact laidT (tk := s.toks) I1 hz r' q
  · exact call_tuple_of pins s σ H [.ref p] [.ref p] Q I (.cons rfl .nil) ⟨p, ys, rfl, .inr ⟨hq, q⟩⟩
def rCatF (K : PySem.W.Frag) : R2 := fun x y H Q => ∃ a b xs ys, x = .ref a ∧ y = .ref b ∧ SqT K H a xs ∧ SqT K H b ys ∧ xs.length + ys.length ≤ sizeLine ∧
  (xs = [] → Q (.ref b) H) ∧ (xs ≠ [] → ys = [] → Q (.ref a) H) ∧ (xs ≠ [] → ys ≠ [] → NT (xs ++ ys) H Q)
theorem op_catF : OpR X (binaryOp .Add) (rCatF X.K) := by
  intro pins s σ H x y v u Q I rx ry h
  obtain ⟨a, b, xs, ys, rfl, rfl, ha, hb, hz, q0, q1, q2⟩ := h
  cases rx
  cases ry
  obtain ⟨its, r1, p1, _⟩ := I.tuple ha
  obtain ⟨its2, r2, p2, _⟩ := I.tuple hb
  by_cases hx : xs = []
  · subst hx
    cases r1
    exact cat_tup0 p1 p2 ⟨.ref b, H, I, rfl, q0 rfl⟩
  · refine HT.cat_tup p1 p2 (fun z => hx (r1.nil_iff.mp z)) (fun z => ⟨.ref a, H, I, rfl, q1 hx (r2.nil_iff.mp z)⟩) (fun z => ?_) (by rw [← r1.length, ← r2.length]; exact hz)
    exact laidT (tk := s.toks) I (by rw [List.length_append]; exact hz) (r1.append r2) (q2 hx fun w => z (r2.nil_iff.mpr w))
def rSlF (K : PySem.W.Frag) : V → Option Int → Option Int → Hp → VK → Prop := fun x lo hi H Q => ∃ a xs, x = .ref a ∧ SqT K H a xs ∧
  (HT.sIx xs.length 0 lo = 0 ∧ HT.sIx xs.length xs.length hi = xs.length → Q (.ref a) H) ∧ (¬ (HT.sIx xs.length 0 lo = 0 ∧ HT.sIx xs.length xs.length hi = xs.length) → NT (cutV xs lo hi) H Q)
theorem sl_tupF : SlR X (rSlF X.K) := by
  intro pins s σ H x v vl vu lo hi sl Q I rx hs pl pu h
  obtain ⟨a, xs, rfl, hx, q1, q2⟩ := h
  cases rx
  obtain ⟨its, r, ht, hz⟩ := I.tuple hx
  have hlen : its.toArray.size = xs.length := by rw [List.size_toArray]; exact r.length.symm
  refine ⟨"tuple", _, PyProof.Rows.slot_tuple_getitem.lookup, ht.typeIs, ?_⟩
  by_cases hw : HT.sIx xs.length 0 lo = 0 ∧ HT.sIx xs.length xs.length hi = xs.length
  · exact getItem_tuple_whole ht hs pl pu (by rw [hlen]; exact hw) ⟨.ref a, H, I, rfl, q1 hw⟩
  · refine HT.getItem_tuple_cut ht hs pl pu (by rw [hlen]; exact hw) ?_ (by rw [hlen]; exact hz)
    rw [hlen]
    exact laidT (tk := s.toks) I (Nat.le_trans (cutV_length xs lo hi) hz) ((r.drop (HT.sIx xs.length 0 lo)).take (HT.sIx xs.length xs.length hi - HT.sIx xs.length 0 lo)) (q2 hw)

/-! ### a tuple's method -/
def tTM (K : PySem.W.Frag) (r : V → List V → Hp → VK → Prop) (to : TE) (t : TA) : TE := fun σ H Q => to σ H fun x H1 => (∃ a xs, x = .ref a ∧ TupK K H1 a xs) ∧ t σ H1 fun ys H2 => r x ys H2 Q
theorem TupK.plain {pins : List (Addr × Obj)} {σ : L2.St} {H : Hp} {s : Shared} {a : Addr} {xs : List V} (I : Inv X pins σ H s) (h : TupK X.K H a xs) : s.TypeIs (.ref a) "tuple" ∧ ∃ ob, s.heap.get? a = some ob ∧ ob.dict = none := by
  rcases h with ⟨o, h, d⟩ | ⟨o, its, n, h1, h2, h3, _⟩
  · obtain ⟨e, z, its, r, ob, e2, c, _⟩ := I.hok a _ h
    rw [e] at e2
    cases e2
    exact ⟨⟨o, e, c⟩, o, e, d⟩
  · exact ⟨⟨o, I.kIn _ _ h1, h2⟩, o, I.kIn _ _ h1, h3⟩
variable {o e : Expr} {es : List Expr} {to : TE} {t : TA} {name : Str} {apos cpos : Pos} {id : String} {r : V → List V → Hp → VK → Prop}
theorem pe_tm (slot : Slot "tuple" name id) (hty : typeOf (.builtin id) = pure (.type "method_descriptor")) (hm : MtR X id r) (ho : PE X o to) (ha : PA X (e :: es) t)
    (hbase : attributeBase o name X.env (eval o X.env) = eval o X.env := by rfl)
    (hfew : ((backTo cpos (starEach (e :: es) X.env)).all (fun x => !x.1) && (backToKw cpos (keywordEach [] X.env)).all (fun x => x.1.isSome)
      && decide ((e :: es).length + ([] : List Keyword).length + (if ([] : List Keyword).isEmpty then 0 else 1) < 30)) = true := by rfl)
    (hline : (apos.endLine == cpos.line) = true := by rfl) (hs : starEach (e :: es) X.env = (false, eval e X.env) :: starEach es X.env := by rfl) (hplain : (backTo cpos (starEach es X.env)).any (·.1) = false := by rfl) :
    PE X (.Call (.Attribute o name apos) (e :: es) [] cpos) (tTM X.K r to t) := by
  refine ⟨fun pins s σ H Q I h => ?_⟩
  refine wpAny_Call_method_late hbase hfew hline rfl (thn (ho.run pins s σ H _ I h) fun v s1 ⟨x, H1, I1, r1, ty, q1⟩ => ?_)
  obtain ⟨a, xs, rfl, ty⟩ := ty
  cases r1
  obtain ⟨h1, ob, h2, h3⟩ := ty.plain I1
  refine ⟨"tuple", id, PySem.F.plainAttrs_tuple, slot, hty, h1, fun b eb => (by cases eb; exact ⟨ob, h2, h3⟩), ?_⟩
  have hA := ha.run cpos pins s1 σ H1 _ I1 q1
  rw [hs] at hA ⊢
  refine Calls.callWith_builtin (by show (false || (backTo cpos (starEach es X.env)).any (·.1)) = false; rw [hplain] <;> rfl) (Calls.evalArgs_plain ?_)
  exact thn hA fun us s2 ⟨vs, H2, I2, r2, q2⟩ => hm pins s2 σ H2 (.ref a) vs (.ref a) us Q I2 rfl r2 q2
end
end PD

set_option Elab.async false
set_option linter.all false
set_option maxRecDepth 100000
set_option maxHeartbeats 1000000
/-! PDc: new objects; operators on data. -/
namespace PD
open PySem PySem.Spec PyProof.Rows L2
variable [TheW]
section
variable {K : PySem.W.Frag} {Γ : Gm} {σ : L2.St} {H G : Hp} {s : DS}
/-- a new object is laid, not (yet) kept -/
theorem Sta.alloc (S : Sta K Γ σ H G s) {p : Addr} {o : HO} (h : H p = none) (nt : isT o = false := by rfl) : Sta K Γ σ (upd H p o) G s ∧ Stp Γ σ H G s (upd H p o) G s := by
  have sg : Same H (upd H p o) := same_upd' h
  have pf : p ≠ Γ.fa := fun z => by
    obtain ⟨c, h1, _⟩ := S.fd
    rw [z, h1] at h; cases h
  refine ⟨⟨S.sub.trans sg, S.g0, S.fr, fun b x h1 n2 h2 => sg _ _ (S.keep b x h1 n2 h2), S.len, fun i sl e => ?_, S.dis, S.new, ?_, S.tok.put nt, S.tgr.after (none_nt h), S.gnt⟩, ⟨Same.refl _, fun b x _ _ _ e => sg _ _ e, fun _ e => e, fun b e => .inl e, fun b e => ?_, TGr.put (none_nt h)⟩⟩
  · obtain ⟨v, h1, h2⟩ := S.env i sl e
    refine ⟨v, h1, h2.step (Same.refl _) fun ow q hq => ?_⟩
    obtain ⟨q', o', e1, e2, e3, _⟩ := h2.ownP ow
    rw [hq] at e1
    cases e1
    exact ⟨upd_ne (ne_of_none e2 h), e3⟩
  · obtain ⟨c, h1, h2, h3⟩ := S.fd
    exact ⟨c, by rw [upd_ne (Ne.symm pf)]; exact h1, h2, h3⟩
  · cases q : H b with
    | none => exact absurd q e
    | some x => rw [sg _ _ q]; simp
/-- a new object is laid and kept -/
theorem Sta.allocG (S : Sta K Γ σ H G s) {p : Addr} {o : HO} (h : H p = none) (nt : isT o = false := by rfl) : Sta K Γ σ (upd H p o) (upd G p o) s ∧ Stp Γ σ H G s (upd H p o) (upd G p o) s := by
  obtain ⟨A, B⟩ := S.alloc (o := o) h nt
  have gp : G p = none := by
    cases q : G p with
    | none => rfl
    | some x => rw [S.sub _ _ q] at h; cases h
  exact S.adopt A B h upd_same gp nt
theorem Got.new {fa : Addr} {v : V} {d : PyData} {Hs : Hp} (h : Rp K G v d) : Got K Γ Hs H G v (.val d) := ⟨h, fun z => nomatch z⟩
end

section
variable {X : Cx}
def gOr (g g' : Pl → Pl → Option Pl) (a b : Pl) : Option Pl := match g a b with
  | some x => some x
  | none => g' a b
theorem OpD.or {r r' : R2} {g g' : Pl → Pl → Option Pl} (h : OpD X r g) (h' : OpD X r' g') : OpD X (fun x y H Q => r x y H Q ∨ r' x y H Q) (gOr g g') := by
  intro Γ σ H G s v w a b c Q S v1 v2 hg hq
  unfold gOr at hg
  cases e : g a b with
  | none =>
    rw [e] at hg
    exact .inr (h' Γ σ H G s v w a b c Q S v1 v2 hg hq)
  | some x =>
    rw [e] at hg
    cases hg
    exact .inl (h Γ σ H G s v w a b _ Q S v1 v2 e hq)
/-- two ints -/
def gI (C : Int → Int → Bool) (f : Int → Int → PyData) : Pl → Pl → Option Pl
  | .val (.int a), .val (.int b) => if C a b then some (.val (f a b)) else none
  | _, _ => none
theorem od_I {C : Int → Int → Prop} {c : Int → Int → Bool} {f : Int → Int → PyData} {g : Int → Int → V} (hc : ∀ i j, c i j = true → C i j) (hf : ∀ i j K G, Rp K G (g i j) (f i j)) : OpD X (rI C g) (gI c f) := by
  intro Γ σ H G s v w a b r Q S v1 v2 hg hq
  unfold gI at hg
  split at hg
  · rename_i x y
    have e1 : Rp X.K G v (.int x) := v1
    have e2 : Rp X.K G w (.int y) := v2
    cases e1
    cases e2
    by_cases hx : c x y = true
    · rw [if_pos hx] at hg
      cases hg
      exact ⟨x, y, rfl, rfl, hc x y hx, hq _ H G S .refl ⟨hf x y _ _, fun z => nomatch z⟩⟩
    · rw [if_neg hx] at hg; cases hg
  · cases hg
theorem od_I0 {f : Int → Int → PyData} {g : Int → Int → V} (hf : ∀ i j K G, Rp K G (g i j) (f i j)) : OpD X (rI0 g) (gI (fun _ _ => true) f) := by
  intro Γ σ H G s v w a b r Q S v1 v2 hg hq
  obtain ⟨i, j, e1, e2, _, q⟩ := od_I (C := fun _ _ => True) (fun _ _ _ => trivial) hf Γ σ H G s v w a b r Q S v1 v2 hg hq
  exact ⟨i, j, e1, e2, q⟩
/-- two texts -/
def gS (C : Str → Str → Bool) (f : Str → Str → PyData) : Pl → Pl → Option Pl
  | .val (.str a), .val (.str b) => if C a b then some (.val (f a b)) else none
  | _, _ => none
theorem od_S {C : Str → Str → Prop} {c : Str → Str → Bool} {f : Str → Str → PyData} {g : Str → Str → V} (hc : ∀ i j, c i j = true → C i j) (hf : ∀ i j K G, Rp K G (g i j) (f i j)) :
    OpD X (fun x y H Q => ∃ i j, x = .str i ∧ y = .str j ∧ C i j ∧ Q (g i j) H) (gS c f) := by
  intro Γ σ H G s v w a b r Q S v1 v2 hg hq
  unfold gS at hg
  split at hg
  · rename_i x y
    have e1 : Rp X.K G v (.str x) := v1
    have e2 : Rp X.K G w (.str y) := v2
    cases e1
    cases e2
    by_cases hx : c x y = true
    · rw [if_pos hx] at hg
      cases hg
      exact ⟨x, y, rfl, rfl, hc x y hx, hq _ H G S .refl ⟨hf x y _ _, fun z => nomatch z⟩⟩
    · rw [if_neg hx] at hg; cases hg
  · cases hg
theorem od_S0 {f : Str → Str → PyData} {g : Str → Str → V} (hf : ∀ i j K G, Rp K G (g i j) (f i j)) : OpD X (fun x y H Q => ∃ i j, x = .str i ∧ y = .str j ∧ Q (g i j) H) (gS (fun _ _ => true) f) := by
  intro Γ σ H G s v w a b r Q S v1 v2 hg hq
  obtain ⟨i, j, e1, e2, _, q⟩ := od_S (C := fun _ _ => True) (fun _ _ _ => trivial) hf Γ σ H G s v w a b r Q S v1 v2 hg hq
  exact ⟨i, j, e1, e2, q⟩
/-- lists and tuples joined -/
def gCatL : Pl → Pl → Option Pl
  | .val (.list a), .val (.list b) => if a.length + b.length ≤ sizeLine then some (.ownL (a ++ b)) else none
  | _, _ => none
theorem od_cat : OpD X rCat gCatL := by
  intro Γ σ H G s v w a b r Q S v1 v2 hg hq
  unfold gCatL at hg
  split at hg
  · rename_i x y
    obtain ⟨p, vs, rfl, h1, q1⟩ := v1
    obtain ⟨p', ws, rfl, h2, q2⟩ := v2
    by_cases hx : x.length + y.length ≤ sizeLine
    · rw [if_pos hx] at hg
      cases hg
      refine ⟨p, p', vs, ws, rfl, rfl, h1, h2, by rw [q1.length, q2.length]; exact hx, fun n hn => ?_⟩
      obtain ⟨A, B⟩ := S.alloc (o := .lst (vs ++ ws)) hn
      have gp : G n = none := by
        cases q : G n with
        | none => rfl
        | some x => rw [S.sub _ _ q] at hn; cases hn
      have pf : n ≠ Γ.fa := fun z => by
        obtain ⟨c, h1, _⟩ := S.fd
        rw [z, h1] at hn; cases hn
      exact hq _ _ G A B ⟨⟨n, _, rfl, upd_same, gp, pf, q1.append q2⟩, fun _ => ⟨n, rfl, hn⟩⟩
    · rw [if_neg hx] at hg; cases hg
  · cases hg
def gCatT : Pl → Pl → Option Pl
  | .val (.tuple a), .val (.tuple b) => if a.length + b.length ≤ sizeLine then some (.val (.tuple (a ++ b))) else none
  | _, _ => none
theorem Rp.tupI {K : PySem.W.Frag} {G : Hp} {v : V} {ds : List PyData} (h : Rp K G v (.tuple ds)) : ∃ p vs, v = .ref p ∧ TupK K G p vs ∧ RpAll K G vs ds := by
  cases h with
  | tup q r => exact ⟨_, _, rfl, q, r⟩
theorem RpAll.nilI {K : PySem.W.Frag} {G : Hp} {vs : List V} {ds : List PyData} (h : RpAll K G vs ds) : vs = [] ↔ ds = [] := by
  cases h with
  | nil => simp
  | cons q r => simp
theorem od_catT : OpD X (rCatF X.K) gCatT := by
  intro Γ σ H G s v w a b r Q S v1 v2 hg hq
  unfold gCatT at hg
  split at hg
  · rename_i x y
    obtain ⟨p, vs, rfl, h1, q1⟩ := Rp.tupI v1
    obtain ⟨p', ws, rfl, h2, q2⟩ := Rp.tupI v2
    by_cases hx : x.length + y.length ≤ sizeLine
    · rw [if_pos hx] at hg
      cases hg
      refine ⟨p, p', vs, ws, rfl, rfl, (h1.mono S.sub).sqt, (h2.mono S.sub).sqt, by rw [q1.length, q2.length]; exact hx, fun e => ?_, fun _ e => ?_, fun _ _ n ob hn hob => ?_⟩
      · have e' := q1.nilI.mp e
        subst e'
        exact hq _ H G S .refl (.new (fa := Γ.fa) (show Rp X.K G _ (.tuple ([] ++ y)) from v2))
      · have e' := q2.nilI.mp e
        subst e'
        exact hq _ H G S .refl (.new (fa := Γ.fa) (by rw [List.append_nil]; exact v1))
      · obtain ⟨A, B⟩ := S.allocG (o := .frz ob (.tup (vs ++ ws))) hn
        exact hq _ _ _ A B (.new (fa := Γ.fa) (.tup (.inl ⟨ob, upd_same, hob⟩) ((q1.append q2).mono B.gg)))
    · rw [if_neg hx] at hg; cases hg
  · cases hg

/-! ### equality, membership -/
def gEq (neg : Bool) : Pl → Pl → Option Pl
  | .val a, .val b => if SeqAt.shaped a && SeqAt.shaped b then some (.val (.bool (if neg then !PyData.eqv a b else PyData.eqv a b))) else none
  | _, _ => none
theorem od_eqD : OpD X (rEqD X.K) (gEq false) := by
  intro Γ σ H G s v w a b r Q S v1 v2 hg hq
  unfold gEq at hg
  split at hg
  · rename_i x y
    by_cases hx : (SeqAt.shaped x && SeqAt.shaped y) = true
    · rw [if_pos hx] at hg
      cases hg
      obtain ⟨s1, s2⟩ := Bool.and_eq_true_iff.mp hx
      exact ⟨x, y, v1.dp S.sub, v2.dp S.sub, s1, s2, hq _ H G S .refl (.new (fa := Γ.fa) (.bl _))⟩
    · rw [if_neg hx] at hg; cases hg
  · cases hg
theorem od_neD : OpD X (rNeD X.K) (gEq true) := by
  intro Γ σ H G s v w a b r Q S v1 v2 hg hq
  unfold gEq at hg
  split at hg
  · rename_i x y
    by_cases hx : (SeqAt.shaped x && SeqAt.shaped y) = true
    · rw [if_pos hx] at hg
      cases hg
      obtain ⟨s1, s2⟩ := Bool.and_eq_true_iff.mp hx
      exact ⟨x, y, v1.dp S.sub, v2.dp S.sub, s1, s2, hq _ H G S .refl (.new (fa := Γ.fa) (.bl _))⟩
    · rw [if_neg hx] at hg; cases hg
  · cases hg
def rInT (K : PySem.W.Frag) (neg : Bool) : R2 := fun x y H Q => ∃ d ds, Dp K H x d ∧ Dp K H y (.tuple ds) ∧ SeqAt.shaped d = true ∧ SeqAt.shaped (.tuple ds) = true ∧ Q (.bl (if neg then !(ds.any fun z => PyData.eqv z d) else ds.any fun z => PyData.eqv z d)) H
theorem op_inT (hu : X.A.units + 65 < cLine) : OpR X (compareOp .In) (rInT X.K false) := by
  intro pins s σ H x y v u Q I rx ry h
  obtain ⟨d, ds, hd, he, sd, se, q⟩ := h
  obtain ⟨as, r1⟩ := Dp.reads I d x v hd rx
  obtain ⟨bs, r2⟩ := Dp.reads I (.tuple ds) y u he ry
  exact SeqAt.in_tuple_reads r2 r1 (SeqAt.canLay_of_shaped se) (SeqAt.canLay_of_shaped sd) (room_in_shaped sd hu) ⟨.bl _, H, I, rfl, q⟩
theorem op_notInT (hu : X.A.units + 65 < cLine) : OpR X (compareOp .NotIn) (rInT X.K true) := by
  intro pins s σ H x y v u Q I rx ry h
  obtain ⟨d, ds, hd, he, sd, se, q⟩ := h
  obtain ⟨as, r1⟩ := Dp.reads I d x v hd rx
  obtain ⟨bs, r2⟩ := Dp.reads I (.tuple ds) y u he ry
  exact SeqAt.notIn_tuple_reads r2 r1 (SeqAt.canLay_of_shaped se) (SeqAt.canLay_of_shaped sd) (room_in_shaped sd hu) ⟨.bl _, H, I, rfl, q⟩
def gInL (neg : Bool) : Pl → Pl → Option Pl
  | .val a, .val (.list b) => if SeqAt.shaped a && SeqAt.shaped (.list b) then some (.val (.bool (if neg then !(b.any fun z => PyData.eqv z a) else b.any fun z => PyData.eqv z a))) else none
  | _, _ => none
def gInT (neg : Bool) : Pl → Pl → Option Pl
  | .val a, .val (.tuple b) => if SeqAt.shaped a && SeqAt.shaped (.tuple b) then some (.val (.bool (if neg then !(b.any fun z => PyData.eqv z a) else b.any fun z => PyData.eqv z a))) else none
  | _, _ => none
theorem od_inT {neg : Bool} : OpD X (rInT X.K neg) (gInT neg) := by
  intro Γ σ H G s v w a b r Q S v1 v2 hg hq
  unfold gInT at hg
  split at hg
  · rename_i x y
    by_cases hx : (SeqAt.shaped x && SeqAt.shaped (.tuple y)) = true
    · rw [if_pos hx] at hg
      cases hg
      obtain ⟨s1, s2⟩ := Bool.and_eq_true_iff.mp hx
      exact ⟨x, y, v1.dp S.sub, v2.dp S.sub, s1, s2, hq _ H G S .refl (.new (fa := Γ.fa) (.bl _))⟩
    · rw [if_neg hx] at hg; cases hg
  · cases hg
theorem od_inL : OpD X (rInD X.K) (gInL false) := by
  intro Γ σ H G s v w a b r Q S v1 v2 hg hq
  unfold gInL at hg
  split at hg
  · rename_i x y
    by_cases hx : (SeqAt.shaped x && SeqAt.shaped (.list y)) = true
    · rw [if_pos hx] at hg
      cases hg
      obtain ⟨s1, s2⟩ := Bool.and_eq_true_iff.mp hx
      exact ⟨x, y, v1.dp S.sub, v2.dp S.sub, s1, s2, hq _ H G S .refl (.new (fa := Γ.fa) (.bl _))⟩
    · rw [if_neg hx] at hg; cases hg
  · cases hg
theorem od_notInL : OpD X (rNotInD X.K) (gInL true) := by
  intro Γ σ H G s v w a b r Q S v1 v2 hg hq
  unfold gInL at hg
  split at hg
  · rename_i x y
    by_cases hx : (SeqAt.shaped x && SeqAt.shaped (.list y)) = true
    · rw [if_pos hx] at hg
      cases hg
      obtain ⟨s1, s2⟩ := Bool.and_eq_true_iff.mp hx
      exact ⟨x, y, v1.dp S.sub, v2.dp S.sub, s1, s2, hq _ H G S .refl (.new (fa := Γ.fa) (.bl _))⟩
    · rw [if_neg hx] at hg; cases hg
  · cases hg
/-- a key of a dict as data -/
def keyD : PyData → Option Key
  | .int i => some (.inl i)
  | .str x => some (.inr x)
  | _ => none
def lookD (kvs : List (Key × PyData)) (k : Key) : Option PyData := (kvs.find? fun kv => decide (kv.1 = k)).map (·.2)
def putD (kvs : List (Key × PyData)) (k : Key) (v : PyData) : List (Key × PyData) := if (kvs.any fun kv => decide (kv.1 = k)) = true then kvs.map (fun kv => if kv.1 = k then (kv.1, v) else kv) else kvs ++ [(k, v)]
theorem Rp.keyI {K : PySem.W.Frag} {G : Hp} {v : V} {d : PyData} {k : Key} (h : Rp K G v d) (e : keyD d = some k) : v = kV k := by
  cases d with
  | int i => cases e; cases h; rfl
  | str x => cases e; cases h; rfl
  | none => cases e
  | bool b => cases e
  | list xs => cases e
  | tuple xs => cases e
  | dict xs => cases e
theorem KVRp.look {K : PySem.W.Frag} {G : Hp} {k : Key} : ∀ {a : List (Key × V)} {b : List (Key × PyData)}, KVRp K G a b → (∀ d, lookD b k = some d → ∃ v, valV a k = some v ∧ Rp K G v d) ∧ (valV a k).isSome = (lookD b k).isSome
  | _, _, .nil => ⟨fun d h => by simp [lookD] at h, rfl⟩
  | p :: r, q :: r', .cons h t => by
    have ih := KVRp.look (k := k) t
    by_cases e : p.1 = k
    · have e' : q.1 = k := h.1.symm.trans e
      have l1 : lookD (q :: r') k = some q.2 := by simp [lookD, List.find?_cons, e']
      refine ⟨fun d hd => ?_, ?_⟩
      · rw [l1] at hd
        cases hd
        exact ⟨p.2, valV_pos e, h.2⟩
      · rw [valV_pos e, l1]; rfl
    · have e' : ¬ q.1 = k := fun z => e (h.1.trans z)
      have l1 : lookD (q :: r') k = lookD r' k := by simp [lookD, List.find?_cons, e']
      rw [l1, valV_neg e]
      exact ih
theorem KVRp.any {K : PySem.W.Frag} {G : Hp} {k : Key} : ∀ {a : List (Key × V)} {b : List (Key × PyData)}, KVRp K G a b → (a.any fun kv => decide (kv.1 = k)) = b.any fun kv => decide (kv.1 = k)
  | _, _, .nil => rfl
  | p :: r, q :: r', .cons h t => by rw [List.any_cons, List.any_cons, KVRp.any t, h.1]
theorem KVRp.map {K : PySem.W.Frag} {G : Hp} {k : Key} {v : V} {d : PyData} (hv : Rp K G v d) : ∀ {a : List (Key × V)} {b : List (Key × PyData)}, KVRp K G a b → KVRp K G (a.map fun kv => if kv.1 = k then (kv.1, v) else kv) (b.map fun kv => if kv.1 = k then (kv.1, d) else kv)
  | _, _, .nil => .nil
  | p :: r, q :: r', .cons h t => by
    rw [List.map_cons, List.map_cons]
    refine .cons ?_ (KVRp.map hv t)
    by_cases e : p.1 = k
    · rw [if_pos e, if_pos (h.1.symm.trans e)]; exact ⟨h.1, hv⟩
    · rw [if_neg e, if_neg (fun z => e (h.1.trans z))]; exact h
theorem KVRp.append {K : PySem.W.Frag} {G : Hp} : ∀ {a c : List (Key × V)} {b e : List (Key × PyData)}, KVRp K G a b → KVRp K G c e → KVRp K G (a ++ c) (b ++ e)
  | _, _, _, _, .nil, s => s
  | _, _, _, _, .cons h t, s => .cons h (KVRp.append t s)
theorem KVRp.put {K : PySem.W.Frag} {G : Hp} {k : Key} {v : V} {d : PyData} (hv : Rp K G v d) {a : List (Key × V)} {b : List (Key × PyData)} (h : KVRp K G a b) : KVRp K G (putK a k v) (putD b k d) := by
  unfold putK putD
  rw [h.any]
  split
  · exact h.map hv
  · exact h.append (.cons ⟨rfl, hv⟩ .nil)
theorem KVRp.length {K : PySem.W.Frag} {G : Hp} {a : List (Key × V)} {b : List (Key × PyData)} (h : KVRp K G a b) : a.length = b.length := Paired.length h
end
end PD

set_option Elab.async false
set_option linter.all false
set_option maxRecDepth 100000
set_option maxHeartbeats 1000000
/-! PDd: argument lists, displays, items, slices, builtins of one argument, tests. -/
namespace PD
open PySem PySem.Spec PyProof.Rows L2
variable [TheW]
inductive SAll (K : PySem.W.Frag) (fa : Addr) (H G : Hp) : List V → List Pl → Prop
  | nil : SAll K fa H G [] []
  | cons {v : V} {vs : List V} {a : Pl} {as : List Pl} : SRp K fa H G v a → a.own = false → SAll K fa H G vs as → SAll K fa H G (v :: vs) (a :: as)
theorem SAll.mono {K : PySem.W.Frag} {fa : Addr} {H G H' G' : Hp} (hg : Same G G') : ∀ {vs : List V} {as : List Pl}, SAll K fa H G vs as → SAll K fa H' G' vs as
  | _, _, .nil => .nil
  | _, _, .cons a n r => .cons (a.step hg fun z => by rw [n] at z; cases z) n (SAll.mono hg r)
theorem SAll.length {K : PySem.W.Frag} {fa : Addr} {H G : Hp} : ∀ {vs : List V} {as : List Pl}, SAll K fa H G vs as → vs.length = as.length
  | _, _, .nil => rfl
  | _, _, .cons _ _ r => congrArg (· + 1) (SAll.length r)
def valsOf : List Pl → Option (List PyData)
  | [] => some []
  | .val d :: r => (valsOf r).map (d :: ·)
  | _ :: _ => none
theorem SAll.vals {K : PySem.W.Frag} {fa : Addr} {H G : Hp} : ∀ {vs : List V} {as : List Pl} {ds : List PyData}, SAll K fa H G vs as → valsOf as = some ds → RpAll K G vs ds
  | _, _, _, .nil, e => by cases e; exact .nil
  | _, .val d :: r, ds, .cons a _ q, e => by
    unfold valsOf at e
    cases h : valsOf r with
    | none => rw [h] at e; cases e
    | some es => rw [h] at e; cases e; exact .cons a (SAll.vals q h)
  | _, .fd :: _, _, .cons _ _ _, e => by cases e
  | _, .dic _ :: _, _, .cons _ _ _, e => by cases e
  | _, .ownL _ :: _, _, .cons _ _ _, e => by cases e
  | _, .ownK _ :: _, _, .cons _ _ _, e => by cases e
  | _, .dicN _ :: _, _, .cons _ _ _, e => by cases e
  | _, .ownN _ :: _, _, .cons _ _ _, e => by cases e
theorem SRp.fzOf {K : PySem.W.Frag} {fa : Addr} {H G : Hp} {v : V} {r : Pl} (h : SRp K fa H G v (fz r)) : SRp K fa H G v (fz r) ∧ (fz r).own = false := ⟨h, fz_own r⟩

abbrev Af := DS → Option (List Pl × DS)
section
variable {X : Cx} {Γ : Gm}
def PAd (X : Cx) (Γ : Gm) (es : List Expr) (f : Af) : Prop :=
  ∃ t : TA, PA X es t ∧ ∀ (σ : L2.St) (H G : Hp) (s s' : DS) (rs : List Pl) (Q : List V → Hp → Prop), Sta X.K Γ σ H G s → f s = some (rs, s') →
    (∀ vs H' G', Sta X.K Γ σ H' G' s' → Stp Γ σ H G s H' G' s' → SAll X.K Γ.fa H' G' vs rs → Q vs H') → t σ H Q
def aNil : Af := fun s => some ([], s)
def aCons (f : Ef) (g : Af) : Af := fun s => (f s).bind fun (a, s1) => (g s1).bind fun (as, s2) => some (fz a :: as, s2)
theorem pad_nil : PAd X Γ [] aNil := ⟨_, pa_nil, fun σ H G s s' rs Q S hf hq => by cases hf; exact hq [] H G S .refl .nil⟩
theorem pad_cons {e : Expr} {es : List Expr} {f : Ef} {g : Af} (h1 : PEd X Γ e f) (h2 : PAd X Γ es g) (hs : starEach (e :: es) X.env = (false, eval e X.env) :: starEach es X.env := by rfl) : PAd X Γ (e :: es) (aCons f g) := by
  obtain ⟨te, he, ke⟩ := h1
  obtain ⟨ta, ha, ka⟩ := h2
  refine ⟨_, pa_cons he ha hs, fun σ H G s s' rs Q S hf hq => ?_⟩
  unfold aCons at hf
  cases e1 : f s with
  | none => rw [e1] at hf; cases hf
  | some q =>
    obtain ⟨x, s1⟩ := q
    rw [e1, Option.bind_some] at hf
    cases e2 : g s1 with
    | none => simp only [e2, Option.bind_none] at hf; cases hf
    | some q2 =>
      obtain ⟨ys, s2⟩ := q2
      simp only [e2, Option.bind_some, Option.some.injEq, Prod.mk.injEq] at hf
      obtain ⟨rfl, rfl⟩ := hf
      refine ke σ H G s s1 x _ S e1 fun v H1 G1 S1 T1 g1 => ?_
      obtain ⟨G1', S1', T1', r1'⟩ := S.freeze S1 T1 g1
      refine ka σ H1 G1' s1 s2 ys _ S1' e2 fun vs H2 G2 S2 T2 g2 => ?_
      exact hq _ H2 G2 S2 (T1'.trans T2) (.cons (r1'.step T2.gg fun z => by rw [fz_own] at z; cases z) (fz_own x) g2)
/-! ### displays -/
def fTup (g : Af) : Ef := fun s => (g s).bind fun (as, s') => (valsOf as).bind fun ds => if ds.length ≤ sizeLine then some (.val (.tuple ds), s') else none
def fLst (g : Af) : Ef := fun s => (g s).bind fun (as, s') => (valsOf as).bind fun ds => if ds.length ≤ sizeLine then some (.ownL ds, s') else none
theorem Sta.gNone {K : PySem.W.Frag} {Γ : Gm} {σ : L2.St} {H G : Hp} {s : DS} (S : Sta K Γ σ H G s) {n : Addr} (hn : H n = none) : G n = none ∧ n ≠ Γ.fa := by
  refine ⟨?_, fun z => ?_⟩
  · cases q : G n with
    | none => rfl
    | some x => rw [S.sub _ _ q] at hn; cases hn
  · obtain ⟨c, h1, _⟩ := S.fd
    rw [z, h1] at hn; cases hn
/-- a new tuple, a new list, as results -/
theorem newT {K : PySem.W.Frag} {Γ : Gm} {σ : L2.St} {H G : Hp} {s : DS} {vs : List V} {ds : List PyData} {Q : VK} (S : Sta K Γ σ H G s) (r : RpAll K G vs ds)
    (hq : ∀ v H' G', Sta K Γ σ H' G' s → Stp Γ σ H G s H' G' s → Got K Γ H H' G' v (.val (.tuple ds)) → Q v H') : NT vs H Q := fun p o hp ho => by
  obtain ⟨A, B⟩ := S.allocG (o := .frz o (.tup vs)) hp
  exact hq _ _ _ A B (.new (fa := Γ.fa) (.tup (.inl ⟨o, upd_same, ho⟩) (r.mono B.gg)))
theorem newL {K : PySem.W.Frag} {Γ : Gm} {σ : L2.St} {H G : Hp} {s : DS} {vs : List V} {ds : List PyData} {Q : VK} (S : Sta K Γ σ H G s) (r : RpAll K G vs ds)
    (hq : ∀ v H' G', Sta K Γ σ H' G' s → Stp Γ σ H G s H' G' s → Got K Γ H H' G' v (.ownL ds) → Q v H') : ∀ p, H p = none → Q (.ref p) (upd H p (.lst vs)) := fun p hp => by
  obtain ⟨A, B⟩ := S.alloc (o := .lst vs) hp
  obtain ⟨g1, g2⟩ := S.gNone hp
  exact hq _ _ _ A B ⟨⟨p, vs, rfl, upd_same, g1, g2, r⟩, fun _ => ⟨p, rfl, hp⟩⟩
theorem pd_tup {es : List Expr} {g : Af} {x1 pos} (h : PAd X Γ es g) : PEd X Γ (.Tuple es x1 pos) (fTup g) := by
  obtain ⟨t, h, k⟩ := h
  refine ⟨_, pe_tupF h, fun σ H G s s' r Q S hf hq => ?_⟩
  unfold fTup at hf
  cases e1 : g s with
  | none => rw [e1] at hf; cases hf
  | some q =>
    obtain ⟨as, s1⟩ := q
    rw [e1, Option.bind_some] at hf
    cases e2 : valsOf as with
    | none => simp only [e2, Option.bind_none] at hf; cases hf
    | some ds =>
      simp only [e2, Option.bind_some] at hf
      by_cases hz : ds.length ≤ sizeLine
      · rw [if_pos hz] at hf
        cases hf
        refine k σ H G s _ as _ S e1 fun vs H1 G1 S1 T1 g1 => ?_
        have rp := g1.vals e2
        refine ⟨by rw [rp.length]; exact hz, newT S1 rp fun v H2 G2 S2 T2 g2 => hq v H2 G2 S2 (T1.trans T2) (g2.later T1)⟩
      · rw [if_neg hz] at hf; cases hf
theorem pd_lst {es : List Expr} {g : Af} {pos} (h : PAd X Γ es g) : PEd X Γ (.List es pos) (fLst g) := by
  obtain ⟨t, h, k⟩ := h
  refine ⟨_, pe_lst h, fun σ H G s s' r Q S hf hq => ?_⟩
  unfold fLst at hf
  cases e1 : g s with
  | none => rw [e1] at hf; cases hf
  | some q =>
    obtain ⟨as, s1⟩ := q
    rw [e1, Option.bind_some] at hf
    cases e2 : valsOf as with
    | none => simp only [e2, Option.bind_none] at hf; cases hf
    | some ds =>
      simp only [e2, Option.bind_some] at hf
      by_cases hz : ds.length ≤ sizeLine
      · rw [if_pos hz] at hf
        cases hf
        refine k σ H G s _ as _ S e1 fun vs H1 G1 S1 T1 g1 => ?_
        have rp := g1.vals e2
        refine ⟨by rw [rp.length]; exact hz, newL S1 rp fun v H2 G2 S2 T2 g2 => hq v H2 G2 S2 (T1.trans T2) (g2.later T1)⟩
      · rw [if_neg hz] at hf; cases hf

/-! ### items -/
def gIx : Pl → Pl → Option Pl
  | .val (.list ds), .val (.int i) => (atI ds i).map .val
  | .val (.tuple ds), .val (.int i) => (atI ds i).map .val
  | .val (.str z), .val (.int i) => if z.length ≤ sizeLine then (atI z.cps.toList i).map fun c => .val (.str ⟨#[c]⟩) else none
  | _, _ => none
theorem RpAll.atI {K : PySem.W.Frag} {G : Hp} {vs : List V} {ds : List PyData} {i : Int} {d : PyData} (r : RpAll K G vs ds) (h : L2.atI ds i = some d) : ∃ v, L2.atI vs i = some v ∧ Rp K G v d := by
  unfold L2.atI at h ⊢
  rw [r.length]
  cases e : ixN ds.length i with
  | none => rw [e] at h; cases h
  | some j =>
    rw [e, Option.bind_some] at h
    obtain ⟨v, h1, h2⟩ := r.get h
    exact ⟨v, by rw [Option.bind_some]; exact h1, h2⟩
theorem od_ix : OpD X (rIx X.K) gIx := by
  intro Γ σ H G s v w a b r Q S v1 v2 hg hq
  unfold gIx at hg
  split at hg
  · rename_i ds i
    obtain ⟨p, vs, rfl, h1, q1⟩ := v1
    have e2 : Rp X.K G w (.int i) := v2
    cases e2
    cases e : atI ds i with
    | none => rw [e] at hg; cases hg
    | some d =>
      rw [e] at hg
      cases hg
      obtain ⟨x, h3, h4⟩ := q1.atI e
      exact .inl ⟨p, vs, i, x, rfl, rfl, .inl (.inl h1), h3, hq x H G S .refl (.new (fa := Γ.fa) h4)⟩
  · rename_i ds i
    obtain ⟨p, vs, rfl, h1, q1⟩ := Rp.tupI v1
    have e2 : Rp X.K G w (.int i) := v2
    cases e2
    cases e : atI ds i with
    | none => rw [e] at hg; cases hg
    | some d =>
      rw [e] at hg
      cases hg
      obtain ⟨x, h3, h4⟩ := q1.atI e
      exact .inr (.inl ⟨p, vs, i, x, rfl, rfl, (h1.mono S.sub).sqt, h3, hq x H G S .refl (.new (fa := Γ.fa) h4)⟩)
  · rename_i z i
    have e1 : Rp X.K G v (.str z) := v1
    have e2 : Rp X.K G w (.int i) := v2
    cases e1
    cases e2
    by_cases hz : z.length ≤ sizeLine
    · rw [if_pos hz] at hg
      cases e : atI z.cps.toList i with
      | none => rw [e] at hg; cases hg
      | some c =>
        rw [e] at hg
        cases hg
        exact .inr (.inr ⟨z, i, c, rfl, rfl, hz, e, hq _ H G S .refl (.new (fa := Γ.fa) (.str _))⟩)
    · rw [if_neg hz] at hg; cases hg
  · cases hg
/-- d[k] -/
def rDG : R2 := fun x y H Q => ∃ a v, x = .ref a ∧ DGet H a y (some v) ∧ Q v H
def gDG : Pl → Pl → Option Pl
  | .dic kvs, .val d => (keyD d).bind fun k => (lookD kvs k).map .val
  | _, _ => none
theorem od_dg : OpD X rDG gDG := by
  intro Γ σ H G s v w a b r Q S v1 v2 hg hq
  unfold gDG at hg
  split at hg
  · rename_i kvs d
    obtain ⟨p, kv, rfl, h1, q1⟩ := v1
    cases ek : keyD d with
    | none => rw [ek] at hg; cases hg
    | some k =>
      rw [ek, Option.bind_some] at hg
      cases el : lookD kvs k with
      | none => rw [el] at hg; cases hg
      | some x =>
        rw [el] at hg
        cases hg
        obtain ⟨y, hy, ry⟩ := (q1.look (k := k)).1 x el
        have e2 : w = kV k := by
          cases d with
          | int i => exact Rp.keyI v2 ek
          | str z => exact Rp.keyI v2 ek
          | none => cases ek
          | bool z => cases ek
          | list z => cases ek
          | tuple z => cases ek
          | dict z => cases ek
        subst e2
        exact ⟨p, y, rfl, by rw [← hy]; exact DGet.k h1, hq y H G S .refl (.new (fa := Γ.fa) ry)⟩
  · cases hg
def gSub : Pl → Pl → Option Pl := gOr gIx gDG
theorem fBin_or {f : DS → Option (Pl × Pl × DS)} {g g' : Pl → Pl → Option Pl} {s s' : DS} {r : Pl} (h : fBin f (gOr g g') s = some (r, s')) : fBin f g s = some (r, s') ∨ fBin f g' s = some (r, s') := by
  unfold fBin at h ⊢
  cases e : f s with
  | none => rw [e] at h; cases h
  | some q =>
    obtain ⟨a, b, s1⟩ := q
    rw [e, Option.bind_some] at h
    simp only [Option.bind_some] at h ⊢
    unfold gOr at h
    cases e1 : g a b with
    | none => simp only [e1] at h; exact .inr h
    | some c => simp only [e1] at h; exact .inl h
theorem PEd.or {e : Expr} {f g h : Ef} (h1 : PEd X Γ e f) (h2 : PEd X Γ e g) (hh : ∀ s r s', h s = some (r, s') → f s = some (r, s') ∨ g s = some (r, s')) : PEd X Γ e h := by
  obtain ⟨t1, p1, k1⟩ := h1
  obtain ⟨t2, p2, k2⟩ := h2
  refine ⟨fun σ H Q => t1 σ H Q ∨ t2 σ H Q, ⟨fun pins s σ H Q I q => ?_⟩, fun σ H G s s' r Q S hf hq => ?_⟩
  · rcases q with q | q
    · exact p1.run pins s σ H Q I q
    · exact p2.run pins s σ H Q I q
  · rcases hh s r s' hf with e | e
    · exact .inl (k1 σ H G s s' r Q S e hq)
    · exact .inr (k2 σ H G s s' r Q S e hq)
theorem pd_sub {a b : Expr} {pos : Pos} {f : DS → Option (Pl × Pl × DS)} (hu : X.A.units + 1 < cLine) (h : P2d X Γ a b f) (hs : PlainIx b) (hn : NoSl b) : PEd X Γ (.Subscript a b pos) (fBin f gSub) := by
  refine PEd.or (pd_ix h ix_seq od_ix hs) (g := fBin f gDG) ?_ fun s r s' e => fBin_or e
  obtain ⟨ta, tb, ha, hb, k⟩ := pd_tOp (X := X) h od_dg
  exact ⟨_, pe_dget hu ha hb hn, k⟩

/-! ### membership, all kinds -/
def gInS (neg : Bool) : Pl → Pl → Option Pl
  | .val (.str a), .val (.str b) => match a.cps.toList with
    | [c] => some (.val (.bool (if neg then !decide (c ∈ b.cps.toList) else decide (c ∈ b.cps.toList))))
    | _ => none
  | _, _ => none
theorem sign_of {a : Str} {c : Nat} (h : a.cps.toList = [c]) : a = ⟨#[c]⟩ := by
  obtain ⟨x⟩ := a
  have : x = #[c] := by
    apply Array.ext'
    simpa using h
  rw [this]
theorem od_inS : OpD X (fun x y H Q => ∃ (c : Nat) (z : Str), x = .str ⟨#[c]⟩ ∧ y = .str z ∧ Q (.bl (decide (c ∈ z.cps.toList))) H) (gInS false) := by
  intro Γ σ H G s v w a b r Q S v1 v2 hg hq
  unfold gInS at hg
  split at hg
  · rename_i x y
    have e1 : Rp X.K G v (.str x) := v1
    have e2 : Rp X.K G w (.str y) := v2
    cases e1
    cases e2
    split at hg
    · rename_i c hc
      cases hg
      exact ⟨c, y, by rw [sign_of hc], rfl, hq _ H G S .refl (.new (fa := Γ.fa) (.bl _))⟩
    · cases hg
  · cases hg
theorem od_notInS : OpD X (fun x y H Q => ∃ (c : Nat) (z : Str), x = .str ⟨#[c]⟩ ∧ y = .str z ∧ Q (.bl (!decide (c ∈ z.cps.toList))) H) (gInS true) := by
  intro Γ σ H G s v w a b r Q S v1 v2 hg hq
  unfold gInS at hg
  split at hg
  · rename_i x y
    have e1 : Rp X.K G v (.str x) := v1
    have e2 : Rp X.K G w (.str y) := v2
    cases e1
    cases e2
    split at hg
    · rename_i c hc
      cases hg
      exact ⟨c, y, by rw [sign_of hc], rfl, hq _ H G S .refl (.new (fa := Γ.fa) (.bl _))⟩
    · cases hg
  · cases hg
def rDIn (neg : Bool) : R2 := fun y x H Q => ∃ a o, x = .ref a ∧ DGet H a y o ∧ Q (.bl (if neg then !o.isSome else o.isSome)) H
def gDIn (neg : Bool) : Pl → Pl → Option Pl
  | .val d, .dic kvs => (keyD d).map fun k => .val (.bool (if neg then !(lookD kvs k).isSome else (lookD kvs k).isSome))
  | _, _ => none
theorem od_din {neg : Bool} : OpD X (rDIn neg) (gDIn neg) := by
  intro Γ σ H G s v w a b r Q S v1 v2 hg hq
  unfold gDIn at hg
  split at hg
  · rename_i d kvs
    obtain ⟨p, kv, rfl, h1, q1⟩ := v2
    cases ek : keyD d with
    | none => rw [ek] at hg; cases hg
    | some k =>
      rw [ek] at hg
      cases hg
      have e2 : v = kV k := by
        cases d with
        | int i => exact Rp.keyI v1 ek
        | str z => exact Rp.keyI v1 ek
        | none => cases ek
        | bool z => cases ek
        | list z => cases ek
        | tuple z => cases ek
        | dict z => cases ek
      subst e2
      have h5 := (q1.look (k := k)).2
      exact ⟨p, _, rfl, DGet.k h1, by rw [h5]; exact hq _ H G S .refl (.new (fa := Γ.fa) (.bl _))⟩
  · cases hg
def gIn (neg : Bool) : Pl → Pl → Option Pl := gOr (gOr (gInL neg) (gInT neg)) (gOr (gInS neg) (gDIn neg))
theorem pd_in {a b : Expr} {pos : Pos} {f : DS → Option (Pl × Pl × DS)} (hu : X.A.units + 65 < cLine) (h : P2d X Γ a b f) (hm : behindInMarks .In b = false := by rfl) : PEd X Γ (.Compare a [.In] [b] pos) (fBin f (gIn false)) := by
  refine PEd.or (g := fBin f (gOr (gInS false) (gDIn false))) (pd_cmp h ((op_inD hu).or (op_inT hu)) (od_inL.or od_inT) hm) ?_ fun s r s' e => fBin_or e
  refine PEd.or (g := fBin f (gDIn false)) (pd_cmp h op_in_sign od_inS hm) ?_ fun s r s' e => fBin_or e
  obtain ⟨ta, tb, ha, hb, k⟩ := pd_tOp (X := X) h (od_din (neg := false))
  exact ⟨_, pe_cmp (pc_din (by omega) ha hb) hm, k⟩
theorem pd_notIn {a b : Expr} {pos : Pos} {f : DS → Option (Pl × Pl × DS)} (hu : X.A.units + 65 < cLine) (h : P2d X Γ a b f) (hm : behindInMarks .NotIn b = false := by rfl) : PEd X Γ (.Compare a [.NotIn] [b] pos) (fBin f (gIn true)) := by
  refine PEd.or (g := fBin f (gOr (gInS true) (gDIn true))) (pd_cmp h ((op_notInD hu).or (op_notInT hu)) (od_notInL.or od_inT) hm) ?_ fun s r s' e => fBin_or e
  refine PEd.or (g := fBin f (gDIn true)) (pd_cmp h op_notIn_sign od_notInS hm) ?_ fun s r s' e => fBin_or e
  obtain ⟨ta, tb, ha, hb, k⟩ := pd_tOp (X := X) h (od_din (neg := true))
  exact ⟨_, pe_cmp (pc_dnotin (by omega) ha hb) hm, k⟩
end
end PD

set_option Elab.async false
set_option linter.all false
set_option maxRecDepth 100000
set_option maxHeartbeats 1000000
/-! PDe: calls of builtins with one argument, slices, isinstance, tests, and / or / not, choices. -/
namespace PD
open PySem PySem.Spec PyProof.Rows L2
variable [TheW]
section
variable {X : Cx} {Γ : Gm}
/-- what a call does on data -/
def CallD (X : Cx) (r : List V → Hp → VK → Prop) (g : Pl → Option Pl) : Prop :=
  ∀ (Γ : Gm) (σ : L2.St) (H G : Hp) (s : DS) (v : V) (a c : Pl) (Q : VK), Sta X.K Γ σ H G s → View X.K Γ.fa H G v a → g a = some c →
    (∀ u H' G', Sta X.K Γ σ H' G' s → Stp Γ σ H G s H' G' s → Got X.K Γ H H' G' u c → Q u H') → r [v] H Q
def fUn (f : Ef) (g : Pl → Option Pl) : Ef := fun s => (f s).bind fun (a, s') => (g a).map fun c => (c, s')
def gOr1 (g g' : Pl → Option Pl) (a : Pl) : Option Pl := match g a with
  | some x => some x
  | none => g' a
theorem fUn_or {f : Ef} {g g' : Pl → Option Pl} {s s' : DS} {r : Pl} (h : fUn f (gOr1 g g') s = some (r, s')) : fUn f g s = some (r, s') ∨ fUn f g' s = some (r, s') := by
  unfold fUn at h ⊢
  cases e : f s with
  | none => rw [e] at h; cases h
  | some q =>
    obtain ⟨a, s1⟩ := q
    rw [e, Option.bind_some] at h
    simp only [Option.bind_some] at h ⊢
    unfold gOr1 at h
    cases e1 : g a with
    | none => simp only [e1] at h; exact .inr h
    | some c => simp only [e1] at h; exact .inl h
theorem p1_un {e : Expr} {f : Ef} {r : List V → Hp → VK → Prop} {g : Pl → Option Pl} (h : P1d X Γ e f) (hd : CallD X r g) :
    ∃ te : TE, PE X e te ∧ ∀ (σ : L2.St) (H G : Hp) (s s' : DS) (c : Pl) (Q : VK), Sta X.K Γ σ H G s → fUn f g s = some (c, s') →
      (∀ v H' G', Sta X.K Γ σ H' G' s' → Stp Γ σ H G s H' G' s' → Got X.K Γ H H' G' v c → Q v H') → te σ H fun x H1 => r [x] H1 Q := by
  obtain ⟨te, he, k⟩ := h
  refine ⟨te, he, fun σ H G s s' c Q S hf hq => ?_⟩
  unfold fUn at hf
  cases h1 : f s with
  | none => rw [h1] at hf; cases hf
  | some q =>
    obtain ⟨a, s1⟩ := q
    rw [h1, Option.bind_some] at hf
    cases h2 : g a with
    | none => simp only [h2, Option.map_none] at hf; cases hf
    | some z =>
      simp only [h2, Option.map_some, Option.some.injEq, Prod.mk.injEq] at hf
      obtain ⟨rfl, rfl⟩ := hf
      refine k σ H G s _ a _ S h1 fun v H1 G1 S1 T1 v1 => ?_
      exact hd Γ σ H1 G1 _ v a _ Q S1 v1 h2 fun u H2 G2 S2 T2 g2 => hq u H2 G2 S2 (T1.trans T2) (g2.later T1)
theorem pd_callB {e : Expr} {x : Str} {p pos : Pos} {id : String} {f : Ef} {r : List V → Hp → VK → Prop} {g : Pl → Option Pl} (h : P1d X Γ e f) (hc : CallR X (.builtin id) r) (hd : CallD X r g) (hg : Gl X x) (hm : X.mg x = none) (hv : bootBuiltins x = some (.builtin id))
    (hn : x ≠ "__name__" := by decide) (hdb : (x == ("__debug__" : Str)) = false := by decide) (he : starEach [e] X.env = (false, eval e X.env) :: starEach [] X.env := by rfl) (hpl : (backTo pos (starEach [] X.env)).any (·.1) = false := by rfl) :
    PEd X Γ (.Call (.Name x p) [e] [] pos) (fUn f g) := by
  obtain ⟨te, ht, k⟩ := p1_un h hd
  exact ⟨_, pe_callB hc hg hm hv (pa_cons ht pa_nil he) hn hdb he hpl, k⟩
theorem pd_callTy {e : Expr} {x : Str} {p pos : Pos} {T : String} {f : Ef} {r : List V → Hp → VK → Prop} {g : Pl → Option Pl} (h : P1d X Γ e f) (hc : CallR X (.type T) r) (hd : CallD X r g) (hg : Gl X x) (hm : X.mg x = none) (hv : bootBuiltins x = some (.type T))
    (hn : x ≠ "__name__" := by decide) (hdb : (x == ("__debug__" : Str)) = false := by decide) (he : starEach [e] X.env = (false, eval e X.env) :: starEach [] X.env := by rfl) (hpl : (backTo pos (starEach [] X.env)).any (·.1) = false := by rfl) :
    PEd X Γ (.Call (.Name x p) [e] [] pos) (fUn f g) := by
  obtain ⟨te, ht, k⟩ := p1_un h hd
  exact ⟨_, pe_callTy hc hg hm hv (pa_cons ht pa_nil he) hn hdb he hpl, k⟩

/-! ### len -/
def gLenQ : Pl → Option Pl
  | .val (.list ds) => some (.val (.int ds.length))
  | .val (.tuple ds) => some (.val (.int ds.length))
  | _ => none
def gLenS : Pl → Option Pl
  | .val (.str z) => if z.length ≤ sizeLine then some (.val (.int z.length)) else none
  | _ => none
def gLenD : Pl → Option Pl
  | .dic kvs => some (.val (.int kvs.length))
  | _ => none
def gLen : Pl → Option Pl := gOr1 gLenQ (gOr1 gLenS gLenD)
theorem cd_lenQ : CallD X (fun xs H Q => ∃ p ys, xs = [.ref p] ∧ (SqL X.K H p ys ∨ SqT X.K H p ys) ∧ Q (.int ys.length) H) gLenQ := by
  intro Γ σ H G s v a c Q S v1 hg hq
  unfold gLenQ at hg
  split at hg
  · cases hg
    obtain ⟨p, vs, rfl, h1, q1⟩ := v1
    exact ⟨p, vs, rfl, .inl (.inl (.inl h1)), by rw [q1.length]; exact hq _ H G S .refl (.new (fa := Γ.fa) (.int _))⟩
  · cases hg
    obtain ⟨p, vs, rfl, h1, q1⟩ := Rp.tupI v1
    exact ⟨p, vs, rfl, .inr (h1.mono S.sub).sqt, by rw [q1.length]; exact hq _ H G S .refl (.new (fa := Γ.fa) (.int _))⟩
  · cases hg
theorem cd_lenS : CallD X (fun xs H Q => ∃ z, xs = [.str z] ∧ z.length ≤ sizeLine ∧ Q (.int z.length) H) gLenS := by
  intro Γ σ H G s v a c Q S v1 hg hq
  unfold gLenS at hg
  split at hg
  · rename_i z
    have e1 : Rp X.K G v (.str z) := v1
    cases e1
    by_cases hz : z.length ≤ sizeLine
    · rw [if_pos hz] at hg
      cases hg
      exact ⟨z, rfl, hz, hq _ H G S .refl (.new (fa := Γ.fa) (.int _))⟩
    · rw [if_neg hz] at hg; cases hg
  · cases hg
theorem cd_lenD : CallD X (fun xs H Q => ∃ a kvs, xs = [V.ref a] ∧ H a = some (.dK kvs) ∧ Q (.int kvs.length) H) gLenD := by
  intro Γ σ H G s v a c Q S v1 hg hq
  unfold gLenD at hg
  split at hg
  · cases hg
    obtain ⟨p, kv, rfl, h1, q1⟩ := v1
    exact ⟨p, kv, rfl, h1, by rw [q1.length]; exact hq _ H G S .refl (.new (fa := Γ.fa) (.int _))⟩
  · cases hg
theorem pd_len {e : Expr} {p pos : Pos} {f : Ef} (h : P1d X Γ e f) (hg : Gl X "len") (hm : X.mg "len" = none) (he : starEach [e] X.env = (false, eval e X.env) :: starEach [] X.env := by rfl) (hpl : (backTo pos (starEach [] X.env)).any (·.1) = false := by rfl) :
    PEd X Γ (.Call (.Name "len" p) [e] [] pos) (fUn f gLen) := by
  refine PEd.or (pd_callB h call_len_seq cd_lenQ hg hm PySem.boot_len (by decide) (by decide) he hpl) (g := fUn f (gOr1 gLenS gLenD)) ?_ fun s r s' e => fUn_or e
  exact PEd.or (pd_callB h call_len_str cd_lenS hg hm PySem.boot_len (by decide) (by decide) he hpl) (pd_callB h call_lenD cd_lenD hg hm PySem.boot_len (by decide) (by decide) he hpl) fun s r s' e => fUn_or e

/-! ### tuple(x), list(x) -/
def gTupleOf : Pl → Option Pl
  | .val (.list ds) => some (.val (.tuple ds))
  | .val (.tuple ds) => some (.val (.tuple ds))
  | _ => none
theorem cd_tupleOf : CallD X (fun xs H Q => ∃ p ys, xs = [.ref p] ∧ ((SqL X.K H p ys ∧ NT ys H Q) ∨ (SqT X.K H p ys ∧ Q (.ref p) H))) gTupleOf := by
  intro Γ σ H G s v a c Q S v1 hg hq
  unfold gTupleOf at hg
  split at hg
  · cases hg
    obtain ⟨p, vs, rfl, h1, q1⟩ := v1
    exact ⟨p, vs, rfl, .inl ⟨.inl (.inl h1), newT S q1 hq⟩⟩
  · cases hg
    obtain ⟨p, vs, rfl, h1, q1⟩ := Rp.tupI v1
    exact ⟨p, vs, rfl, .inr ⟨(h1.mono S.sub).sqt, hq _ H G S .refl (.new (fa := Γ.fa) v1)⟩⟩
  · cases hg
def gListOf : Pl → Option Pl
  | .val (.list ds) => some (.ownL ds)
  | .val (.tuple ds) => some (.ownL ds)
  | _ => none
theorem cd_listOf : CallD X (fun xs H Q => ∃ p ys, xs = [.ref p] ∧ (SqL X.K H p ys ∨ SqT X.K H p ys) ∧ ∀ l, H l = none → Q (.ref l) (upd H l (.lst ys))) gListOf := by
  intro Γ σ H G s v a c Q S v1 hg hq
  unfold gListOf at hg
  split at hg
  · cases hg
    obtain ⟨p, vs, rfl, h1, q1⟩ := v1
    exact ⟨p, vs, rfl, .inl (.inl (.inl h1)), newL S q1 hq⟩
  · cases hg
    obtain ⟨p, vs, rfl, h1, q1⟩ := Rp.tupI v1
    exact ⟨p, vs, rfl, .inr (h1.mono S.sub).sqt, newL S q1 hq⟩
  · cases hg
/-- list(d): its keys -/
def kD : Key → PyData
  | .inl i => .int i
  | .inr x => .str x
def gListD : Pl → Option Pl
  | .dic kvs => some (.ownL (kvs.map fun kv => kD kv.1))
  | _ => none
theorem RpAll.keys {K : PySem.W.Frag} {G : Hp} : ∀ {a : List (Key × V)} {b : List (Key × PyData)}, KVRp K G a b → RpAll K G (a.map fun kv => kV kv.1) (b.map fun kv => kD kv.1)
  | _, _, .nil => .nil
  | p :: r, q :: r', .cons h t => by
    refine .cons ?_ (RpAll.keys t)
    show Rp K G (kV p.1) (kD q.1)
    rw [h.1]
    cases q.1 with
    | inl i => exact .int i
    | inr x => exact .str x
theorem cd_listD : CallD X (fun xs H Q => ∃ (a : Addr) (kvs : List (Key × V)), xs = [.ref a] ∧ Rd H a (.dK kvs) ∧ ∀ p, H p = none → Q (.ref p) (upd H p (.lst (kvs.map fun kv => kV kv.1)))) gListD := by
  intro Γ σ H G s v a c Q S v1 hg hq
  unfold gListD at hg
  split at hg
  · cases hg
    obtain ⟨p, kv, rfl, h1, q1⟩ := v1
    exact ⟨p, kv, rfl, .inl h1, newL S (RpAll.keys q1) hq⟩
  · cases hg
theorem pd_tupleOf {e : Expr} {p pos : Pos} {f : Ef} (h : P1d X Γ e f) (hg : Gl X "tuple") (hm : X.mg "tuple" = none) (he : starEach [e] X.env = (false, eval e X.env) :: starEach [] X.env := by rfl) (hpl : (backTo pos (starEach [] X.env)).any (·.1) = false := by rfl) :
    PEd X Γ (.Call (.Name "tuple" p) [e] [] pos) (fUn f gTupleOf) := pd_callTy h call_tuple_ofF cd_tupleOf hg hm boot_tuple (by decide) (by decide) he hpl
def gList : Pl → Option Pl := gOr1 gListOf gListD
theorem pd_listOf {e : Expr} {p pos : Pos} {f : Ef} (hc : X.calm = true) (h : P1d X Γ e f) (hg : Gl X "list") (hm : X.mg "list" = none) (he : starEach [e] X.env = (false, eval e X.env) :: starEach [] X.env := by rfl) (hpl : (backTo pos (starEach [] X.env)).any (·.1) = false := by rfl) :
    PEd X Γ (.Call (.Name "list" p) [e] [] pos) (fUn f gList) :=
  PEd.or (pd_callTy h call_list_of cd_listOf hg hm boot_list (by decide) (by decide) he hpl) (pd_callTy h (call_listD hc) cd_listD hg hm boot_list (by decide) (by decide) he hpl) fun s r s' e => fUn_or e

/-! ### all, any of a list of bools -/
def boolsOf : List PyData → Option (List Bool)
  | [] => some []
  | .bool b :: r => (boolsOf r).map (b :: ·)
  | _ :: _ => none
theorem boolsOf_map : ∀ {ds : List PyData} {bs : List Bool}, boolsOf ds = some bs → ds = bs.map PyData.bool
  | [], bs, h => by cases h; rfl
  | .bool b :: r, bs, h => by
    unfold boolsOf at h
    cases e : boolsOf r with
    | none => rw [e] at h; cases h
    | some cs => rw [e] at h; cases h; rw [boolsOf_map e]; rfl
  | .none :: _, _, h => by cases h
  | .int _ :: _, _, h => by cases h
  | .str _ :: _, _, h => by cases h
  | .list _ :: _, _, h => by cases h
  | .tuple _ :: _, _, h => by cases h
  | .dict _ :: _, _, h => by cases h
omit [TheW] in
theorem boolsOf_bools : ∀ bs : List Bool, boolsOf (bs.map PyData.bool) = some bs
  | [] => rfl
  | b :: r => by simp [boolsOf, boolsOf_bools r]
def gBools (g : List Bool → Bool) : Pl → Option Pl
  | .val (.list ds) => (boolsOf ds).map fun bs => .val (.bool (g bs))
  | _ => none
theorem cd_all : CallD X (rAll X.K) (gBools (·.all id)) := by
  intro Γ σ H G s v a c Q S v1 hg hq
  unfold gBools at hg
  split at hg
  · rename_i ds
    cases e : boolsOf ds with
    | none => rw [e] at hg; cases hg
    | some bs =>
      rw [e] at hg
      cases hg
      obtain ⟨p, vs, rfl, h1, q1⟩ := v1
      rw [boolsOf_map e] at q1
      exact ⟨p, bs, rfl, .inl (.inl (by rw [h1, q1.bools])), hq _ H G S .refl (.new (fa := Γ.fa) (.bl _))⟩
  · cases hg
theorem cd_any : CallD X (rAny X.K) (gBools (·.any id)) := by
  intro Γ σ H G s v a c Q S v1 hg hq
  unfold gBools at hg
  split at hg
  · rename_i ds
    cases e : boolsOf ds with
    | none => rw [e] at hg; cases hg
    | some bs =>
      rw [e] at hg
      cases hg
      obtain ⟨p, vs, rfl, h1, q1⟩ := v1
      rw [boolsOf_map e] at q1
      exact ⟨p, bs, rfl, .inl (.inl (by rw [h1, q1.bools])), hq _ H G S .refl (.new (fa := Γ.fa) (.bl _))⟩
  · cases hg
/-! ### max, min of ints -/
def intsOf : List PyData → Option (List Int)
  | [] => some []
  | .int b :: r => (intsOf r).map (b :: ·)
  | _ :: _ => none
theorem intsOf_map : ∀ {ds : List PyData} {bs : List Int}, intsOf ds = some bs → ds = bs.map PyData.int
  | [], bs, h => by cases h; rfl
  | .int b :: r, bs, h => by
    unfold intsOf at h
    cases e : intsOf r with
    | none => rw [e] at h; cases h
    | some cs => rw [e] at h; cases h; rw [intsOf_map e]; rfl
  | .none :: _, _, h => by cases h
  | .bool _ :: _, _, h => by cases h
  | .str _ :: _, _, h => by cases h
  | .list _ :: _, _, h => by cases h
  | .tuple _ :: _, _, h => by cases h
  | .dict _ :: _, _, h => by cases h
omit [TheW] in
theorem intsOf_ints : ∀ bs : List Int, intsOf (bs.map PyData.int) = some bs
  | [] => rfl
  | b :: r => by simp [intsOf, intsOf_ints r]
def maxI : List Int → Option Int
  | [] => none
  | a :: r => some (r.foldl max a)
def minI : List Int → Option Int
  | [] => none
  | a :: r => some (r.foldl min a)
theorem foldl_max_le : ∀ (r : List Int) (a y : Int), (y = a ∨ y ∈ r) → y ≤ r.foldl max a
  | [], a, y, h => by
    rcases h with h | h
    · rw [h]; exact Int.le_refl _
    · cases h
  | b :: r, a, y, h => by
    rw [List.foldl_cons]
    rcases h with h | h
    · exact Int.le_trans (by rw [h]; omega) (foldl_max_le r (max a b) _ (.inl rfl))
    · rcases List.mem_cons.mp h with h | h
      · exact Int.le_trans (by rw [h]; omega) (foldl_max_le r (max a b) _ (.inl rfl))
      · exact foldl_max_le r _ y (.inr h)
omit [TheW] in
theorem foldl_max_mem : ∀ (r : List Int) (a : Int), r.foldl max a = a ∨ r.foldl max a ∈ r
  | [], a => .inl rfl
  | b :: r, a => by
    rw [List.foldl_cons]
    rcases foldl_max_mem r (max a b) with h | h
    · by_cases z : a ≤ b
      · exact .inr (by rw [h, Int.max_eq_right z]; exact List.mem_cons_self)
      · exact .inl (by rw [h, Int.max_eq_left (by omega)])
    · exact .inr (List.mem_cons_of_mem _ h)
theorem foldl_min_le : ∀ (r : List Int) (a y : Int), (y = a ∨ y ∈ r) → r.foldl min a ≤ y
  | [], a, y, h => by
    rcases h with h | h
    · rw [h]; exact Int.le_refl _
    · cases h
  | b :: r, a, y, h => by
    rw [List.foldl_cons]
    rcases h with h | h
    · exact Int.le_trans (foldl_min_le r (min a b) _ (.inl rfl)) (by rw [h]; omega)
    · rcases List.mem_cons.mp h with h | h
      · exact Int.le_trans (foldl_min_le r (min a b) _ (.inl rfl)) (by rw [h]; omega)
      · exact foldl_min_le r _ y (.inr h)
omit [TheW] in
theorem foldl_min_mem : ∀ (r : List Int) (a : Int), r.foldl min a = a ∨ r.foldl min a ∈ r
  | [], a => .inl rfl
  | b :: r, a => by
    rw [List.foldl_cons]
    rcases foldl_min_mem r (min a b) with h | h
    · by_cases z : a ≤ b
      · exact .inl (by rw [h, Int.min_eq_left z])
      · exact .inr (by rw [h, Int.min_eq_right (by omega)]; exact List.mem_cons_self)
    · exact .inr (List.mem_cons_of_mem _ h)
theorem maxI_of {ns : List Int} {m : Int} (h1 : m ∈ ns) (h2 : ∀ y, y ∈ ns → y ≤ m) : maxI ns = some m := by
  cases ns with
  | nil => cases h1
  | cons a r =>
    have h3 := foldl_max_le r a m (by rcases List.mem_cons.mp h1 with z | z; exact .inl z; exact .inr z)
    have h4 : r.foldl max a ≤ m := h2 _ (by rcases foldl_max_mem r a with z | z; rw [z]; exact List.mem_cons_self; exact List.mem_cons_of_mem _ z)
    show some (r.foldl max a) = some m
    rw [Int.le_antisymm h4 h3]
theorem minI_of {ns : List Int} {m : Int} (h1 : m ∈ ns) (h2 : ∀ y, y ∈ ns → m ≤ y) : minI ns = some m := by
  cases ns with
  | nil => cases h1
  | cons a r =>
    have h3 := foldl_min_le r a m (by rcases List.mem_cons.mp h1 with z | z; exact .inl z; exact .inr z)
    have h4 : m ≤ r.foldl min a := h2 _ (by rcases foldl_min_mem r a with z | z; rw [z]; exact List.mem_cons_self; exact List.mem_cons_of_mem _ z)
    show some (r.foldl min a) = some m
    rw [Int.le_antisymm h3 h4]
def gExtL (g : List Int → Option Int) : Pl → Option Pl
  | .val (.list ds) => (intsOf ds).bind fun ns => (g ns).map fun m => .val (.int m)
  | _ => none
theorem cd_maxL : CallD X (rMax X.K) (gExtL maxI) := by
  intro Γ σ H G s v a c Q S v1 hg hq
  unfold gExtL at hg
  split at hg
  · rename_i ds
    cases e : intsOf ds with
    | none => rw [e] at hg; cases hg
    | some ns =>
      rw [e, Option.bind_some] at hg
      obtain ⟨p, vs, rfl, h1, q1⟩ := v1
      rw [intsOf_map e] at q1
      refine ⟨p, ns, rfl, .inl (.inl (by rw [h1, q1.ints])), ?_, fun m m1 m2 => ?_⟩
      · cases ns with
        | nil => cases hg
        | cons => exact Nat.succ_pos _
      · rw [maxI_of m1 m2] at hg
        cases hg
        exact hq _ H G S .refl (.new (fa := Γ.fa) (.int _))
  · cases hg
theorem cd_minL : CallD X (rMin X.K) (gExtL minI) := by
  intro Γ σ H G s v a c Q S v1 hg hq
  unfold gExtL at hg
  split at hg
  · rename_i ds
    cases e : intsOf ds with
    | none => rw [e] at hg; cases hg
    | some ns =>
      rw [e, Option.bind_some] at hg
      obtain ⟨p, vs, rfl, h1, q1⟩ := v1
      rw [intsOf_map e] at q1
      refine ⟨p, ns, rfl, .inl (.inl (by rw [h1, q1.ints])), ?_, fun m m1 m2 => ?_⟩
      · cases ns with
        | nil => cases hg
        | cons => exact Nat.succ_pos _
      · rw [minI_of m1 m2] at hg
        cases hg
        exact hq _ H G S .refl (.new (fa := Γ.fa) (.int _))
  · cases hg
/-! ### int(n) -/
def gInt1 : Pl → Option Pl
  | .val (.int i) => some (.val (.int i))
  | .val (.bool b) => some (.val (.int (if b then 1 else 0)))
  | _ => none
theorem cd_int1 : CallD X (fun xs H Q => (∃ i, xs = [.int i] ∧ Q (.int i) H) ∨ ∃ k, xs = [.bl k] ∧ Q (.int (if k then 1 else 0)) H) gInt1 := by
  intro Γ σ H G s v a c Q S v1 hg hq
  unfold gInt1 at hg
  split at hg
  · rename_i i
    have e1 : Rp X.K G v (.int i) := v1
    cases e1
    cases hg
    exact .inl ⟨i, rfl, hq _ H G S .refl (.new (fa := Γ.fa) (.int _))⟩
  · rename_i b
    have e1 : Rp X.K G v (.bool b) := v1
    cases e1
    cases hg
    exact .inr ⟨b, rfl, hq _ H G S .refl (.new (fa := Γ.fa) (.int _))⟩
  · cases hg
end
end PD

set_option Elab.async false
set_option linter.all false
set_option maxRecDepth 100000
set_option maxHeartbeats 1000000
/-! PDf: sorted; max of a tuple; isinstance; slices; tests; choices. -/
namespace PD
open PySem PySem.Spec PyProof.Rows L2
variable [TheW]
/-! ### the order of texts -/
omit [TheW] in
theorem ltCps_irrefl : ∀ a : List Nat, ltCps a a = false
  | [] => rfl
  | x :: r => by simp [ltCps, ltCps_irrefl r]
omit [TheW] in
theorem ltCps_trans : ∀ a b c : List Nat, ltCps a b = true → ltCps b c = true → ltCps a c = true
  | [], [], _, h, _ => by cases h
  | [], _ :: _, [], _, h => by cases h
  | [], _ :: _, _ :: _, _, _ => rfl
  | _ :: _, [], _, h, _ => by cases h
  | _ :: _, _ :: _, [], _, h => by cases h
  | x :: r, y :: t, z :: u, h1, h2 => by
    have ih := ltCps_trans r t u
    simp only [ltCps, Bool.or_eq_true, decide_eq_true_eq, Bool.and_eq_true, beq_iff_eq] at h1 h2 ⊢
    rcases h1 with h1 | ⟨h1, h1'⟩
    · rcases h2 with h2 | ⟨h2, _⟩
      · exact .inl (by omega)
      · exact .inl (by omega)
    · rcases h2 with h2 | ⟨h2, h2'⟩
      · exact .inl (by omega)
      · exact .inr ⟨by omega, ih h1' h2'⟩
omit [TheW] in
theorem ltCps_asymm (a b : List Nat) (h : ltCps a b = true) : ltCps b a = false := by
  cases e : ltCps b a with
  | false => rfl
  | true => have := ltCps_trans a b a h e; rw [ltCps_irrefl] at this; cases this
omit [TheW] in
theorem ltCps_eq : ∀ a b : List Nat, ltCps a b = false → ltCps b a = false → a = b
  | [], [], _, _ => rfl
  | [], _ :: _, h, _ => by cases h
  | _ :: _, [], _, h => by cases h
  | x :: r, y :: t, h1, h2 => by
    simp only [ltCps, Bool.or_eq_false_iff, decide_eq_false_iff_not, Bool.and_eq_false_iff, beq_eq_false_iff_ne] at h1 h2
    have e : x = y := by omega
    subst e
    rw [ltCps_eq r t (by rcases h1.2 with z | z; exact absurd rfl z; exact z) (by rcases h2.2 with z | z; exact absurd rfl z; exact z)]
omit [TheW] in
theorem str_eq {x y : Str} (h : x.cps.toList = y.cps.toList) : x = y := by
  obtain ⟨a⟩ := x
  obtain ⟨b⟩ := y
  rw [show a = b from Array.ext' h]
def leS (a b : Str) : Bool := !ltCps b.cps.toList a.cps.toList
omit [TheW] in
theorem leS_total (a b : Str) : (leS a b || leS b a) = true := by
  unfold leS
  cases h : ltCps b.cps.toList a.cps.toList with
  | false => rfl
  | true => rw [ltCps_asymm _ _ h]; rfl
omit [TheW] in
theorem leS_trans (a b c : Str) (h1 : leS a b = true) (h2 : leS b c = true) : leS a c = true := by
  unfold leS at *
  cases h : ltCps c.cps.toList a.cps.toList with
  | false => rfl
  | true =>
    simp only [Bool.not_eq_true'] at h1 h2
    -- c < a ≤ b, so c < b or ..
    cases e : ltCps a.cps.toList b.cps.toList with
    | true => rw [ltCps_trans _ _ _ h e] at h2; cases h2
    | false =>
      have := ltCps_eq _ _ e h1
      rw [this] at h
      rw [h] at h2; cases h2
omit [TheW] in
theorem leS_antisymm (a b : Str) (h1 : leS a b = true) (h2 : leS b a = true) : a = b := by
  unfold leS at *
  simp only [Bool.not_eq_true'] at h1 h2
  exact str_eq (ltCps_eq _ _ h2 h1)
omit [TheW] in
theorem rising_pw : ∀ (l : List Str) (p : Str), risingS p l = true → (p :: l).Pairwise (fun a b => leS a b = true)
  | [], p, _ => by simp
  | x :: r, p, h => by
    simp only [risingS, Bool.and_eq_true] at h
    have ih := rising_pw r x h.2
    refine List.pairwise_cons.mpr ⟨fun y hy => ?_, ih⟩
    rcases List.mem_cons.mp hy with z | z
    · rw [z]; exact h.1
    · exact leS_trans _ _ _ h.1 ((List.pairwise_cons.mp ih).1 y z)
omit [TheW] in
theorem sortedS_pw {l : List Str} (h : sortedS l = true) : l.Pairwise (fun a b => leS a b = true) := by
  cases l with
  | nil => exact .nil
  | cons x r => exact rising_pw r x h
def sortS (l : List Str) : List Str := l.mergeSort leS
omit [TheW] in
theorem sortS_of {l ys : List Str} (h1 : ys.Perm l) (h2 : sortedS ys = true) : ys = sortS l :=
  List.Perm.eq_of_pairwise (fun a b _ _ => leS_antisymm a b) (sortedS_pw h2) (List.pairwise_mergeSort leS_trans leS_total l) (h1.trans (List.mergeSort_perm l leS).symm)
def leI (a b : Int) : Bool := decide (a ≤ b)
def sortI (l : List Int) : List Int := l.mergeSort leI
omit [TheW] in
theorem sortI_pw (l : List Int) : (sortI l).Pairwise (· ≤ ·) := by
  have := List.pairwise_mergeSort (le := leI) (fun a b c h1 h2 => by simp [leI] at *; omega) (fun a b => by simp [leI]; omega) l
  exact this.imp fun h => by simpa [leI] using h
omit [TheW] in
theorem sortI_of {l ys : List Int} (h1 : ys.Perm l) (h2 : ys.Pairwise (· ≤ ·)) : ys = sortI l :=
  List.Perm.eq_of_pairwise (fun a b _ _ => Int.le_antisymm) h2 (sortI_pw l) (h1.trans (List.mergeSort_perm l leI).symm)
def strsOf : List PyData → Option (List Str)
  | [] => some []
  | .str b :: r => (strsOf r).map (b :: ·)
  | _ :: _ => none
omit [TheW] in
theorem strsOf_map : ∀ {ds : List PyData} {bs : List Str}, strsOf ds = some bs → ds = bs.map PyData.str
  | [], bs, h => by cases h; rfl
  | .str b :: r, bs, h => by
    unfold strsOf at h
    cases e : strsOf r with
    | none => rw [e] at h; cases h
    | some cs => rw [e] at h; cases h; rw [strsOf_map e]; rfl
  | .none :: _, _, h => by cases h
  | .bool _ :: _, _, h => by cases h
  | .int _ :: _, _, h => by cases h
  | .list _ :: _, _, h => by cases h
  | .tuple _ :: _, _, h => by cases h
  | .dict _ :: _, _, h => by cases h
omit [TheW] in
theorem strsOf_strs : ∀ bs : List Str, strsOf (bs.map PyData.str) = some bs
  | [] => rfl
  | b :: r => by simp [strsOf, strsOf_strs r]
section
variable {X : Cx} {Γ : Gm}
def gSortI : Pl → Option Pl
  | .val (.list ds) => (intsOf ds).bind fun ns => if ns.length < 64 then some (.ownL ((sortI ns).map .int)) else none
  | _ => none
def gSortS : Pl → Option Pl
  | .val (.list ds) => (strsOf ds).bind fun ns => if ns.length < 64 then some (.ownL ((sortS ns).map .str)) else none
  | _ => none
def keysI : List (Key × PyData) → Option (List Int)
  | [] => some []
  | (.inl i, _) :: r => (keysI r).map (i :: ·)
  | _ :: _ => none
omit [TheW] in
theorem keysI_map : ∀ {kvs : List (Key × PyData)} {ks : List Int}, keysI kvs = some ks → kvs.map (·.1) = ks.map Sum.inl
  | [], _, h => by cases h; rfl
  | (.inl i, d) :: r, ks, h => by
    unfold keysI at h
    cases e : keysI r with
    | none => rw [e] at h; cases h
    | some cs => rw [e] at h; cases h; simp [keysI_map e]
  | (.inr _, _) :: _, _, h => by cases h
def gSortD : Pl → Option Pl
  | .dic kvs => (keysI kvs).bind fun ns => if ns.length < 64 then some (.ownL ((sortI ns).map .int)) else none
  | _ => none
theorem cd_sortI : CallD X (rSorted X.K) gSortI := by
  intro Γ σ H G s v a c Q S v1 hg hq
  unfold gSortI at hg
  split at hg
  · rename_i ds
    cases e : intsOf ds with
    | none => rw [e] at hg; cases hg
    | some ns =>
      rw [e, Option.bind_some] at hg
      obtain ⟨p, vs, rfl, h1, q1⟩ := v1
      rw [intsOf_map e] at q1
      by_cases hz : ns.length < 64
      · rw [if_pos hz] at hg
        cases hg
        refine ⟨p, ns, rfl, .inl (.inl (by rw [h1, q1.ints])), hz, fun ys n m1 m2 hn => ?_⟩
        have e2 := sortI_of m1 m2
        subst e2
        exact newL S (RpAll.of_ints _) hq n hn
      · rw [if_neg hz] at hg; cases hg
  · cases hg
theorem cd_sortS : CallD X (rSortedS X.K) gSortS := by
  intro Γ σ H G s v a c Q S v1 hg hq
  unfold gSortS at hg
  split at hg
  · rename_i ds
    cases e : strsOf ds with
    | none => rw [e] at hg; cases hg
    | some ns =>
      rw [e, Option.bind_some] at hg
      obtain ⟨p, vs, rfl, h1, q1⟩ := v1
      rw [strsOf_map e] at q1
      by_cases hz : ns.length < 64
      · rw [if_pos hz] at hg
        cases hg
        refine ⟨p, ns, rfl, .inl (.inl (by rw [h1, q1.strs])), hz, fun ys n m1 m2 hn => ?_⟩
        have e2 := sortS_of m1 m2
        subst e2
        exact newL S (RpAll.of_strs _) hq n hn
      · rw [if_neg hz] at hg; cases hg
  · cases hg
theorem cd_sortD : CallD X (fun xs H Q => ∃ (a : Addr) (kvs : List (Key × V)) (ks : List Int), xs = [.ref a] ∧ Rd H a (.dK kvs) ∧ kvs.map (·.1) = ks.map Sum.inl ∧ ks.length < 64 ∧
    ∀ (ys : List Int) (p : Addr), ys.Perm ks → ys.Pairwise (· ≤ ·) → H p = none → Q (.ref p) (upd H p (.lst (ys.map V.int)))) gSortD := by
  intro Γ σ H G s v a c Q S v1 hg hq
  unfold gSortD at hg
  split at hg
  · rename_i kvs
    cases e : keysI kvs with
    | none => rw [e] at hg; cases hg
    | some ns =>
      rw [e, Option.bind_some] at hg
      obtain ⟨p, kv, rfl, h1, q1⟩ := v1
      have hk : ∀ {a : List (Key × V)} {b : List (Key × PyData)}, KVRp X.K G a b → a.map (·.1) = b.map (·.1) := by
        intro a b h
        induction h with
        | nil => rfl
        | cons h t ih => rw [List.map_cons, List.map_cons, ih, h.1]
      by_cases hz : ns.length < 64
      · rw [if_pos hz] at hg
        cases hg
        refine ⟨p, kv, ns, rfl, .inl h1, by rw [hk q1, keysI_map e], hz, fun ys n m1 m2 hn => ?_⟩
        have e2 := sortI_of m1 m2
        subst e2
        exact newL S (RpAll.of_ints _) hq n hn
      · rw [if_neg hz] at hg; cases hg
  · cases hg
def gSorted : Pl → Option Pl := gOr1 gSortI (gOr1 gSortS gSortD)
theorem pd_sorted {e : Expr} {p pos : Pos} {f : Ef} (hc : X.calm = true) (h : P1d X Γ e f) (hg : Gl X "sorted") (hm : X.mg "sorted" = none) (he : starEach [e] X.env = (false, eval e X.env) :: starEach [] X.env := by rfl) (hpl : (backTo pos (starEach [] X.env)).any (·.1) = false := by rfl) :
    PEd X Γ (.Call (.Name "sorted" p) [e] [] pos) (fUn f gSorted) := by
  refine PEd.or (pd_callB h cr_sorted cd_sortI hg hm boot_sorted (by decide) (by decide) he hpl) (g := fUn f (gOr1 gSortS gSortD)) ?_ fun s r s' e => fUn_or e
  exact PEd.or (pd_callB h cr_sortedS cd_sortS hg hm boot_sorted (by decide) (by decide) he hpl) (pd_callB h (call_sortedDI hc) cd_sortD hg hm boot_sorted (by decide) (by decide) he hpl) fun s r s' e => fUn_or e

/-! ### max, min of a tuple of ints -/
def rMaxT (K : PySem.W.Frag) : List V → Hp → VK → Prop := fun vs H Q => ∃ (a : Addr) (ns : List Int), vs = [V.ref a] ∧ SqT K H a (ns.map V.int) ∧ 0 < ns.length ∧ ∀ m, m ∈ ns → (∀ y, y ∈ ns → y ≤ m) → Q (.int m) H
theorem max_fold (x : Int) (xs : List Int) : PySem.W.maxOf x xs = xs.foldl max x := by
  unfold PySem.W.maxOf
  congr 1
  funext a b
  show (if decide (a < b) = true then b else a) = max a b
  simp only [decide_eq_true_eq]
  split <;> omega
theorem cr_maxT {k : Nat} (hr : Room k X.A) (hc : X.calm = true) : CallR X (.builtin "max") (rMaxT X.K) := by
  intro pins s σ H vs us Q I r h
  obtain ⟨a, ns, rfl, hs, hne, q⟩ := h
  obtain ⟨its, rv, hl, _⟩ := I.tuple hs
  rw [Vals.ref1 r]
  cases ns with
  | nil => cases hne
  | cons x xs =>
    have hu := hr.units
    refine PySem.W.max_tuple_datum (α := Int) (I.ok.hd hc) (x := x) (xs := xs) hl (PySem.W.HoldAll.of_ints rv.ints) (by show X.A.units + 1 + 0 < cLine; omega) fun i v h' tk hi hh hk => ?_
    rw [max_fold] at hh
    have hm : xs.foldl max x ∈ x :: xs := by
      rcases foldl_max_mem xs x with z | z
      · rw [z]; exact List.mem_cons_self
      · exact List.mem_cons_of_mem _ z
    obtain ⟨bs, hb⟩ := hh
    have hv : ∃ t, v = Value.int (xs.foldl max x) t := by
      cases hb with
      | int n t => exact ⟨t, rfl⟩
    obtain ⟨t, rfl⟩ := hv
    exact ⟨.int _, H, I.kept (t' := tk) hk, ⟨_, rfl⟩, q _ hm fun y hy => foldl_max_le xs x y (by rcases List.mem_cons.mp hy with z | z; exact .inl z; exact .inr z)⟩
def gExtT (g : List Int → Option Int) : Pl → Option Pl
  | .val (.tuple ds) => (intsOf ds).bind fun ns => (g ns).map fun m => .val (.int m)
  | _ => none
theorem cd_maxT : CallD X (rMaxT X.K) (gExtT maxI) := by
  intro Γ σ H G s v a c Q S v1 hg hq
  unfold gExtT at hg
  split at hg
  · rename_i ds
    cases e : intsOf ds with
    | none => rw [e] at hg; cases hg
    | some ns =>
      rw [e, Option.bind_some] at hg
      obtain ⟨p, vs, rfl, h1, q1⟩ := Rp.tupI v1
      rw [intsOf_map e] at q1
      refine ⟨p, ns, rfl, by rw [← q1.ints]; exact (h1.mono S.sub).sqt, ?_, fun m m1 m2 => ?_⟩
      · cases ns with
        | nil => cases hg
        | cons => exact Nat.succ_pos _
      · rw [maxI_of m1 m2] at hg
        cases hg
        exact hq _ H G S .refl (.new (fa := Γ.fa) (.int _))
  · cases hg
def gMax : Pl → Option Pl := gOr1 (gExtL maxI) (gExtT maxI)
theorem pd_max {e : Expr} {p pos : Pos} {f : Ef} {k : Nat} (hr : Room k X.A) (hc : X.calm = true) (h : P1d X Γ e f) (hg : Gl X "max") (hm : X.mg "max" = none) (he : starEach [e] X.env = (false, eval e X.env) :: starEach [] X.env := by rfl) (hpl : (backTo pos (starEach [] X.env)).any (·.1) = false := by rfl) :
    PEd X Γ (.Call (.Name "max" p) [e] [] pos) (fUn f gMax) :=
  PEd.or (pd_callB h (cr_max hc) cd_maxL hg hm boot_max (by decide) (by decide) he hpl) (pd_callB h (cr_maxT hr hc) cd_maxT hg hm boot_max (by decide) (by decide) he hpl) fun s r s' e => fUn_or e
theorem pd_min {e : Expr} {p pos : Pos} {f : Ef} (hc : X.calm = true) (h : P1d X Γ e f) (hg : Gl X "min") (hm : X.mg "min" = none) (he : starEach [e] X.env = (false, eval e X.env) :: starEach [] X.env := by rfl) (hpl : (backTo pos (starEach [] X.env)).any (·.1) = false := by rfl) :
    PEd X Γ (.Call (.Name "min" p) [e] [] pos) (fUn f (gExtL minI)) := pd_callB h (cr_min hc) cd_minL hg hm boot_min (by decide) (by decide) he hpl
theorem pd_all {e : Expr} {p pos : Pos} {f : Ef} (hc : X.calm = true) (h : P1d X Γ e f) (hg : Gl X "all") (hm : X.mg "all" = none) (he : starEach [e] X.env = (false, eval e X.env) :: starEach [] X.env := by rfl) (hpl : (backTo pos (starEach [] X.env)).any (·.1) = false := by rfl) :
    PEd X Γ (.Call (.Name "all" p) [e] [] pos) (fUn f (gBools (·.all id))) := pd_callB h (cr_all hc) cd_all hg hm (by decide +kernel) (by decide) (by decide) he hpl
theorem pd_any {e : Expr} {p pos : Pos} {f : Ef} (hc : X.calm = true) (h : P1d X Γ e f) (hg : Gl X "any") (hm : X.mg "any" = none) (he : starEach [e] X.env = (false, eval e X.env) :: starEach [] X.env := by rfl) (hpl : (backTo pos (starEach [] X.env)).any (·.1) = false := by rfl) :
    PEd X Γ (.Call (.Name "any" p) [e] [] pos) (fUn f (gBools (·.any id))) := pd_callB h (cr_any hc) cd_any hg hm (by decide +kernel) (by decide) (by decide) he hpl
theorem pd_int1 {e : Expr} {p pos : Pos} {f : Ef} (h : P1d X Γ e f) (hg : Gl X "int") (hm : X.mg "int" = none) (he : starEach [e] X.env = (false, eval e X.env) :: starEach [] X.env := by rfl) (hpl : (backTo pos (starEach [] X.env)).any (·.1) = false := by rfl) :
    PEd X Γ (.Call (.Name "int" p) [e] [] pos) (fUn f gInt1) := pd_callTy h call_int1 cd_int1 hg hm boot_int (by decide) (by decide) he hpl

/-! ### isinstance(x, T), T a builtin class -/
def tyName : PyData → String
  | .none => "NoneType"
  | .bool _ => "bool"
  | .int _ => "int"
  | .str _ => "str"
  | .list _ => "list"
  | .tuple _ => "tuple"
  | .dict _ => "dict"
def isi (n : String) (d : PyData) : Bool := tyName d == n || (tyName d == "bool" && n == "int")
def rIsiF (K : PySem.W.Frag) (n : String) : V → Hp → VK → Prop := fun x H Q => ∃ (t : String) (b : Bool), (TyX K H x (.type t) ∨ (t = "tuple" ∧ ∃ a o xs, x = .ref a ∧ H a = some (.frz o (.tup xs)))) ∧ kitB t n = some b ∧ Q (.bl b) H
theorem call_isiF {n : String} : CallR X (.builtin "isinstance") (fun xs H Q => ∃ x, xs = [x, .ty n] ∧ rIsiF X.K n x H Q) := by
  intro pins s σ H xs us Q I r h
  obtain ⟨x, rfl, t, b, ty, e, q⟩ := h
  rcases ty with ty | ⟨rfl, a, o, ys, rfl, hf⟩
  · exact call_isi pins s σ H [x, .ty n] us Q I r ⟨x, .ty n, .type t, .type n, b, rfl, .ty n, ty, kit_ty e, q⟩
  · obtain ⟨u1, u2, rfl, r1, r2⟩ := vals2 r
    have e2 := (ClsV.ty n).eq r2
    subst e2
    cases r1
    obtain ⟨_, _, _, _, o2, h1, h2, _⟩ := (show ObjOk X.prog X.w H s.heap a (.frz o (.tup ys)) from I.hok a _ hf)
    exact PySem.W.kia_one PySem.W.kitx_tuple I.kIn ⟨o2, h1, h2⟩ (kit_ty e) (fun z => nomatch z) fun tk => ⟨.bl b, H, I.tok tk, rfl, q⟩
def gIsi (n : String) : Pl → Option Pl
  | .val d => some (.val (.bool (isi n d)))
  | _ => none
theorem kitB_isi : ∀ (n : String), n = "int" ∨ n = "str" ∨ n = "bool" ∨ n = "tuple" ∨ n = "list" → ∀ d : PyData, kitB (tyName d) n = some (isi n d) := by
  intro n hn d
  have base : ∀ t : String, t = "NoneType" ∨ t = "bool" ∨ t = "int" ∨ t = "str" ∨ t = "list" ∨ t = "tuple" ∨ t = "dict" → kitB t n = some (t == n || (t == "bool" && n == "int")) := by
    intro t ht
    rcases hn with rfl | rfl | rfl | rfl | rfl <;> rcases ht with rfl | rfl | rfl | rfl | rfl | rfl | rfl <;> decide +kernel
  unfold isi
  exact base _ (by cases d <;> simp [tyName])
theorem View.ty {K : PySem.W.Frag} {fa : Addr} {H G : Hp} {v : V} {d : PyData} (sub : Same G H) (h : View K fa H G v (.val d)) : TyX K H v (.type (tyName d)) ∨ (tyName d = "tuple" ∧ ∃ a o xs, v = .ref a ∧ H a = some (.frz o (.tup xs))) := by
  cases d with
  | none => cases (show Rp K G v .none from h); exact .inl (.base .non)
  | bool b => cases (show Rp K G v (.bool b) from h); exact .inl (.base (.bl _))
  | int b => cases (show Rp K G v (.int b) from h); exact .inl (.base (.int _))
  | str b => cases (show Rp K G v (.str b) from h); exact .inl (.base (.str _))
  | list ds => obtain ⟨p, vs, rfl, h1, _⟩ := h; exact .inl (.base (.lst h1))
  | tuple ds =>
    obtain ⟨p, vs, rfl, h1, _⟩ := Rp.tupI h
    rcases h1 with ⟨o, h1, _⟩ | ⟨o, its, n, h1, h2, _⟩
    · exact .inr ⟨rfl, p, o, vs, rfl, sub _ _ h1⟩
    · exact .inl (.kTuple h1 h2)
  | dict ds => cases (show Rp K G v (.dict ds) from h)
theorem pd_isi {e : Expr} {n : Str} {T : String} {p pn pos : Pos} {f : Ef} (hT : T = "int" ∨ T = "str" ∨ T = "bool" ∨ T = "tuple" ∨ T = "list") (h : P1d X Γ e f) (hg : Gl X "isinstance") (hm : X.mg "isinstance" = none) (hg2 : Gl X n) (hm2 : X.mg n = none) (hv : bootBuiltins n = some (.type T))
    (hn : n ≠ "__name__" := by decide) (hdb : (n == ("__debug__" : Str)) = false := by decide) (he : starEach [e, .Name n pn] X.env = (false, eval e X.env) :: starEach [.Name n pn] X.env := by rfl) (he2 : starEach [.Name n pn] X.env = (false, eval (.Name n pn) X.env) :: starEach [] X.env := by rfl)
    (hpl : (backTo pos (starEach [.Name n pn] X.env)).any (·.1) = false := by rfl) :
    PEd X Γ (.Call (.Name "isinstance" p) [e, .Name n pn] [] pos) (fUn f (gIsi T)) := by
  obtain ⟨te, ht, k⟩ := h
  refine ⟨_, pe_callB (call_isiF (n := T)) hg hm boot_isinstance (pa_cons ht (pa_cons (pe_bltn (v := .ty T) hg2 hm2 hv rfl hn hdb) pa_nil he2) he) (by decide) (by decide) he hpl, fun σ H G s s' c Q S hf hq => ?_⟩
  unfold fUn at hf
  cases h1 : f s with
  | none => rw [h1] at hf; cases hf
  | some q =>
    obtain ⟨a, s1⟩ := q
    rw [h1, Option.bind_some] at hf
    cases a with
    | val d =>
      simp only [gIsi, Option.map_some, Option.some.injEq, Prod.mk.injEq] at hf
      obtain ⟨rfl, rfl⟩ := hf
      refine k σ H G s _ _ _ S h1 fun v H1 G1 S1 T1 v1 => ?_
      exact ⟨v, rfl, tyName d, isi T d, v1.ty S1.sub, kitB_isi T hT d, hq _ H1 G1 S1 T1 (.new (fa := Γ.fa) (.bl _))⟩
    | fd => cases hf
    | dic k => cases hf
    | ownL k => cases hf
    | ownK k => cases hf
    | ownN k => cases hf
    | dicN k => cases hf
end
end PD

set_option Elab.async false
set_option linter.all false
set_option maxRecDepth 100000
set_option maxHeartbeats 1000000
/-! PDg: tests; comparisons; and, or, not; choices; chains; slices; index. -/
namespace PD
open PySem PySem.Spec PyProof.Rows L2
variable [TheW]
abbrev Bf := DS → Option (Bool × DS)
section
variable {X : Cx} {Γ : Gm}
def PTd (X : Cx) (Γ : Gm) (e : Expr) (f : Bf) : Prop :=
  ∃ t : TT, PT X e t ∧ ∀ (σ : L2.St) (H G : Hp) (s s' : DS) (b : Bool) (Q : Bool → Hp → Prop), Sta X.K Γ σ H G s → f s = some (b, s') →
    (∀ H' G', Sta X.K Γ σ H' G' s' → Stp Γ σ H G s H' G' s' → Q b H') → t σ H Q
def PWd (X : Cx) (Γ : Gm) (e : Expr) (f : Bf) : Prop :=
  ∃ t : TT, PW X e t ∧ ∀ (σ : L2.St) (H G : Hp) (s s' : DS) (b : Bool) (Q : Bool → Hp → Prop), Sta X.K Γ σ H G s → f s = some (b, s') →
    (∀ H' G', Sta X.K Γ σ H' G' s' → Stp Γ σ H G s H' G' s' → Q b H') → t σ H Q
theorem PWd.pt {e : Expr} {f : Bf} (h : PWd X Γ e f) : PTd X Γ e f := by
  obtain ⟨t, p, k⟩ := h
  exact ⟨t, p.pt, k⟩
theorem PTd.or {e : Expr} {f g h : Bf} (h1 : PTd X Γ e f) (h2 : PTd X Γ e g) (hh : ∀ s r s', h s = some (r, s') → f s = some (r, s') ∨ g s = some (r, s')) : PTd X Γ e h := by
  obtain ⟨t1, p1, k1⟩ := h1
  obtain ⟨t2, p2, k2⟩ := h2
  refine ⟨fun σ H Q => t1 σ H Q ∨ t2 σ H Q, ⟨fun pins s σ H Q I q => ?_⟩, fun σ H G s s' r Q S hf hq => ?_⟩
  · rcases q with q | q
    · exact p1.run pins s σ H Q I q
    · exact p2.run pins s σ H Q I q
  · rcases hh s r s' hf with e | e
    · exact .inl (k1 σ H G s s' r Q S e hq)
    · exact .inr (k2 σ H G s s' r Q S e hq)
/-- a bool's value -/
def fB (f : Ef) : Bf := fun s => match f s with
  | some (.val (.bool b), s') => some (b, s')
  | _ => none
theorem fB_some {f : Ef} {s s' : DS} {b : Bool} (h : fB f s = some (b, s')) : f s = some (.val (.bool b), s') := by
  unfold fB at h
  split at h
  · rename_i e; cases h; exact e
  · cases h
theorem fB_or {f f1 f2 : Ef} (hh : ∀ s r s', f s = some (r, s') → f1 s = some (r, s') ∨ f2 s = some (r, s')) : ∀ s r s', fB f s = some (r, s') → fB f1 s = some (r, s') ∨ fB f2 s = some (r, s') := fun s r s' h => by
  rcases hh s _ s' (fB_some h) with e | e
  · exact .inl (by unfold fB; rw [e])
  · exact .inr (by unfold fB; rw [e])
/-- truth -/
def gTru : Pl → Option Bool
  | .val .none => some false
  | .val (.bool b) => some b
  | .val (.int i) => some (i != 0)
  | .val (.str x) => if x.length ≤ sizeLine then some ((x.length : Int) != 0) else none
  | .val (.list ds) => some (!ds.isEmpty)
  | .val (.tuple ds) => some (!ds.isEmpty)
  | .dic kvs => some (!kvs.isEmpty)
  | _ => none
def fTru (f : Ef) : Bf := fun s => (f s).bind fun (a, s') => (gTru a).map fun b => (b, s')
theorem RpAll.isEmpty {K : PySem.W.Frag} {G : Hp} {vs : List V} {ds : List PyData} (h : RpAll K G vs ds) : vs.isEmpty = ds.isEmpty := by
  cases h <;> rfl
theorem KVRp.isEmpty {K : PySem.W.Frag} {G : Hp} {vs : List (Key × V)} {ds : List (Key × PyData)} (h : KVRp K G vs ds) : vs.isEmpty = ds.isEmpty := by
  cases h <;> rfl
theorem View.tru {K : PySem.W.Frag} {fa : Addr} {H G : Hp} {v : V} {r : Pl} {b : Bool} (sub : Same G H) (h : View K fa H G v r) (e : gTru r = some b) : TruV K v H b := by
  cases r with
  | val d =>
    cases d with
    | none => cases (show Rp K G v .none from h); cases e; rfl
    | bool b => cases (show Rp K G v (.bool b) from h); cases e; rfl
    | int b => cases (show Rp K G v (.int b) from h); cases e; rfl
    | str x =>
      cases (show Rp K G v (.str x) from h)
      replace e : (if x.length ≤ sizeLine then some ((x.length : Int) != 0) else none) = some b := e
      by_cases hz : x.length ≤ sizeLine
      · rw [if_pos hz] at e; cases e; exact ⟨hz, rfl⟩
      · rw [if_neg hz] at e; cases e
    | list ds => obtain ⟨p, vs, rfl, h1, q⟩ := h; cases e; exact .inl ⟨vs, .inl (.inl h1), by rw [q.isEmpty]⟩
    | tuple ds => obtain ⟨p, vs, rfl, h1, q⟩ := Rp.tupI h; cases e; exact .inr (.inl ⟨vs, (h1.mono sub).sqt, by rw [q.isEmpty]⟩)
    | dict ds => cases e
  | dic kvs => obtain ⟨p, kv, rfl, h1, q⟩ := h; cases e; exact .inr (.inr ⟨kv, h1, by rw [q.isEmpty]⟩)
  | fd => cases e
  | ownL k => cases e
  | ownK k => cases e
  | ownN k => cases e
  | dicN k => cases e
theorem pt_tru {e : Expr} {f : Ef} (h : P1d X Γ e f) (he : ∀ whole, isTrue e X.env whole = (do let v ← whole; standAt e.pos; holding [v] (truthy v)) := by intro _; rfl) : PTd X Γ e (fTru f) := by
  obtain ⟨t, p, k⟩ := h
  refine ⟨_, pt_truth p he, fun σ H G s s' b Q S hf hq => ?_⟩
  unfold fTru at hf
  cases h1 : f s with
  | none => rw [h1] at hf; cases hf
  | some q =>
    obtain ⟨a, s1⟩ := q
    rw [h1, Option.bind_some] at hf
    cases h2 : gTru a with
    | none => simp only [h2, Option.map_none] at hf; cases hf
    | some z =>
      simp only [h2, Option.map_some, Option.some.injEq, Prod.mk.injEq] at hf
      obtain ⟨rfl, rfl⟩ := hf
      exact k σ H G s _ a _ S h1 fun v H1 G1 S1 T1 v1 => ⟨_, v1.tru S1.sub h2, hq H1 G1 S1 T1⟩

/-! ### comparisons, as values and as tests -/
structure CmpD (X : Cx) (Γ : Gm) (e : Expr) (f : Ef) : Prop where
  v : PEd X Γ e f
  t : PTd X Γ e (fB f)
theorem CmpD.or {e : Expr} {f g h : Ef} (h1 : CmpD X Γ e f) (h2 : CmpD X Γ e g) (hh : ∀ s r s', h s = some (r, s') → f s = some (r, s') ∨ g s = some (r, s')) : CmpD X Γ e h :=
  ⟨PEd.or h1.v h2.v hh, PTd.or h1.t h2.t (fB_or hh)⟩
theorem cd_cmp {a b : Expr} {op : CmpOp} {pos : Pos} {f : DS → Option (Pl × Pl × DS)} {r : R2} {g : Pl → Pl → Option Pl} (h : P2d X Γ a b f) (hr : OpR X (compareOp op) r) (ho : OpD X r g) (hm : behindInMarks op b = false) :
    CmpD X Γ (.Compare a [op] [b] pos) (fBin f g) := by
  refine ⟨pd_cmp h hr ho hm, ?_⟩
  obtain ⟨ta, tb, ha, hb, k⟩ := pd_tOp h ho
  refine ⟨_, pt_cmpR hr ha hb hm, fun σ H G s s' b Q S hf hq => ?_⟩
  refine k σ H G s s' _ _ S (fB_some hf) fun v H1 G1 S1 T1 g1 => ?_
  cases (show Rp X.K G1 v (.bool b) from g1.rp)
  exact ⟨b, rfl, hq H1 G1 S1 T1⟩
theorem cd_pc {a b : Expr} {op : CmpOp} {pos : Pos} {f : DS → Option (Pl × Pl × DS)} {r : R2} {g : Pl → Pl → Option Pl} (h : P2d X Γ a b f) (hr : ∀ {ta tb : TE}, PE X a ta → PE X b tb → PC X op a b (tOp r ta tb)) (ho : OpD X r g) (hm : behindInMarks op b = false) :
    CmpD X Γ (.Compare a [op] [b] pos) (fBin f g) := by
  obtain ⟨ta, tb, ha, hb, k⟩ := pd_tOp h ho
  refine ⟨⟨_, pe_cmp (hr ha hb) hm, k⟩, ⟨_, pt_cmp (hr ha hb) hm, fun σ H G s s' b Q S hf hq => ?_⟩⟩
  refine k σ H G s s' _ _ S (fB_some hf) fun v H1 G1 S1 T1 g1 => ?_
  cases (show Rp X.K G1 v (.bool b) from g1.rp)
  exact ⟨b, rfl, hq H1 G1 S1 T1⟩
variable {a b : Expr} {pos : Pos} {f : DS → Option (Pl × Pl × DS)}
theorem c_in (hu : X.A.units + 65 < cLine) (h : P2d X Γ a b f) (hm : behindInMarks .In b = false := by rfl) : CmpD X Γ (.Compare a [.In] [b] pos) (fBin f (gIn false)) := by
  refine CmpD.or (g := fBin f (gOr (gInS false) (gDIn false))) (cd_cmp h ((op_inD hu).or (op_inT hu)) (od_inL.or od_inT) hm) ?_ fun s r s' e => fBin_or e
  exact CmpD.or (g := fBin f (gDIn false)) (cd_cmp h op_in_sign od_inS hm) (cd_pc h (fun ha hb => pc_din (by omega) ha hb) (od_din (neg := false)) hm) fun s r s' e => fBin_or e
theorem c_notIn (hu : X.A.units + 65 < cLine) (h : P2d X Γ a b f) (hm : behindInMarks .NotIn b = false := by rfl) : CmpD X Γ (.Compare a [.NotIn] [b] pos) (fBin f (gIn true)) := by
  refine CmpD.or (g := fBin f (gOr (gInS true) (gDIn true))) (cd_cmp h ((op_notInD hu).or (op_notInT hu)) (od_notInL.or od_inT) hm) ?_ fun s r s' e => fBin_or e
  exact CmpD.or (g := fBin f (gDIn true)) (cd_cmp h op_notIn_sign od_notInS hm) (cd_pc h (fun ha hb => pc_dnotin (by omega) ha hb) (od_din (neg := true)) hm) fun s r s' e => fBin_or e
theorem c_eq (hu : X.A.units + 64 < cLine) (h : P2d X Γ a b f) : CmpD X Γ (.Compare a [.Eq] [b] pos) (fBin f (gEq false)) := cd_cmp h (op_eqD hu) od_eqD (nomark _)
theorem c_ne (hu : X.A.units + 64 < cLine) (h : P2d X Γ a b f) : CmpD X Γ (.Compare a [.NotEq] [b] pos) (fBin f (gEq true)) := cd_cmp h (op_neD hu) od_neD (nomark _)
def gLt : Pl → Pl → Option Pl := gOr (gI (fun _ _ => true) fun i j => .bool (decide (i < j))) (gS (fun _ _ => true) fun i j => .bool (decide (i.cps.toList < j.cps.toList)))
def gLe : Pl → Pl → Option Pl := gOr (gI (fun _ _ => true) fun i j => .bool (decide (i ≤ j))) (gS (fun _ _ => true) fun i j => .bool (!decide (j.cps.toList < i.cps.toList)))
def gGt : Pl → Pl → Option Pl := gOr (gI (fun _ _ => true) fun i j => .bool (decide (j < i))) (gS (fun _ _ => true) fun i j => .bool (decide (j.cps.toList < i.cps.toList)))
def gGe : Pl → Pl → Option Pl := gOr (gI (fun _ _ => true) fun i j => .bool (decide (j ≤ i))) (gS (fun _ _ => true) fun i j => .bool (!decide (i.cps.toList < j.cps.toList)))
theorem c_lt (h : P2d X Γ a b f) : CmpD X Γ (.Compare a [.Lt] [b] pos) (fBin f gLt) := cd_cmp h (op_lt.or op_lt_str) ((od_I0 fun _ _ _ _ => .bl _).or (od_S0 fun _ _ _ _ => .bl _)) (nomark _)
theorem c_le (h : P2d X Γ a b f) : CmpD X Γ (.Compare a [.LtE] [b] pos) (fBin f gLe) := cd_cmp h (op_le.or op_le_str) ((od_I0 fun _ _ _ _ => .bl _).or (od_S0 fun _ _ _ _ => .bl _)) (nomark _)
theorem c_gt (h : P2d X Γ a b f) : CmpD X Γ (.Compare a [.Gt] [b] pos) (fBin f gGt) := cd_cmp h (op_gt.or op_gt_str) ((od_I0 fun _ _ _ _ => .bl _).or (od_S0 fun _ _ _ _ => .bl _)) (nomark _)
theorem c_ge (h : P2d X Γ a b f) : CmpD X Γ (.Compare a [.GtE] [b] pos) (fBin f gGe) := cd_cmp h (op_ge.or op_ge_str) ((od_I0 fun _ _ _ _ => .bl _).or (od_S0 fun _ _ _ _ => .bl _)) (nomark _)
/-- a is None, a is not None -/
def gIsN (neg : Bool) : Pl → Option Pl
  | .val d => some (.val (.bool (match d with | .none => !neg | _ => neg)))
  | _ => none
theorem View.isN {K : PySem.W.Frag} {fa : Addr} {H G : Hp} {v : V} {d : PyData} (h : View K fa H G v (.val d)) : decide (v = .non) = (match d with | .none => true | _ => false) := by
  cases d with
  | none => cases (show Rp K G v .none from h); rfl
  | bool b => cases (show Rp K G v (.bool b) from h); rfl
  | int b => cases (show Rp K G v (.int b) from h); rfl
  | str x => cases (show Rp K G v (.str x) from h); rfl
  | list ds => obtain ⟨p, vs, rfl, h1, q⟩ := h; rfl
  | tuple ds => obtain ⟨p, vs, rfl, h1, q⟩ := Rp.tupI h; rfl
  | dict ds => cases (show Rp K G v (.dict ds) from h)
theorem c_isN {f : Ef} {j pos'} (h : P1d X Γ a f) : CmpD X Γ (.Compare a [.Is] [.Constant .none j pos'] pos) (fUn f (gIsN false)) := by
  obtain ⟨t, p, k⟩ := h
  have key : ∀ (σ : L2.St) (H G : Hp) (s s' : DS) (c : Pl) (Q : VK), Sta X.K Γ σ H G s → fUn f (gIsN false) s = some (c, s') → (∀ v H' G', Sta X.K Γ σ H' G' s' → Stp Γ σ H G s H' G' s' → Got X.K Γ H H' G' v c → Q v H') → tIsN t σ H Q := fun σ H G s s' c Q S hf hq => by
    unfold fUn at hf
    cases h1 : f s with
    | none => rw [h1] at hf; cases hf
    | some q =>
      obtain ⟨a, s1⟩ := q
      rw [h1, Option.bind_some] at hf
      cases a with
      | val d =>
        simp only [gIsN, Option.map_some, Option.some.injEq, Prod.mk.injEq] at hf
        obtain ⟨rfl, rfl⟩ := hf
        refine k σ H G s _ _ _ S h1 fun v H1 G1 S1 T1 v1 => ?_
        have e := v1.isN
        show Q (.bl (decide (v = .non))) H1
        rw [e]
        refine hq _ H1 G1 S1 T1 (.new (fa := Γ.fa) ?_)
        cases d <;> exact .bl _
      | fd => cases hf
      | dic k => cases hf
      | ownL k => cases hf
      | ownK k => cases hf
      | ownN k => cases hf
      | dicN k => cases hf
  refine ⟨⟨_, pe_cmp (pc_isN p) (nobehind _ (by decide) (by decide)), key⟩, ⟨_, pt_cmp (pc_isN p) (nobehind _ (by decide) (by decide)), fun σ H G s s' b Q S hf hq => ?_⟩⟩
  refine key σ H G s s' _ _ S (fB_some hf) fun v H1 G1 S1 T1 g1 => ?_
  cases (show Rp X.K G1 v (.bool b) from g1.rp)
  exact ⟨b, rfl, hq H1 G1 S1 T1⟩
theorem c_notN {f : Ef} {j pos'} (h : P1d X Γ a f) : CmpD X Γ (.Compare a [.IsNot] [.Constant .none j pos'] pos) (fUn f (gIsN true)) := by
  obtain ⟨t, p, k⟩ := h
  have key : ∀ (σ : L2.St) (H G : Hp) (s s' : DS) (c : Pl) (Q : VK), Sta X.K Γ σ H G s → fUn f (gIsN true) s = some (c, s') → (∀ v H' G', Sta X.K Γ σ H' G' s' → Stp Γ σ H G s H' G' s' → Got X.K Γ H H' G' v c → Q v H') → tNotN t σ H Q := fun σ H G s s' c Q S hf hq => by
    unfold fUn at hf
    cases h1 : f s with
    | none => rw [h1] at hf; cases hf
    | some q =>
      obtain ⟨a, s1⟩ := q
      rw [h1, Option.bind_some] at hf
      cases a with
      | val d =>
        simp only [gIsN, Option.map_some, Option.some.injEq, Prod.mk.injEq] at hf
        obtain ⟨rfl, rfl⟩ := hf
        refine k σ H G s _ _ _ S h1 fun v H1 G1 S1 T1 v1 => ?_
        have e := v1.isN
        show Q (.bl (!decide (v = .non))) H1
        rw [e]
        refine hq _ H1 G1 S1 T1 (.new (fa := Γ.fa) ?_)
        cases d <;> exact .bl _
      | fd => cases hf
      | dic k => cases hf
      | ownL k => cases hf
      | ownK k => cases hf
      | ownN k => cases hf
      | dicN k => cases hf
  refine ⟨⟨_, pe_cmp (pc_notN p) (nobehind _ (by decide) (by decide)), key⟩, ⟨_, pt_cmp (pc_notN p) (nobehind _ (by decide) (by decide)), fun σ H G s s' b Q S hf hq => ?_⟩⟩
  refine key σ H G s s' _ _ S (fB_some hf) fun v H1 G1 S1 T1 g1 => ?_
  cases (show Rp X.K G1 v (.bool b) from g1.rp)
  exact ⟨b, rfl, hq H1 G1 S1 T1⟩
end
end PD

set_option Elab.async false
set_option linter.all false
set_option maxRecDepth 100000
set_option maxHeartbeats 1000000
/-! PDh: and, or, not; choices; chains; slices; index. -/
namespace PD
open PySem PySem.Spec PyProof.Rows L2
variable [TheW]
section
variable {X : Cx} {Γ : Gm} {a b c : Expr} {pos : Pos} {rest : List Expr}
def bAnd (f g : Bf) : Bf := fun s => (f s).bind fun (x, s1) => if x = true then g s1 else some (false, s1)
def bOr (f g : Bf) : Bf := fun s => (f s).bind fun (x, s1) => if x = true then some (true, s1) else g s1
def bNot (f : Bf) : Bf := fun s => (f s).map fun (x, s1) => (!x, s1)
theorem pw_one {op : BoolOp} {f : Bf} (h : PTd X Γ a f) : PWd X Γ (.BoolOp op [a] pos) f := by
  obtain ⟨t, p, k⟩ := h
  cases op with
  | And => exact ⟨t, pw_and1 p, k⟩
  | Or => exact ⟨t, pw_or1 p, k⟩
theorem pwd_and {f g : Bf} (h1 : PTd X Γ a f) (h2 : PWd X Γ (.BoolOp .And (b :: rest) pos) g) : PWd X Γ (.BoolOp .And (a :: b :: rest) pos) (bAnd f g) := by
  obtain ⟨t1, p1, k1⟩ := h1
  obtain ⟨t2, p2, k2⟩ := h2
  refine ⟨_, pw_and p1 p2, fun σ H G s s' r Q S hf hq => ?_⟩
  unfold bAnd at hf
  cases h1 : f s with
  | none => rw [h1] at hf; cases hf
  | some q =>
    obtain ⟨x, s1⟩ := q
    simp only [h1, Option.bind_some] at hf
    refine k1 σ H G s s1 x _ S h1 fun H1 G1 S1 T1 => ?_
    cases x with
    | true =>
      rw [if_pos rfl] at hf ⊢
      exact k2 σ H1 G1 s1 s' r Q S1 hf fun H2 G2 S2 T2 => hq H2 G2 S2 (T1.trans T2)
    | false =>
      rw [if_neg Bool.false_ne_true] at hf ⊢
      cases hf
      exact hq H1 G1 S1 T1
theorem pwd_or {f g : Bf} (h1 : PTd X Γ a f) (h2 : PWd X Γ (.BoolOp .Or (b :: rest) pos) g) : PWd X Γ (.BoolOp .Or (a :: b :: rest) pos) (bOr f g) := by
  obtain ⟨t1, p1, k1⟩ := h1
  obtain ⟨t2, p2, k2⟩ := h2
  refine ⟨_, pw_or p1 p2, fun σ H G s s' r Q S hf hq => ?_⟩
  unfold bOr at hf
  cases h1 : f s with
  | none => rw [h1] at hf; cases hf
  | some q =>
    obtain ⟨x, s1⟩ := q
    simp only [h1, Option.bind_some] at hf
    refine k1 σ H G s s1 x _ S h1 fun H1 G1 S1 T1 => ?_
    cases x with
    | true =>
      rw [if_pos rfl] at hf ⊢
      cases hf
      exact hq H1 G1 S1 T1
    | false =>
      rw [if_neg Bool.false_ne_true] at hf ⊢
      exact k2 σ H1 G1 s1 s' r Q S1 hf fun H2 G2 S2 T2 => hq H2 G2 S2 (T1.trans T2)
theorem ptd_not {f : Bf} (h : PTd X Γ a f) : PTd X Γ (.UnaryOp .Not a pos) (bNot f) := by
  obtain ⟨t, p, k⟩ := h
  refine ⟨_, pt_not p, fun σ H G s s' r Q S hf hq => ?_⟩
  unfold bNot at hf
  cases h1 : f s with
  | none => rw [h1] at hf; cases hf
  | some q =>
    obtain ⟨x, s1⟩ := q
    rw [h1] at hf
    cases hf
    exact k σ H G s _ x _ S h1 hq
/-! ### as values -/
def fAnd (f g : Ef) : Ef := fun s => (fB f s).bind fun (x, s1) => if x = true then g s1 else some (.val (.bool false), s1)
def fOr (f g : Ef) : Ef := fun s => (fB f s).bind fun (x, s1) => if x = true then some (.val (.bool true), s1) else g s1
def fNot (f : Ef) : Ef := fun s => (fB f s).map fun (x, s1) => (.val (.bool (!x)), s1)
theorem PEd.bool {f : Ef} (h : PEd X Γ a f) : ∃ t : TE, PE X a t ∧ ∀ (σ : L2.St) (H G : Hp) (s s' : DS) (b : Bool) (Q : VK), Sta X.K Γ σ H G s → fB f s = some (b, s') →
    (∀ H' G', Sta X.K Γ σ H' G' s' → Stp Γ σ H G s H' G' s' → Q (.bl b) H') → t σ H Q := by
  obtain ⟨t, p, k⟩ := h
  refine ⟨t, p, fun σ H G s s' b Q S hf hq => k σ H G s s' _ _ S (fB_some hf) fun v H1 G1 S1 T1 g1 => ?_⟩
  cases (show Rp X.K G1 v (.bool b) from g1.rp)
  exact hq H1 G1 S1 T1
theorem pd_one {op : BoolOp} {f : Ef} (h : PEd X Γ a f) : PEd X Γ (.BoolOp op [a] pos) f := by
  obtain ⟨t, p, k⟩ := h
  exact ⟨t, pe_one p, k⟩
theorem pd_and {f g : Ef} (h1 : PEd X Γ a f) (h2 : PEd X Γ (.BoolOp .And (b :: rest) pos) g) : PEd X Γ (.BoolOp .And (a :: b :: rest) pos) (fAnd f g) := by
  obtain ⟨t1, p1, k1⟩ := h1.bool
  obtain ⟨t2, p2, k2⟩ := h2
  refine ⟨_, pe_and p1 p2, fun σ H G s s' r Q S hf hq => ?_⟩
  unfold fAnd at hf
  cases h1 : fB f s with
  | none => rw [h1] at hf; cases hf
  | some q =>
    obtain ⟨x, s1⟩ := q
    simp only [h1, Option.bind_some] at hf
    refine k1 σ H G s s1 x _ S h1 fun H1 G1 S1 T1 => ⟨x, rfl, ?_⟩
    cases x with
    | true =>
      rw [if_pos rfl] at hf ⊢
      exact k2 σ H1 G1 s1 s' r Q S1 hf fun v H2 G2 S2 T2 g2 => hq v H2 G2 S2 (T1.trans T2) (g2.later T1)
    | false =>
      rw [if_neg Bool.false_ne_true] at hf ⊢
      cases hf
      exact hq _ H1 G1 S1 T1 (.new (fa := Γ.fa) (.bl _))
theorem pd_or {f g : Ef} (h1 : PEd X Γ a f) (h2 : PEd X Γ (.BoolOp .Or (b :: rest) pos) g) : PEd X Γ (.BoolOp .Or (a :: b :: rest) pos) (fOr f g) := by
  obtain ⟨t1, p1, k1⟩ := h1.bool
  obtain ⟨t2, p2, k2⟩ := h2
  refine ⟨_, pe_or p1 p2, fun σ H G s s' r Q S hf hq => ?_⟩
  unfold fOr at hf
  cases h1 : fB f s with
  | none => rw [h1] at hf; cases hf
  | some q =>
    obtain ⟨x, s1⟩ := q
    simp only [h1, Option.bind_some] at hf
    refine k1 σ H G s s1 x _ S h1 fun H1 G1 S1 T1 => ⟨x, rfl, ?_⟩
    cases x with
    | true =>
      rw [if_pos rfl] at hf ⊢
      cases hf
      exact hq _ H1 G1 S1 T1 (.new (fa := Γ.fa) (.bl _))
    | false =>
      rw [if_neg Bool.false_ne_true] at hf ⊢
      exact k2 σ H1 G1 s1 s' r Q S1 hf fun v H2 G2 S2 T2 g2 => hq v H2 G2 S2 (T1.trans T2) (g2.later T1)
theorem pd_not {f : Ef} (h : PEd X Γ a f) : PEd X Γ (.UnaryOp .Not a pos) (fNot f) := by
  obtain ⟨t, p, k⟩ := h.bool
  refine ⟨_, pe_not p, fun σ H G s s' r Q S hf hq => ?_⟩
  unfold fNot at hf
  cases h1 : fB f s with
  | none => rw [h1] at hf; cases hf
  | some q =>
    obtain ⟨x, s1⟩ := q
    rw [h1] at hf
    cases hf
    exact k σ H G s _ x _ S h1 fun H1 G1 S1 T1 => ⟨x, rfl, hq _ H1 G1 S1 T1 (.new (fa := Γ.fa) (.bl _))⟩
/-- a if c else b -/
def fIf (c : Bf) (f g : Ef) : Ef := fun s => (c s).bind fun (x, s1) => if x = true then f s1 else g s1
theorem pd_if {fc : Bf} {f g : Ef} (hc : PTd X Γ c fc) (h1 : PEd X Γ a f) (h2 : PEd X Γ b g) : PEd X Γ (.IfExp c a b pos) (fIf fc f g) := by
  obtain ⟨tc, pc, kc⟩ := hc
  obtain ⟨t1, p1, k1⟩ := h1
  obtain ⟨t2, p2, k2⟩ := h2
  refine ⟨_, pe_ifExp pc p1 p2, fun σ H G s s' r Q S hf hq => ?_⟩
  unfold fIf at hf
  cases h1 : fc s with
  | none => rw [h1] at hf; cases hf
  | some q =>
    obtain ⟨x, s1⟩ := q
    simp only [h1, Option.bind_some] at hf
    refine kc σ H G s s1 x _ S h1 fun H1 G1 S1 T1 => ?_
    cases x with
    | true =>
      rw [if_pos rfl] at hf ⊢
      exact k1 σ H1 G1 s1 s' r Q S1 hf fun v H2 G2 S2 T2 g2 => hq v H2 G2 S2 (T1.trans T2) (g2.later T1)
    | false =>
      rw [if_neg Bool.false_ne_true] at hf ⊢
      exact k2 σ H1 G1 s1 s' r Q S1 hf fun v H2 G2 S2 T2 g2 => hq v H2 G2 S2 (T1.trans T2) (g2.later T1)
/-! ### chains of ints -/
def fI (f : Ef) : DS → Option (Int × DS) := fun s => match f s with
  | some (.val (.int b), s') => some (b, s')
  | _ => none
theorem fI_some {f : Ef} {s s' : DS} {b : Int} (h : fI f s = some (b, s')) : f s = some (.val (.int b), s') := by
  unfold fI at h
  split at h
  · rename_i e; cases h; exact e
  · cases h
theorem PEd.int {f : Ef} (h : PEd X Γ a f) : ∃ t : TE, PE X a t ∧ ∀ (σ : L2.St) (H G : Hp) (s s' : DS) (b : Int) (Q : VK), Sta X.K Γ σ H G s → fI f s = some (b, s') →
    (∀ H' G', Sta X.K Γ σ H' G' s' → Stp Γ σ H G s H' G' s' → Q (.int b) H') → t σ H Q := by
  obtain ⟨t, p, k⟩ := h
  refine ⟨t, p, fun σ H G s s' b Q S hf hq => k σ H G s s' _ _ S (fI_some hf) fun v H1 G1 S1 T1 g1 => ?_⟩
  cases (show Rp X.K G1 v (.int b) from g1.rp)
  exact hq H1 G1 S1 T1
def bChain (p q : Int → Int → Bool) (fa fb fc : Ef) : Bf := fun s => (fI fa s).bind fun (i, s1) => (fI fb s1).bind fun (j, s2) => if p i j = true then (fI fc s2).map fun (k, s3) => (q j k, s3) else some (false, s2)
theorem ptd_chain {op op' : CmpOp} {p q : Int → Int → Bool} {fa fb fc : Ef} (ho : OpR X (compareOp op) (rI0 fun i j => .bl (p i j))) (ho' : OpR X (compareOp op') (rI0 fun i j => .bl (q i j))) (ha : PEd X Γ a fa) (hb : PEd X Γ b fb) (hc : PEd X Γ c fc)
    (hm : lastMarks [op, op'] [b, c] = false := by with_unfolding_all rfl) : PTd X Γ (.Compare a [op, op'] [b, c] pos) (bChain p q fa fb fc) := by
  obtain ⟨t1, p1, k1⟩ := ha.int
  obtain ⟨t2, p2, k2⟩ := hb.int
  obtain ⟨t3, p3, k3⟩ := hc.int
  refine ⟨_, pt_chain ho ho' p1 p2 p3 hm, fun σ H G s s' r Q S hf hq => ?_⟩
  unfold bChain at hf
  cases h1 : fI fa s with
  | none => rw [h1] at hf; cases hf
  | some w1 =>
    obtain ⟨i, s1⟩ := w1
    simp only [h1, Option.bind_some] at hf
    cases h2 : fI fb s1 with
    | none => simp only [h2, Option.bind_none] at hf; cases hf
    | some w2 =>
      obtain ⟨j, s2⟩ := w2
      simp only [h2, Option.bind_some] at hf
      refine k1 σ H G s s1 i _ S h1 fun H1 G1 S1 T1 => ?_
      refine k2 σ H1 G1 s1 s2 j _ S1 h2 fun H2 G2 S2 T2 => ?_
      refine ⟨i, j, rfl, rfl, _, rfl, ?_⟩
      cases hp : p i j with
      | true =>
        simp only [hp, if_true] at hf ⊢
        cases h3 : fI fc s2 with
        | none => rw [h3] at hf; cases hf
        | some w3 =>
          obtain ⟨k, s3⟩ := w3
          rw [h3] at hf
          cases hf
          exact k3 σ H2 G2 s2 _ k _ S2 h3 fun H3 G3 S3 T3 => ⟨j, k, rfl, rfl, _, rfl, hq H3 G3 S3 ((T1.trans T2).trans T3)⟩
      | false =>
        simp only [hp, Bool.false_eq_true, if_false] at hf ⊢
        cases hf
        exact ⟨_, rfl, hq H2 G2 S2 (T1.trans T2)⟩
/-! ### slices -/
abbrev Of := DS → Option (Option Int × DS)
def POd (X : Cx) (Γ : Gm) (e : Option Expr) (f : Of) : Prop :=
  ∃ t : TO, PO X e t ∧ ∀ (σ : L2.St) (H G : Hp) (s s' : DS) (o : Option Int) (Q : Option Int → Hp → Prop), Sta X.K Γ σ H G s → f s = some (o, s') →
    (∀ H' G', Sta X.K Γ σ H' G' s' → Stp Γ σ H G s H' G' s' → Q o H') → t σ H Q
def oNone : Of := fun s => some (none, s)
def oSome (f : Ef) : Of := fun s => (fI f s).map fun (i, s') => (some i, s')
theorem pod_none : POd X Γ none oNone := ⟨_, po_none, fun σ H G s s' o Q S hf hq => by cases hf; exact hq H G S .refl⟩
theorem pod_some {f : Ef} (h : PEd X Γ a f) : POd X Γ (some a) (oSome f) := by
  obtain ⟨t, p, k⟩ := h.int
  refine ⟨_, po_some p, fun σ H G s s' o Q S hf hq => ?_⟩
  unfold oSome at hf
  cases h1 : fI f s with
  | none => rw [h1] at hf; cases hf
  | some w =>
    obtain ⟨i, s1⟩ := w
    rw [h1] at hf
    cases hf
    exact k σ H G s _ i _ S h1 fun H1 G1 S1 T1 => ⟨i, rfl, hq H1 G1 S1 T1⟩
def cutD {α : Type} (xs : List α) (lo hi : Option Int) : List α := (xs.drop (HT.sIx xs.length 0 lo)).take (HT.sIx xs.length xs.length hi - HT.sIx xs.length 0 lo)
theorem RpAll.cut {K : PySem.W.Frag} {G : Hp} {vs : List V} {ds : List PyData} (r : RpAll K G vs ds) (lo hi : Option Int) : RpAll K G (cutV vs lo hi) (cutD ds lo hi) := by
  unfold cutV cutD
  rw [r.length]
  exact (r.drop _).take _
def gCut (a : Pl) (lo hi : Option Int) : Option Pl := match a with
  | .val (.list ds) => some (.ownL (cutD ds lo hi))
  | .val (.tuple ds) => some (.val (.tuple (cutD ds lo hi)))
  | .val (.str z) => if z.length ≤ sizeLine then some (.val (.str (cutS z lo hi))) else none
  | _ => none
def fCut (f : Ef) (l h : Of) : Ef := fun s => (f s).bind fun (x, s1) => (l s1).bind fun (lo, s2) => (h s2).bind fun (hi, s3) => (gCut (fz x) lo hi).map fun r => (r, s3)
/-- of a name: what it holds behind the parts -/
def fCutN (i : Nat) (l h : Of) : Ef := fun s => (fPeek i s).bind fun _ => (l s).bind fun (lo, s2) => (h s2).bind fun (hi, s3) => (fPeek i s3).bind fun (x, _) => (gCut x lo hi).map fun r => (r, s3)
theorem slR : SlR X (fun x lo hi H Q => rSlL X.K x lo hi H Q ∨ (rSlF X.K x lo hi H Q ∨ rSlS x lo hi H Q)) := sl_list.or (sl_tupF.or sl_str)
theorem sl_data {σ : L2.St} {H G : Hp} {s : DS} {v : V} {x r : Pl} {lo hi : Option Int} {Q : VK} (S : Sta X.K Γ σ H G s) (v1 : View X.K Γ.fa H G v x) (hg : gCut x lo hi = some r)
    (hq : ∀ u H' G', Sta X.K Γ σ H' G' s → Stp Γ σ H G s H' G' s → Got X.K Γ H H' G' u r → Q u H') : rSlL X.K v lo hi H Q ∨ (rSlF X.K v lo hi H Q ∨ rSlS v lo hi H Q) := by
  unfold gCut at hg
  split at hg
  · cases hg
    obtain ⟨p, vs, rfl, h1, q1⟩ := v1
    exact .inl ⟨p, vs, rfl, .inl (.inl h1), newL S (q1.cut lo hi) hq⟩
  · rename_i ds
    cases hg
    obtain ⟨p, vs, rfl, h1, q1⟩ := Rp.tupI v1
    refine .inr (.inl ⟨p, vs, rfl, (h1.mono S.sub).sqt, fun hw => ?_, fun hw => newT S (q1.cut lo hi) hq⟩)
    have e : cutD ds lo hi = ds := by
      unfold cutD
      rw [← q1.length, hw.1, hw.2, List.drop_zero, Nat.sub_zero, q1.length, List.take_length]
    rw [e] at hq
    exact hq _ H G S .refl (.new (fa := Γ.fa) v1)
  · rename_i z
    cases (show Rp X.K G v (.str z) from v1)
    by_cases hz : z.length ≤ sizeLine
    · rw [if_pos hz] at hg
      cases hg
      exact .inr (.inr ⟨z, rfl, hz, hq _ H G S .refl (.new (fa := Γ.fa) (.str _))⟩)
    · rw [if_neg hz] at hg; cases hg
  · cases hg
theorem pd_cut {lo hi : Option Expr} {p2 : Pos} {f : Ef} {l h : Of} (ha : PEd X Γ a f) (hl : POd X Γ lo l) (hh : POd X Γ hi h) : PEd X Γ (.Subscript a (.Slice lo hi none p2) pos) (fCut f l h) := by
  obtain ⟨t1, p1, k1⟩ := ha
  obtain ⟨t2, p2, k2⟩ := hl
  obtain ⟨t3, p3, k3⟩ := hh
  refine ⟨_, pe_slice slR p1 p2 p3, fun σ H G s s' r Q S hf hq => ?_⟩
  unfold fCut at hf
  cases h1 : f s with
  | none => rw [h1] at hf; cases hf
  | some w1 =>
    obtain ⟨x, s1⟩ := w1
    simp only [h1, Option.bind_some] at hf
    cases h2 : l s1 with
    | none => simp only [h2, Option.bind_none] at hf; cases hf
    | some w2 =>
      obtain ⟨lo', s2⟩ := w2
      simp only [h2, Option.bind_some] at hf
      cases h3 : h s2 with
      | none => simp only [h3, Option.bind_none] at hf; cases hf
      | some w3 =>
        obtain ⟨hi', s3⟩ := w3
        simp only [h3, Option.bind_some] at hf
        cases h4 : gCut (fz x) lo' hi' with
        | none => simp only [h4, Option.map_none] at hf; cases hf
        | some z =>
          simp only [h4, Option.map_some, Option.some.injEq, Prod.mk.injEq] at hf
          obtain ⟨rfl, rfl⟩ := hf
          refine k1 σ H G s s1 x _ S h1 fun v H1 G1 S1 T1 g1 => ?_
          obtain ⟨G1', S1', T1', r1'⟩ := S.freeze S1 T1 g1
          refine k2 σ H1 G1' s1 s2 lo' _ S1' h2 fun H2 G2 S2 T2 => ?_
          refine k3 σ H2 G2 s2 _ hi' _ S2 h3 fun H3 G3 S3 T3 => ?_
          have T := (T1'.trans T2).trans T3
          exact sl_data S3 (View.mono r1' (fz_own x) (T2.gg.trans T3.gg) S3.sub) h4 fun u H4 G4 S4 T4 g4 => hq u H4 G4 S4 (T.trans T4) (g4.later T)
theorem pd_cutN {lo hi : Option Expr} {p2 : Pos} {l h : Of} (i : Nat) (ha : PE X a (tVar i)) (hl : POd X Γ lo l) (hh : POd X Γ hi h) : PEd X Γ (.Subscript a (.Slice lo hi none p2) pos) (fCutN i l h) := by
  obtain ⟨t2, p2, k2⟩ := hl
  obtain ⟨t3, p3, k3⟩ := hh
  refine ⟨_, pe_slice slR ha p2 p3, fun σ H G s s' r Q S hf hq => ?_⟩
  unfold fCutN at hf
  cases h0 : fPeek i s with
  | none => rw [h0] at hf; cases hf
  | some w1 =>
    obtain ⟨x0, s0⟩ := w1
    obtain ⟨sl0, e0, _⟩ := fPeek_some h0
    obtain ⟨v, hv, _⟩ := S.env i sl0 e0
    simp only [h0, Option.bind_some] at hf
    cases h2 : l s with
    | none => simp only [h2, Option.bind_none] at hf; cases hf
    | some w2 =>
      obtain ⟨lo', s2⟩ := w2
      simp only [h2, Option.bind_some] at hf
      cases h3 : h s2 with
      | none => simp only [h3, Option.bind_none] at hf; cases hf
      | some w3 =>
        obtain ⟨hi', s3⟩ := w3
        simp only [h3, Option.bind_some] at hf
        cases h5 : fPeek i s3 with
        | none => simp only [h5, Option.bind_none] at hf; cases hf
        | some w4 =>
          obtain ⟨x, s4⟩ := w4
          simp only [h5, Option.bind_some] at hf
          cases h4 : gCut x lo' hi' with
          | none => simp only [h4, Option.map_none] at hf; cases hf
          | some z =>
            simp only [h4, Option.map_some, Option.some.injEq, Prod.mk.injEq] at hf
            obtain ⟨rfl, rfl⟩ := hf
            obtain ⟨sl, e1, rfl, _⟩ := fPeek_some h5
            refine ⟨v, hv, k2 σ H G s s2 lo' _ S h2 fun H2 G2 S2 T2 => ?_⟩
            refine k3 σ H2 G2 s2 _ hi' _ S2 h3 fun H3 G3 S3 T3 => ?_
            have T := T2.trans T3
            obtain ⟨v', hv', r'⟩ := S3.env i sl e1
            rw [hv] at hv'
            cases hv'
            exact sl_data S3 (View.of S3.sub r') h4 fun u H4 G4 S4 T4 g4 => hq u H4 G4 S4 (T.trans T4) (g4.later T)
/-! ### index -/
def gIdx : Pl → Pl → Option Pl
  | .val (.tuple ds), .val (.str z) => (strsOf ds).bind fun ys => (ys.findIdx? fun y => decide (y = z)).map fun j => .val (.int (j : Nat))
  | _, _ => none
def fIdx (f g : Ef) : Ef := fun s => (f s).bind fun (x, s1) => (g s1).bind fun (y, s2) => (gIdx (fz x) (fz y)).map fun r => (r, s2)
theorem pd_idx {e : Expr} {apos cpos : Pos} {f g : Ef} (ha : PEd X Γ a f) (he : PEd X Γ e g) (hbase : attributeBase a "index" X.env (eval a X.env) = eval a X.env := by rfl)
    (hfew : ((backTo cpos (starEach [e] X.env)).all (fun x => !x.1) && (backToKw cpos (keywordEach [] X.env)).all (fun x => x.1.isSome)
      && decide ([e].length + ([] : List Keyword).length + (if ([] : List Keyword).isEmpty then 0 else 1) < 30)) = true := by rfl)
    (hline : (apos.endLine == cpos.line) = true := by rfl) (hs : starEach [e] X.env = (false, eval e X.env) :: starEach [] X.env := by rfl) (hplain : (backTo cpos (starEach [] X.env)).any (·.1) = false := by rfl) :
    PEd X Γ (.Call (.Attribute a "index" apos) [e] [] cpos) (fIdx f g) := by
  obtain ⟨t1, p1, k1⟩ := ha
  obtain ⟨t2, p2, k2⟩ := he
  refine ⟨_, pe_tm PySem.F.slot_tuple_index PySem.F.type_tuple_index mt_tup_index p1 (pa_cons p2 pa_nil hs) hbase hfew hline hs hplain, fun σ H G s s' r Q S hf hq => ?_⟩
  unfold fIdx at hf
  cases h1 : f s with
  | none => rw [h1] at hf; cases hf
  | some w1 =>
    obtain ⟨x, s1⟩ := w1
    simp only [h1, Option.bind_some] at hf
    cases h2 : g s1 with
    | none => simp only [h2, Option.bind_none] at hf; cases hf
    | some w2 =>
      obtain ⟨y, s2⟩ := w2
      simp only [h2, Option.bind_some] at hf
      cases h4 : gIdx (fz x) (fz y) with
      | none => simp only [h4, Option.map_none] at hf; cases hf
      | some z =>
        simp only [h4, Option.map_some, Option.some.injEq, Prod.mk.injEq] at hf
        obtain ⟨rfl, rfl⟩ := hf
        refine k1 σ H G s s1 x _ S h1 fun v H1 G1 S1 T1 g1 => ?_
        obtain ⟨G1', S1', T1', r1'⟩ := S.freeze S1 T1 g1
        unfold gIdx at h4
        split at h4
        · rename_i ds q e1 e2
          rw [e1] at r1'
          obtain ⟨p, vs, rfl, hk, hr⟩ := Rp.tupI r1'
          refine ⟨⟨p, vs, rfl, hk.mono S1'.sub⟩, k2 σ H1 G1' s1 _ y _ S1' h2 fun w H2 G2 S2 T2 g2 => ?_⟩
          have r2 := View.of S2.sub g2.rp
          rw [e2] at r2
          cases (show Rp X.K G2 w (.str q) from r2)
          cases ey : strsOf ds with
          | none => rw [ey] at h4; cases h4
          | some ys =>
            rw [ey, Option.bind_some] at h4
            cases ej : ys.findIdx? (fun y => decide (y = q)) with
            | none => rw [ej] at h4; cases h4
            | some j =>
              rw [ej] at h4
              cases h4
              rw [strsOf_map ey] at hr
              obtain ⟨hj, hj1, hj2⟩ := List.findIdx?_eq_some_iff_getElem.mp ej
              refine ⟨p, ys, q, j, rfl, rfl, by rw [← hr.strs]; exact ((hk.mono T2.gg).mono S2.sub).sqt, ?_, fun m hm hz => ?_, hq _ H2 G2 S2 (T1'.trans T2) (.new (fa := Γ.fa) (.int _))⟩
              · rw [List.getElem?_eq_getElem hj, of_decide_eq_true hj1]
              · have hml : m < ys.length := by omega
                rw [List.getElem?_eq_getElem hml] at hz
                have := hj2 m hm
                rw [Option.some.inj hz] at this
                simp at this
        · cases h4
end
end PD

set_option Elab.async false
set_option linter.all false
set_option maxRecDepth 100000
set_option maxHeartbeats 1000000
/-! PDi: statements. -/
namespace PD
open PySem PySem.Spec PyProof.Rows L2
variable [TheW]
inductive Out where
  | nx (s : DS)
  | rt (r : Pl) (s : DS)
  | bk (s : DS)
  | ct (s : DS)
abbrev Sf := DS → Option Out
section
variable {X : Cx} {Γ : Gm}
def PostS (K : PySem.W.Frag) (Γ : Gm) (G : Hp) (o : Out) (D : Ends) : Prop :=
  match o with
  | .nx s' => ∀ σ' H' G', Sta K Γ σ' H' G' s' → Same G G' → D.nx σ' H'
  | .bk s' => ∀ σ' H' G', Sta K Γ σ' H' G' s' → Same G G' → D.bk σ' H'
  | .ct s' => ∀ σ' H' G', Sta K Γ σ' H' G' s' → Same G G' → D.ct σ' H'
  | .rt r s' => ∀ v σ' H' G', Sta K Γ σ' H' G' s' → Same G G' → Got K Γ Γ.H0 H' G' v r → D.rt v H'
theorem PostS.mono {K : PySem.W.Frag} {G G1 : Hp} {o : Out} {D : Ends} (g : Same G G1) (h : PostS K Γ G o D) : PostS K Γ G1 o D := by
  cases o with
  | nx s => exact fun σ' H' G' S e => h σ' H' G' S (g.trans e)
  | bk s => exact fun σ' H' G' S e => h σ' H' G' S (g.trans e)
  | ct s => exact fun σ' H' G' S e => h σ' H' G' S (g.trans e)
  | rt r s => exact fun v σ' H' G' S e q => h v σ' H' G' S (g.trans e) q
def PSd (X : Cx) (Γ : Gm) (st : Stmt) (f : Sf) : Prop :=
  ∃ t : TS, PS X st t ∧ ∀ (σ : L2.St) (H G : Hp) (s : DS) (o : Out) (D : Ends), Sta X.K Γ σ H G s → f s = some o → PostS X.K Γ G o D → t D σ H
def PSSd (X : Cx) (Γ : Gm) (sts : List Stmt) (f : Sf) : Prop :=
  ∃ t : TS, PSs X sts t ∧ ∀ (σ : L2.St) (H G : Hp) (s : DS) (o : Out) (D : Ends), Sta X.K Γ σ H G s → f s = some o → PostS X.K Γ G o D → t D σ H
def sNil : Sf := fun s => some (.nx s)
def sSeq (f g : Sf) : Sf := fun s => (f s).bind fun o => match o with
  | .nx s1 => g s1
  | o => some o
theorem pss_nilD : PSSd X Γ [] sNil := ⟨_, pss_nil, fun σ H G s o D S hf hp => by cases hf; exact hp σ H G S (Same.refl _)⟩
theorem pss_oneD {st : Stmt} {f : Sf} (h : PSd X Γ st f) : PSSd X Γ [st] f := by
  obtain ⟨t, p, k⟩ := h
  exact ⟨t, pss_one p, k⟩
theorem pss_consD {st : Stmt} {rest : List Stmt} {f g : Sf} (h1 : PSd X Γ st f) (h2 : PSSd X Γ rest g) : PSSd X Γ (st :: rest) (sSeq f g) := by
  obtain ⟨t, p, k⟩ := h1
  obtain ⟨t2, p2, k2⟩ := h2
  refine ⟨_, pss_cons p p2, fun σ H G s o D S hf hp => ?_⟩
  unfold sSeq at hf
  cases h1 : f s with
  | none => rw [h1] at hf; cases hf
  | some o1 =>
    rw [h1, Option.bind_some] at hf
    refine k σ H G s o1 _ S h1 ?_
    cases o1 with
    | nx s1 => exact fun σ' H' G' S' e => k2 σ' H' G' s1 o D S' hf (hp.mono e)
    | rt r s1 => cases hf; exact hp
    | bk s1 => cases hf; exact hp
    | ct s1 => cases hf; exact hp
def sPass : Sf := fun s => some (.nx s)
def sBreak : Sf := fun s => some (.bk s)
def sCont : Sf := fun s => some (.ct s)
theorem ps_passD {pos} : PSd X Γ (.Pass pos) sPass := ⟨_, ps_pass, fun σ H G s o D S hf hp => by cases hf; exact hp σ H G S (Same.refl _)⟩
theorem ps_breakD {pos} : PSd X Γ (.Break pos) sBreak := ⟨_, ps_break, fun σ H G s o D S hf hp => by cases hf; exact hp σ H G S (Same.refl _)⟩
theorem ps_contD {pos} : PSd X Γ (.Continue pos) sCont := ⟨_, ps_continue, fun σ H G s o D S hf hp => by cases hf; exact hp σ H G S (Same.refl _)⟩
def sExpr (f : Ef) : Sf := fun s => (f s).map fun (_, s') => .nx s'
theorem ps_exprD {e : Expr} {f : Ef} {pos : Pos} (h : PEd X Γ e f) (hs : swapsWith e none pos.line X.env = pure false := by rfl) : PSd X Γ (.Expr e pos) (sExpr f) := by
  obtain ⟨t, p, k⟩ := h
  refine ⟨_, ps_expr p hs, fun σ H G s o D S hf hp => ?_⟩
  unfold sExpr at hf
  cases h1 : f s with
  | none => rw [h1] at hf; cases hf
  | some w =>
    obtain ⟨r, s1⟩ := w
    rw [h1] at hf
    cases hf
    exact k σ H G s _ r _ S h1 fun v H' G' S' T g => hp σ H' G' S' T.gg
def sRet (f : Ef) : Sf := fun s => (f s).map fun (r, s') => .rt r s'
theorem ps_retD {e : Expr} {f : Ef} {pos : Pos} (h : PEd X Γ e f) : PSd X Γ (.Return (some e) pos) (sRet f) := by
  obtain ⟨t, p, k⟩ := h
  refine ⟨_, ps_ret p, fun σ H G s o D S hf hp => ?_⟩
  unfold sRet at hf
  cases h1 : f s with
  | none => rw [h1] at hf; cases hf
  | some w =>
    obtain ⟨r, s1⟩ := w
    rw [h1] at hf
    cases hf
    exact k σ H G s _ r _ S h1 fun v H' G' S' T g => hp v σ H' G' S' T.gg ⟨g.rp, fun z => by
      obtain ⟨q, e, n⟩ := g.ow z
      exact ⟨q, e, S.fresh0 n⟩⟩
def sRetN : Sf := fun s => some (.rt (.val .none) s)
theorem ps_retND {pos} : PSd X Γ (.Return none pos) sRetN := ⟨_, ps_retN, fun σ H G s o D S hf hp => by cases hf; exact hp .non σ H G S (Same.refl _) (.new (fa := Γ.fa) .non)⟩
def sIf (c : Bf) (f g : Sf) : Sf := fun s => (c s).bind fun (b, s1) => if b = true then f s1 else g s1
theorem ps_ifD {c : Expr} {a b : List Stmt} {fc : Bf} {f g : Sf} {pos : Pos} (hc : PTd X Γ c fc) (ha : PSSd X Γ a f) (hb : PSSd X Γ b g) : PSd X Γ (.If c a b pos) (sIf fc f g) := by
  obtain ⟨tc, pc, kc⟩ := hc
  obtain ⟨t1, p1, k1⟩ := ha
  obtain ⟨t2, p2, k2⟩ := hb
  refine ⟨_, ps_if pc p1 p2, fun σ H G s o D S hf hp => ?_⟩
  unfold sIf at hf
  cases h1 : fc s with
  | none => rw [h1] at hf; cases hf
  | some w =>
    obtain ⟨x, s1⟩ := w
    simp only [h1, Option.bind_some] at hf
    refine kc σ H G s s1 x _ S h1 fun H1 G1 S1 T1 => ?_
    cases x with
    | true =>
      rw [if_pos rfl] at hf ⊢
      exact k1 σ H1 G1 s1 o D S1 hf (hp.mono T1.gg)
    | false =>
      rw [if_neg Bool.false_ne_true] at hf ⊢
      exact k2 σ H1 G1 s1 o D S1 hf (hp.mono T1.gg)
/-! ### while -/
def sWhile (c : Bf) (f : Sf) : Nat → Sf
  | 0 => fun _ => none
  | n + 1 => fun s => (c s).bind fun (b, s1) => if b = true then (f s1).bind fun o => match o with
      | .nx s2 => sWhile c f n s2
      | .ct s2 => sWhile c f n s2
      | .bk s2 => some (.nx s2)
      | .rt r s2 => some (.rt r s2)
    else some (.nx s1)
theorem ps_whileD {c : Expr} {body : List Stmt} {fc : Bf} {f : Sf} {pos : Pos} (n : Nat) (hp : PassesOwn (model X.prog X.w) X.A X.env X.xe) (hc : PTd X Γ c fc) (hb : PSSd X Γ body f) : PSd X Γ (.While c body [] pos) (sWhile fc f n) := by
  obtain ⟨tc, pc, kc⟩ := hc
  obtain ⟨t1, p1, k1⟩ := hb
  refine ⟨_, ps_while hp pc p1, fun σ H G s o D S hf hq => ?_⟩
  refine ⟨fun m σ H => ∃ G1 s1, Sta X.K Γ σ H G1 s1 ∧ Same G G1 ∧ sWhile fc f m s1 = some o, ⟨n, G, s, S, Same.refl _, hf⟩, fun m σ1 H1 hW => ?_⟩
  obtain ⟨G1, s1, S1, e1, h1⟩ := hW
  cases m with
  | zero => cases h1
  | succ m =>
    unfold sWhile at h1
    cases h2 : fc s1 with
    | none => rw [h2] at h1; cases h1
    | some w =>
      obtain ⟨b, s2⟩ := w
      simp only [h2, Option.bind_some] at h1
      refine kc σ1 H1 G1 s1 s2 b _ S1 h2 fun H2 G2 S2 T2 => ?_
      cases b with
      | true =>
        rw [if_pos rfl] at h1 ⊢
        cases h3 : f s2 with
        | none => rw [h3] at h1; cases h1
        | some o1 =>
          simp only [h3, Option.bind_some] at h1
          refine ⟨fun σ H => ∃ G1 s1, Sta X.K Γ σ H G1 s1 ∧ Same G G1 ∧ sWhile fc f m s1 = some o, fun σ' H' ⟨G', s', a, b, c⟩ => ⟨m, Nat.lt_succ_self m, G', s', a, b, c⟩, ?_⟩
          refine k1 σ1 H2 G2 s2 o1 _ S2 h3 ?_
          cases o1 with
          | nx s3 => exact fun σ' H' G' S' e => ⟨G', s3, S', (e1.trans T2.gg).trans e, h1⟩
          | ct s3 => exact fun σ' H' G' S' e => ⟨G', s3, S', (e1.trans T2.gg).trans e, h1⟩
          | bk s3 => cases h1; exact hq.mono (e1.trans T2.gg)
          | rt r s3 => cases h1; exact hq.mono (e1.trans T2.gg)
      | false =>
        rw [if_neg Bool.false_ne_true] at h1 ⊢
        cases h1
        exact hq σ1 H2 G2 S2 (e1.trans T2.gg)
/-! ### targets -/
/-- a value fits a place -/
def Fits (K : PySem.W.Frag) (Γ : Gm) (σ : L2.St) (H G : Hp) (s : DS) (v : V) (r : Pl) : Prop :=
  SRp K Γ.fa H G v r ∧ (r.own = true → ∃ p, v = .ref p ∧ ¬ OwnAt σ s p ∧ Γ.H0 p = none)
theorem Got.fits {K : PySem.W.Frag} {σ : L2.St} {H G H1 G1 : Hp} {s s1 : DS} {v : V} {r : Pl} (S : Sta K Γ σ H G s) (T : Stp Γ σ H G s H1 G1 s1) (g : Got K Γ H H1 G1 v r) : Fits K Γ σ H1 G1 s1 v r :=
  ⟨g.rp, fun z => by
    obtain ⟨p, e, n⟩ := g.ow z
    refine ⟨p, e, fun w => ?_, S.fresh0 n⟩
    obtain ⟨⟨o, q⟩, _⟩ := S.ownThere (T.own p w)
    rw [n] at q; cases q⟩
theorem Sta.put {K : PySem.W.Frag} {σ : L2.St} {H G : Hp} {s : DS} {v : V} {r : Pl} (i : Nat) (S : Sta K Γ σ H G s) (ft : Fits K Γ σ H G s v r) : Sta K Γ (σ.set i (some v)) H G ⟨s.env.set i (some r), s.fs⟩ := by
  have cas : ∀ (j : Nat) (a : Pl), (s.env.set i (some r))[j]? = some (some a) → (j = i ∧ a = r ∧ (σ.set i (some v))[j]? = some (some v)) ∨ (j ≠ i ∧ s.env[j]? = some (some a) ∧ (σ.set i (some v))[j]? = σ[j]?) := fun j a e => by
    by_cases z : j = i
    · subst z
      have lt : j < s.env.length := by
        have := (List.getElem?_eq_some_iff.mp e).1
        simpa using this
      rw [List.getElem?_set_self lt] at e
      cases e
      exact .inl ⟨rfl, rfl, List.getElem?_set_self (by rw [← S.len]; exact lt)⟩
    · rw [List.getElem?_set_ne (Ne.symm z)] at e
      exact .inr ⟨z, e, List.getElem?_set_ne (Ne.symm z)⟩
  have own : ∀ b, OwnAt (σ.set i (some v)) ⟨s.env.set i (some r), s.fs⟩ b → OwnAt σ s b ∨ (r.own = true ∧ v = .ref b) := fun b ⟨j, a, e1, e2, e3⟩ => by
    rcases cas j a e1 with ⟨_, rfl, h⟩ | ⟨_, h1, h2⟩
    · rw [h] at e3
      cases e3
      exact .inr ⟨e2, rfl⟩
    · rw [h2] at e3
      exact .inl ⟨j, a, h1, e2, e3⟩
  refine ⟨S.sub, S.g0, S.fr, S.keep, by simpa using S.len, fun j a e => ?_, fun j k a c w e1 e2 e3 e4 h1 h2 => ?_, fun b e => ?_, S.fd, S.tok, S.tgr, S.gnt⟩
  · rcases cas j a e with ⟨_, rfl, h⟩ | ⟨_, h1, h2⟩
    · exact ⟨v, h, ft.1⟩
    · obtain ⟨w, h3, h4⟩ := S.env j a h1
      exact ⟨w, by rw [h2]; exact h3, h4⟩
  · rcases cas j a e1 with ⟨rfl, rfl, f1⟩ | ⟨n1, f1, f2⟩
    · rcases cas k c e2 with ⟨rfl, rfl, g1⟩ | ⟨n2, g1, g2⟩
      · rfl
      · exfalso
        rw [f1] at h1
        cases h1
        obtain ⟨p, rfl, no, _⟩ := ft.2 e3
        rw [g2] at h2
        exact no ⟨k, c, g1, e4, h2⟩
    · rcases cas k c e2 with ⟨rfl, rfl, g1⟩ | ⟨n2, g1, g2⟩
      · exfalso
        rw [g1] at h2
        cases h2
        obtain ⟨p, rfl, no, _⟩ := ft.2 e4
        rw [f2] at h1
        exact no ⟨j, a, f1, e3, h1⟩
      · rw [f2] at h1
        rw [g2] at h2
        exact S.dis j k a c w f1 g1 e3 e4 h1 h2
  · rcases own b e with h | ⟨h, rfl⟩
    · exact S.new b h
    · obtain ⟨p, e1, _, n⟩ := ft.2 h
      cases e1
      exact n
inductive Tg where
  | nm (i : Nat)
  | tp (l : List Tg)
mutual
def Tg.slots : Tg → List Nat
  | .nm i => [i]
  | .tp l => Tg.slotsAll l
def Tg.slotsAll : List Tg → List Nat
  | [] => []
  | t :: r => t.slots ++ Tg.slotsAll r
end
mutual
def Tg.put : Tg → Pl → DS → Option DS
  | .nm i, r, s => some ⟨s.env.set i (some r), s.fs⟩
  | .tp l, .val (.tuple ds), s => Tg.putAll l ds s
  | .tp _, _, _ => none
def Tg.putAll : List Tg → List PyData → DS → Option DS
  | [], [], s => some s
  | t :: r, d :: ds, s => (t.put (.val d) s).bind fun s1 => Tg.putAll r ds s1
  | _, _, _ => none
end
/-- what a target may be given: a tuple's parts may stand in any tuple -/
def FitT (K : PySem.W.Frag) (Γ : Gm) (σ : L2.St) (H G : Hp) (s : DS) (v : V) (r : Pl) : Tg → Prop
  | .nm _ => Fits K Γ σ H G s v r
  | .tp _ => ∃ ds T xs, r = .val (.tuple ds) ∧ v = .ref T ∧ SqT K H T xs ∧ RpAll K G xs ds
theorem Fits.fitT {K : PySem.W.Frag} {σ : L2.St} {H G : Hp} {s s' : DS} {v : V} {r : Pl} {t : Tg} (S : Sta K Γ σ H G s) (h : Fits K Γ σ H G s v r) (hp : t.put r s = some s') : FitT K Γ σ H G s v r t := by
  cases t with
  | nm i => exact h
  | tp l =>
    cases r with
    | val d =>
      cases d with
      | tuple ds =>
        obtain ⟨q, vs, rfl, hk, hr⟩ := Rp.tupI h.1
        exact ⟨ds, q, vs, rfl, rfl, (hk.mono S.sub).sqt, hr⟩
      | none => simp [Tg.put] at hp
      | bool b => simp [Tg.put] at hp
      | int b => simp [Tg.put] at hp
      | str b => simp [Tg.put] at hp
      | list b => simp [Tg.put] at hp
      | dict b => simp [Tg.put] at hp
    | fd => simp [Tg.put] at hp
    | dic k => simp [Tg.put] at hp
    | ownL k => simp [Tg.put] at hp
    | ownK k => simp [Tg.put] at hp
    | ownN k => simp [Tg.put] at hp
    | dicN k => simp [Tg.put] at hp
def PGd (X : Cx) (Γ : Gm) (e : Expr) (t : Tg) : Prop :=
  ∃ g : TG, PG X e g ∧ ∀ (σ : L2.St) (H G : Hp) (s s' : DS) (v : V) (r : Pl) (Q : L2.St → Hp → Prop), Sta X.K Γ σ H G s → FitT X.K Γ σ H G s v r t → t.put r s = some s' →
    (∀ σ', Sta X.K Γ σ' H G s' → (∀ vs : List Nat, (∀ i ∈ t.slots, i ∈ vs) → wipe σ' vs = wipe σ vs) → Q σ' H) → g v σ H Q
def PGsd (X : Cx) (Γ : Gm) (es : List Expr) (l : List Tg) : Prop :=
  ∃ g : TGs, PGs X es g ∧ ∀ (σ : L2.St) (H G : Hp) (s s' : DS) (vs : List V) (ds : List PyData) (Q : L2.St → Hp → Prop), Sta X.K Γ σ H G s → RpAll X.K G vs ds → Tg.putAll l ds s = some s' →
    (∀ σ', Sta X.K Γ σ' H G s' → (∀ ws : List Nat, (∀ i ∈ Tg.slotsAll l, i ∈ ws) → wipe σ' ws = wipe σ ws) → Q σ' H) → g vs σ H Q
theorem wipe_set {σ : L2.St} {i : Nat} {v : Option V} : ∀ {vs : List Nat}, i ∈ vs → wipe (σ.set i v) vs = wipe σ vs
  | [], h => by cases h
  | w :: vs, h => by
    unfold wipe
    by_cases z : i ∈ vs
    · rw [wipe_set z]
    · have e : w = i := by
        rcases List.mem_cons.mp h with q | q
        · exact q.symm
        · exact absurd q z
      subst e
      have aux : ∀ (us : List Nat) (τ : L2.St), (wipe (τ.set w v) us).set w none = (wipe τ us).set w none := by
        intro us
        induction us with
        | nil => intro τ; simp [wipe]
        | cons u us ih =>
          intro τ
          unfold wipe
          by_cases q : u = w
          · subst q
            simpa using ih τ
          · rw [show ((wipe (τ.set w v) us).set u none).set w none = ((wipe (τ.set w v) us).set w none).set u none from List.set_comm _ _ q, show ((wipe τ us).set u none).set w none = ((wipe τ us).set w none).set u none from List.set_comm _ _ q, ih]
      exact aux vs σ
theorem pgd_name {i : Nat} {x : Str} {pos : Pos} (hN : X.N.Nodup) (hi : X.N[i]? = some x) (hx : Loc X.env.scope x) (hf : X.fn x = true ∨ X.env.scope.names.lookup x = some .local := by first | exact .inl rfl | exact .inr rfl | assumption) : PGd X Γ (.Name x pos) (.nm i) := by
  refine ⟨_, pg_name hN hi hx hf, fun σ H G s s' v r Q S ft hp hq => ?_⟩
  have e : s' = ⟨s.env.set i (some r), s.fs⟩ := by
    simp only [Tg.put, Option.some.injEq] at hp
    exact hp.symm
  subst e
  exact hq _ (S.put i ft) fun vs hv => wipe_set (hv i (by simp [Tg.slots]))
theorem pgs_nilD : PGsd X Γ [] [] := by
  refine ⟨_, pgs_nil, fun σ H G s s' vs ds Q S r hp hq => ?_⟩
  cases r with
  | nil =>
    simp only [Tg.putAll, Option.some.injEq] at hp
    subst hp
    exact ⟨rfl, hq σ S fun _ _ => rfl⟩
  | cons a b => simp [Tg.putAll] at hp
theorem pgs_consD {e : Expr} {es : List Expr} {t : Tg} {l : List Tg} (h1 : PGd X Γ e t) (h2 : PGsd X Γ es l) (hs : (assignEach (e :: es) X.env).map (·.2) = assign e X.env :: (assignEach es X.env).map (·.2) := by rfl) : PGsd X Γ (e :: es) (t :: l) := by
  obtain ⟨g1, p1, k1⟩ := h1
  obtain ⟨g2, p2, k2⟩ := h2
  refine ⟨_, pgs_cons p1 p2 hs, fun σ H G s s' vs ds Q S r hp hq => ?_⟩
  cases r with
  | nil => simp [Tg.putAll] at hp
  | @cons v0 vs0 d0 ds0 a b =>
    simp only [Tg.putAll] at hp
    cases e1 : t.put (.val d0) s with
    | none => rw [e1] at hp; cases hp
    | some s1 =>
      rw [e1, Option.bind_some] at hp
      refine ⟨_, _, rfl, k1 σ H G s s1 v0 (.val d0) _ S (Fits.fitT S ⟨a, fun z => nomatch z⟩ e1) e1 fun σ1 S1 w1 => ?_⟩
      refine k2 σ1 H G s1 s' _ _ Q S1 b hp fun σ2 S2 w2 => hq σ2 S2 fun ws hw => ?_
      rw [w2 ws (fun i hi => hw i (by simp [Tg.slotsAll, hi])), w1 ws (fun i hi => hw i (by simp [Tg.slotsAll, hi]))]
theorem pgd_tup {es : List Expr} {k n : Nat} {l : List Tg} {pos : Pos} (hc : X.calm = true) (h : PGsd X Γ es l) (hl : l.length = n) (hn : (assignEach es X.env).length = n := by rfl) (hst : (assignEach es X.env).findIdx? (·.1) = none := by rfl) : PGd X Γ (.Tuple es k pos) (.tp l) := by
  obtain ⟨g, p, k⟩ := h
  refine ⟨_, pg_tup hc p hn hst, fun σ H G s s' v r Q S ft hp hq => ?_⟩
  obtain ⟨ds, q, vs, rfl, rfl, hk, hr⟩ := ft
  simp only [Tg.put] at hp
  have hlen : ∀ (l : List Tg) (ds : List PyData) (s s' : DS), Tg.putAll l ds s = some s' → l.length = ds.length := by
    intro l
    induction l with
    | nil => intro ds s s' h; cases ds with
      | nil => rfl
      | cons a b => simp [Tg.putAll] at h
    | cons t r ih => intro ds s s' h; cases ds with
      | nil => simp [Tg.putAll] at h
      | cons a b =>
        simp only [Tg.putAll] at h
        cases e1 : t.put (.val a) s with
        | none => rw [e1] at h; cases h
        | some s1 => rw [e1, Option.bind_some] at h; simp [ih b s1 s' h]
  exact ⟨q, vs, rfl, hk, by rw [hr.length, ← hlen l ds s s' hp]; exact hl, k σ H G s s' vs ds Q S hr hp fun σ' S' w => hq σ' S' fun ws hw => w ws fun i hi => hw i (by simpa [Tg.slots] using hi)⟩
def sAsg (f : Ef) (t : Tg) : Sf := fun s => (f s).bind fun (r, s1) => (t.put r s1).map .nx
theorem ps_asgD {tg e : Expr} {f : Ef} {t : Tg} {pos : Pos} (he : PEd X Γ e f) (hg : PGd X Γ tg t) (hs : swapsWithSole [tg] e pos.line X.env = pure false := by rfl) (hw : swappedStores [tg] e X.env = pure none := by rfl)
    (h1 : (assignEach [tg] X.env).map (·.2) = [assign tg X.env] := by rfl) : PSd X Γ (.Assign [tg] e pos) (sAsg f t) := by
  obtain ⟨te, pe, ke⟩ := he
  obtain ⟨g, pg, kg⟩ := hg
  refine ⟨_, ps_asg pe pg hs hw h1, fun σ H G s o D S hf hp => ?_⟩
  unfold sAsg at hf
  cases h1 : f s with
  | none => rw [h1] at hf; cases hf
  | some w =>
    obtain ⟨r, s1⟩ := w
    simp only [h1, Option.bind_some] at hf
    cases h2 : t.put r s1 with
    | none => rw [h2] at hf; cases hf
    | some s2 =>
      rw [h2] at hf
      cases hf
      refine ke σ H G s s1 r _ S h1 fun v H1 G1 S1 T1 g1 => ?_
      exact kg σ H1 G1 s1 s2 v r _ S1 ((g1.fits S T1).fitT S1 h2) h2 fun σ' S' _ => hp σ' H1 G1 S' T1.gg
/-- a, b = e1, e2 (two local names) -/
def sPar (f g : Ef) (i j : Nat) : Sf := fun s => (f s).bind fun (r1, s1) => (g s1).bind fun (r2, s2) => some (.nx ⟨(s2.env.set i (some r1)).set j (some r2), s2.fs⟩)
end
end PD

set_option Elab.async false
set_option linter.all false
set_option maxRecDepth 100000
set_option maxHeartbeats 1000000
/-! PDj: what is walked; for; comprehensions. -/
namespace PD
open PySem PySem.Spec PyProof.Rows L2
variable [TheW]
/-- an iterator over data: while Gw stands it yields the items in their order, then stops -/
def WalkJ (K : PySem.W.Frag) (Γ : Gm) (t : Tg) (J : It) (Gw : Hp) (ds : List PyData) : Prop :=
  ∀ (σ : L2.St) (H G : Hp) (s : DS), Sta K Γ σ H G s → Same Gw G →
    (∀ (i : Nat) (d : PyData), ds[i]? = some d → J.go i H ∧ ∀ x H', J.yld i H x H' → ∃ G', Sta K Γ σ H' G' s ∧ Stp Γ σ H G s H' G' s ∧ ((∃ s', t.put (.val d) s = some s') → FitT K Γ σ H' G' s x (.val d) t)) ∧
    ∀ i, i = ds.length → J.stop i H
abbrev Wf := DS → Option (List PyData × DS)
section
variable {X : Cx} {Γ : Gm}
def PId (X : Cx) (Γ : Gm) (tg e : Expr) (t : Tg) (f : Wf) : Prop :=
  ∃ wi : TI, PI X tg e wi ∧ ∀ (σ : L2.St) (H G : Hp) (s s' : DS) (ds : List PyData) (R : It → Hp → Prop), Sta X.K Γ σ H G s → f s = some (ds, s') →
    (∀ J H' G', Sta X.K Γ σ H' G' s' → Stp Γ σ H G s H' G' s' → WalkJ X.K Γ t J G' ds → R J H') → wi σ H R
theorem PId.or {tg e : Expr} {t : Tg} {f g h : Wf} (h1 : PId X Γ tg e t f) (h2 : PId X Γ tg e t g) (hh : ∀ s r s', h s = some (r, s') → f s = some (r, s') ∨ g s = some (r, s')) : PId X Γ tg e t h := by
  obtain ⟨t1, p1, k1⟩ := h1
  obtain ⟨t2, p2, k2⟩ := h2
  refine ⟨fun σ H R => t1 σ H R ∨ t2 σ H R, ⟨fun pins s σ H R I q => ?_⟩, fun σ H G s s' r R S hf hq => ?_⟩
  · rcases q with q | q
    · exact p1.run pins s σ H R I q
    · exact p2.run pins s σ H R I q
  · rcases hh s r s' hf with e | e
    · exact .inl (k1 σ H G s s' r R S e hq)
    · exact .inr (k2 σ H G s s' r R S e hq)
theorem fit_val {K : PySem.W.Frag} {σ : L2.St} {H G : Hp} {s : DS} {v : V} {d : PyData} {t : Tg} (S : Sta K Γ σ H G s) (h : Rp K G v d) : (∃ s', t.put (.val d) s = some s') → FitT K Γ σ H G s v (.val d) t := fun ⟨s', e⟩ =>
  Fits.fitT S ⟨h, fun z => nomatch z⟩ e
def wVal (f : Ef) : Wf := fun s => match f s with
  | some (.val (.list ds), s') => some (ds, s')
  | some (.val (.tuple ds), s') => some (ds, s')
  | some (.ownL ds, s') => some (ds, s')
  | _ => none
theorem WalkJ.list {K : PySem.W.Frag} {Γ : Gm} {t : Tg} {Gw : Hp} {a : Addr} {vs : List V} {ds : List PyData} (h : Gw a = some (.lst vs)) (r : RpAll K Gw vs ds) : WalkJ K Γ t (Itl K a) Gw ds := by
  intro σ H G s S g
  have hs : SqL K H a vs := .inl (.inl (S.sub _ _ (g _ _ h)))
  refine ⟨fun i d hd => ?_, fun i hi => ⟨vs, hs, by rw [r.length]; exact Nat.le_of_eq hi.symm⟩⟩
  obtain ⟨v, h1, h2⟩ := r.get hd
  refine ⟨⟨vs, v, hs, h1⟩, fun x H' hy => ?_⟩
  obtain ⟨rfl, hy⟩ := hy
  have e := (hy vs hs).symm.trans h1
  cases e
  exact ⟨G, S, .refl, fit_val S (h2.mono g)⟩
theorem WalkJ.tup {K : PySem.W.Frag} {Γ : Gm} {t : Tg} {Gw : Hp} {a : Addr} {vs : List V} {ds : List PyData} (h : TupK K Gw a vs) (r : RpAll K Gw vs ds) : WalkJ K Γ t (Itt K a) Gw ds := by
  intro σ H G s S g
  have hs : SqT K H a vs := ((h.mono g).mono S.sub).sqt
  refine ⟨fun i d hd => ?_, fun i hi => ⟨vs, hs, by rw [r.length]; exact Nat.le_of_eq hi.symm⟩⟩
  obtain ⟨v, h1, h2⟩ := r.get hd
  refine ⟨⟨vs, v, hs, h1⟩, fun x H' hy => ?_⟩
  obtain ⟨rfl, hy⟩ := hy
  have e := (hy vs hs).symm.trans h1
  cases e
  exact ⟨G, S, .refl, fit_val S (h2.mono g)⟩
/-- a list or a tuple -/
theorem pid_val {tg e : Expr} {t : Tg} {f : Ef} (h : PEd X Γ e f) : PId X Γ tg e t (wVal f) := by
  obtain ⟨te, p, k⟩ := h
  refine ⟨fun σ H R => iList X.K te σ H R ∨ iTup X.K te σ H R, ⟨fun pins s σ H R I q => ?_⟩, fun σ H G s s' ds R S hf hq => ?_⟩
  · rcases q with q | q
    · exact (pi_list p).run pins s σ H R I q
    · exact (pi_tup p).run pins s σ H R I q
  · unfold wVal at hf
    have lst : ∀ r, f s = some (r, s') → fz r = .val (.list ds) → iList X.K te σ H R := fun r e1 e2 => by
      refine k σ H G s s' r _ S e1 fun v H1 G1 S1 T1 g1 => ?_
      obtain ⟨G2, S2, T2, r2⟩ := S.freeze S1 T1 g1
      rw [e2] at r2
      obtain ⟨p, vs, rfl, h1, h2⟩ : ∃ p vs, v = .ref p ∧ G2 p = some (.lst vs) ∧ RpAll X.K G2 vs ds := by
        cases (show Rp X.K G2 v (.list ds) from r2) with
        | lst q r => exact ⟨_, _, rfl, q, r⟩
      exact ⟨p, rfl, ⟨vs, .inl (.inl (S2.sub _ _ h1))⟩, hq _ H1 G2 S2 T2 (WalkJ.list h1 h2)⟩
    split at hf
    · rename_i e1
      cases hf
      exact .inl (lst _ e1 rfl)
    · rename_i e1
      cases hf
      refine .inr (k σ H G s _ _ _ S e1 fun v H1 G1 S1 T1 g1 => ?_)
      obtain ⟨p, vs, rfl, h1, h2⟩ := Rp.tupI g1.rp
      exact ⟨p, rfl, ⟨vs, (h1.mono S1.sub).sqt⟩, hq _ H1 G1 S1 T1 (WalkJ.tup h1 h2)⟩
    · rename_i e1
      cases hf
      exact .inl (lst _ e1 rfl)
    · cases hf
/-- range(n), range(a, b) -/
def rangeD (lo : Int) (n : Nat) : List PyData := (List.range n).map fun i => .int (lo + (i : Nat))
theorem WalkJ.range {K : PySem.W.Frag} {Γ : Gm} {t : Tg} {Gw : Hp} {lo : Int} {n : Nat} : WalkJ K Γ t (Itr lo n) Gw (rangeD lo n) := by
  intro σ H G s S g
  refine ⟨fun i d hd => ?_, fun i hi => (show n ≤ i from Nat.le_of_eq (show n = i from Eq.symm (by simpa [rangeD] using hi)))⟩
  have hi : i < n := by
    have := (List.getElem?_eq_some_iff.mp hd).1
    simpa [rangeD] using this
  have e : d = .int (lo + (i : Nat)) := by
    simp [rangeD, List.getElem?_range hi] at hd
    exact hd.symm
  subst e
  refine ⟨hi, fun x H' hy => ?_⟩
  obtain ⟨rfl, rfl⟩ := hy
  exact ⟨G, S, .refl, fit_val S (.int _)⟩
/-- an end that range takes; a number that stays small -/
def rOk (n : Int) : Bool := Nat.ble n.natAbs 1000000
theorem rOk_lim {n : Int} (h : rOk n = true) : -(2 ^ 62) ≤ n ∧ n < 2 ^ 62 := by
  have := Nat.le_of_ble_eq_true h
  omega
omit [TheW] in
theorem rOk_nat {n : Nat} (h : n ≤ 1000000) : rOk (n : Int) = true := Nat.ble_eq_true_of_le (by omega)
def wRange1 (f : Ef) : Wf := fun s => (fI f s).bind fun (n, s') => if rOk n = true then some (rangeD 0 n.toNat, s') else none
theorem pid_range1 {tg a : Expr} {t : Tg} {f : Ef} {p pos : Pos} (h : PEd X Γ a f) (hg : Gl X "range") (hm : X.mg "range" = none) (hs : starEach [a] X.env = (false, eval a X.env) :: starEach [] X.env := by rfl) : PId X Γ tg (.Call (.Name "range" p) [a] [] pos) t (wRange1 f) := by
  obtain ⟨te, pe, k⟩ := h.int
  refine ⟨_, pi_range1 hg hm (pa_cons pe pa_nil hs) hs, fun σ H G s s' ds R S hf hq => ?_⟩
  unfold wRange1 at hf
  cases h1 : fI f s with
  | none => rw [h1] at hf; cases hf
  | some w =>
    obtain ⟨n, s1⟩ := w
    simp only [h1, Option.bind_some] at hf
    by_cases hn0 : rOk n = true
    · rw [if_pos hn0] at hf
      cases hf
      have hn := rOk_lim hn0
      exact k σ H G s _ n _ S h1 fun H1 G1 S1 T1 => ⟨n, rfl, hn.1, hn.2, hq _ H1 G1 S1 T1 WalkJ.range⟩
    · rw [if_neg hn0] at hf; cases hf
def wRange2 (f g : Ef) : Wf := fun s => (fI f s).bind fun (a, s1) => (fI g s1).bind fun (b, s2) => if (rOk a && rOk b) = true then some (rangeD a (b - a).toNat, s2) else none
theorem pid_range2 {tg a b : Expr} {t : Tg} {f g : Ef} {p pos : Pos} (ha : PEd X Γ a f) (hb : PEd X Γ b g) (hg : Gl X "range") (hm : X.mg "range" = none) (hs : starEach [a, b] X.env = (false, eval a X.env) :: starEach [b] X.env := by rfl) (hs2 : starEach [b] X.env = (false, eval b X.env) :: starEach [] X.env := by rfl) :
    PId X Γ tg (.Call (.Name "range" p) [a, b] [] pos) t (wRange2 f g) := by
  obtain ⟨te, pe, k⟩ := ha.int
  obtain ⟨tb, pb, kb⟩ := hb.int
  refine ⟨_, pi_range2 hg hm (pa_cons pe (pa_cons pb pa_nil hs2) hs) (by rw [hs, hs2]; rfl) hs2, fun σ H G s s' ds R S hf hq => ?_⟩
  unfold wRange2 at hf
  cases h1 : fI f s with
  | none => rw [h1] at hf; cases hf
  | some w =>
    obtain ⟨n, s1⟩ := w
    simp only [h1, Option.bind_some] at hf
    cases h2 : fI g s1 with
    | none => simp only [h2, Option.bind_none] at hf; cases hf
    | some w2 =>
      obtain ⟨m, s2⟩ := w2
      simp only [h2, Option.bind_some] at hf
      by_cases hn0 : (rOk n && rOk m) = true
      · rw [if_pos hn0] at hf
        cases hf
        have hn : -(2 ^ 62) ≤ n ∧ n < 2 ^ 62 ∧ -(2 ^ 62) ≤ m ∧ m < 2 ^ 62 := ⟨(rOk_lim (Bool.and_eq_true_iff.mp hn0).1).1, (rOk_lim (Bool.and_eq_true_iff.mp hn0).1).2, rOk_lim (Bool.and_eq_true_iff.mp hn0).2⟩
        exact k σ H G s s1 n _ S h1 fun H1 G1 S1 T1 => kb σ H1 G1 s1 _ m _ S1 h2 fun H2 G2 S2 T2 => ⟨n, m, rfl, hn, hq _ H2 G2 S2 (T1.trans T2) WalkJ.range⟩
      · rw [if_neg hn0] at hf; cases hf
/-- the signs of a text -/
def wStr (f : Ef) : Wf := fun s => match f s with
  | some (.val (.str z), s') => some (z.cps.toList.map fun c => .str ⟨#[c]⟩, s')
  | _ => none
theorem pid_str {tg e : Expr} {t : Tg} {f : Ef} (h : PEd X Γ e f) : PId X Γ tg e t (wStr f) := by
  obtain ⟨te, p, k⟩ := h
  refine ⟨_, pi_str p, fun σ H G s s' ds R S hf hq => ?_⟩
  unfold wStr at hf
  split at hf
  · rename_i z s1 e1
    cases hf
    refine k σ H G s _ _ _ S e1 fun v H1 G1 S1 T1 g1 => ?_
    cases (show Rp X.K G1 v (.str z) from g1.rp)
    refine ⟨z, rfl, hq _ H1 G1 S1 T1 ?_⟩
    intro σ2 H2 G2 s2 S2 g2
    refine ⟨fun i d hd => ?_, fun i hi => by have hi := Nat.le_of_eq hi.symm; simpa [Its] using hi⟩
    rw [List.getElem?_map] at hd
    cases ec : z.cps.toList[i]? with
    | none => rw [ec] at hd; cases hd
    | some c =>
      rw [ec] at hd
      cases hd
      have ec' : z.cps[i]? = some c := by simpa using ec
      refine ⟨(Array.getElem?_eq_some_iff.mp ec').1, fun x H' hy => ?_⟩
      obtain ⟨rfl, c', hc', rfl⟩ := hy
      rw [ec'] at hc'
      cases hc'
      exact ⟨G2, S2, .refl, fit_val S2 (.str _)⟩
  · cases hf
/-- reversed(list) -/
def wRev (f : Ef) : Wf := fun s => match f s with
  | some (.val (.list ds), s') => some (ds.reverse, s')
  | some (.ownL ds, s') => some (ds.reverse, s')
  | _ => none
theorem pid_rev {tg e : Expr} {t : Tg} {f : Ef} {p pos : Pos} (h : PEd X Γ e f) (hg : Gl X "reversed") (hm : X.mg "reversed" = none) (hs : starEach [e] X.env = (false, eval e X.env) :: starEach [] X.env := by rfl) : PId X Γ tg (.Call (.Name "reversed" p) [e] [] pos) t (wRev f) := by
  obtain ⟨te, pe, k⟩ := h
  refine ⟨_, pi_reversed hg hm (pa_cons pe pa_nil hs) hs, fun σ H G s s' ds R S hf hq => ?_⟩
  unfold wRev at hf
  have lst : ∀ r ds0, f s = some (r, s') → fz r = .val (.list ds0) → ds = ds0.reverse → iRev X.K (tCons te tNil) σ H R := fun r ds0 e1 e2 e3 => by
    subst e3
    refine k σ H G s s' r _ S e1 fun v H1 G1 S1 T1 g1 => ?_
    obtain ⟨G2, S2, T2, r2⟩ := S.freeze S1 T1 g1
    rw [e2] at r2
    obtain ⟨p, vs, rfl, h1, h2⟩ : ∃ p vs, v = .ref p ∧ G2 p = some (.lst vs) ∧ RpAll X.K G2 vs ds0 := by
      cases (show Rp X.K G2 v (.list ds0) from r2) with
      | lst q r => exact ⟨_, _, rfl, q, r⟩
    refine ⟨p, vs, rfl, .inl (.inl (S2.sub _ _ h1)), hq _ H1 G2 S2 T2 ?_⟩
    intro σ3 H3 G3 s3 S3 g3
    have hs : SqL X.K H3 p vs := .inl (.inl (S3.sub _ _ (g3 _ _ h1)))
    refine ⟨fun i d hd => ?_, fun i hi => by rw [List.length_reverse] at hi; rw [h2.length]; exact Nat.le_of_eq hi.symm⟩
    have hl := (List.getElem?_eq_some_iff.mp hd).1
    rw [List.length_reverse] at hl
    rw [List.getElem?_reverse hl] at hd
    obtain ⟨v, f1, f2⟩ := h2.get hd
    rw [← h2.length] at f1
    refine ⟨⟨by rw [h2.length]; exact hl, vs, v, hs, f1⟩, fun x H' hy => ?_⟩
    obtain ⟨rfl, hy⟩ := hy
    have e := (hy vs hs).symm.trans f1
    cases e
    exact ⟨G3, S3, .refl, fit_val S3 (f2.mono g3)⟩
  split at hf
  · rename_i ds0 s1 e1
    cases hf
    exact lst _ ds0 e1 rfl rfl
  · rename_i ds0 s1 e1
    cases hf
    exact lst _ ds0 e1 rfl rfl
  · cases hf
/-- zip of two tuples, of two lists: into a written pair of targets -/
def zipD : List PyData → List PyData → List PyData
  | a :: r, b :: t => .tuple [a, b] :: zipD r t
  | _, _ => []
theorem zipD_get : ∀ {xs ys : List PyData} {i : Nat} {d : PyData}, (zipD xs ys)[i]? = some d → ∃ a b, xs[i]? = some a ∧ ys[i]? = some b ∧ d = .tuple [a, b]
  | [], _, _, _, h => by simp [zipD] at h
  | _ :: _, [], _, _, h => by simp [zipD] at h
  | a :: r, b :: t, 0, d, h => by simp [zipD] at h; exact ⟨a, b, rfl, rfl, h.symm⟩
  | a :: r, b :: t, i + 1, d, h => by
    obtain ⟨x, y, h1, h2, h3⟩ := zipD_get (xs := r) (ys := t) (i := i) (d := d) (by simpa [zipD] using h)
    exact ⟨x, y, by simpa using h1, by simpa using h2, h3⟩
theorem zipD_len : ∀ xs ys : List PyData, (zipD xs ys).length = min xs.length ys.length
  | [], _ => by simp [zipD]
  | _ :: _, [] => by simp [zipD]
  | a :: r, b :: t => by simp [zipD, zipD_len r t]
def wZip (f g : Ef) : Wf := fun s => (f s).bind fun (a, s1) => (g s1).bind fun (b, s2) => match fz a, fz b with
  | .val (.list xs), .val (.list ys) => some (zipD xs ys, s2)
  | .val (.tuple xs), .val (.tuple ys) => some (zipD xs ys, s2)
  | _, _ => none
theorem pid_zip {a b : Expr} {l : List Tg} {f g : Ef} {p pos tpos : Pos} {elts : List Expr} {kk : Nat} (ha : PEd X Γ a f) (hb : PEd X Γ b g) (hg : Gl X "zip") (hm : X.mg "zip" = none)
    (hs : starEach [a, b] X.env = (false, eval a X.env) :: starEach [b] X.env := by rfl) (hs2 : starEach [b] X.env = (false, eval b X.env) :: starEach [] X.env := by rfl) (hpl : (backTo pos (starEach [b] X.env)).any (·.1) = false := by rfl) :
    PId X Γ (.Tuple elts kk tpos) (.Call (.Name "zip" p) [a, b] [] pos) (.tp l) (wZip f g) := by
  obtain ⟨te, pe, k⟩ := ha
  obtain ⟨tb, pb, kb⟩ := hb
  refine ⟨_, RZ.pi_zipA hg hm (pa_cons pe (pa_cons pb pa_nil hs2) hs) hs hpl, fun σ H G s s' ds R S hf hq => ?_⟩
  unfold wZip at hf
  cases h1 : f s with
  | none => rw [h1] at hf; cases hf
  | some w =>
    obtain ⟨x, s1⟩ := w
    simp only [h1, Option.bind_some] at hf
    cases h2 : g s1 with
    | none => simp only [h2, Option.bind_none] at hf; cases hf
    | some w2 =>
      obtain ⟨y, s2⟩ := w2
      simp only [h2, Option.bind_some] at hf
      refine k σ H G s s1 x _ S h1 fun v H1 G1 S1 T1 g1 => ?_
      obtain ⟨G1', S1', T1', r1⟩ := S.freeze S1 T1 g1
      refine kb σ H1 G1' s1 s2 y _ S1' h2 fun w H2 G2 S2 T2 g2 => ?_
      obtain ⟨G2', S2', T2', r2⟩ := S1'.freeze S2 T2 g2
      have T := T1'.trans T2'
      split at hf
      · rename_i xs ys e1 e2
        cases hf
        rw [e1] at r1
        rw [e2] at r2
        obtain ⟨p1, vs1, rfl, a1, a2⟩ : ∃ p vs, v = .ref p ∧ G1' p = some (.lst vs) ∧ RpAll X.K G1' vs xs := by
          cases (show Rp X.K G1' v (.list xs) from r1) with
          | lst q r => exact ⟨_, _, rfl, q, r⟩
        obtain ⟨p2, vs2, rfl, b1, b2⟩ : ∃ p vs, w = .ref p ∧ G2' p = some (.lst vs) ∧ RpAll X.K G2' vs ys := by
          cases (show Rp X.K G2' w (.list ys) from r2) with
          | lst q r => exact ⟨_, _, rfl, q, r⟩
        have a1 := T2'.gg _ _ a1
        have a2 := a2.mono T2'.gg
        refine ⟨p1, p2, vs1, vs2, rfl, .inl ⟨.inl (.inl (S2'.sub _ _ a1)), .inl (.inl (S2'.sub _ _ b1)), hq _ H2 G2' S2' T ?_⟩⟩
        intro σ3 H3 G3 s3 S3 g3
        have q1 : SqL X.K H3 p1 vs1 := .inl (.inl (S3.sub _ _ (g3 _ _ a1)))
        have q2 : SqL X.K H3 p2 vs2 := .inl (.inl (S3.sub _ _ (g3 _ _ b1)))
        refine ⟨fun i d hd => ?_, fun i hi => ⟨vs1, vs2, q1, q2, by rw [zipD_len] at hi; rw [a2.length, b2.length]; omega⟩⟩
        obtain ⟨d1, d2, h3, h4, rfl⟩ := zipD_get hd
        obtain ⟨v1, f1, f2⟩ := a2.get h3
        obtain ⟨v2, f3, f4⟩ := b2.get h4
        refine ⟨⟨vs1, vs2, v1, v2, q1, q2, f1, f3⟩, fun x H' hy => ?_⟩
        obtain ⟨TT, x1, x2, rfl, hT, rfl, y1, y2⟩ := hy
        have e1 := (y1 vs1 q1).symm.trans f1
        have e2 := (y2 vs2 q2).symm.trans f3
        cases e1
        cases e2
        obtain ⟨A, B⟩ := S3.alloc (o := .tup [v1, v2]) hT
        exact ⟨G3, A, B, fun _ => ⟨[d1, d2], TT, [v1, v2], rfl, rfl, .inl (.inl upd_same), .cons (f2.mono g3) (.cons (f4.mono g3) .nil)⟩⟩
      · rename_i xs ys e1 e2
        cases hf
        rw [e1] at r1
        rw [e2] at r2
        obtain ⟨p1, vs1, rfl, a1, a2⟩ := Rp.tupI r1
        obtain ⟨p2, vs2, rfl, b1, b2⟩ := Rp.tupI r2
        have a1 := a1.mono T2'.gg
        have a2 := a2.mono T2'.gg
        refine ⟨p1, p2, vs1, vs2, rfl, .inr ⟨(a1.mono S2'.sub).sqt, (b1.mono S2'.sub).sqt, hq _ H2 G2' S2' T ?_⟩⟩
        intro σ3 H3 G3 s3 S3 g3
        have q1 : SqT X.K H3 p1 vs1 := ((a1.mono g3).mono S3.sub).sqt
        have q2 : SqT X.K H3 p2 vs2 := ((b1.mono g3).mono S3.sub).sqt
        refine ⟨fun i d hd => ?_, fun i hi => ⟨vs1, vs2, q1, q2, by rw [zipD_len] at hi; rw [a2.length, b2.length]; omega⟩⟩
        obtain ⟨d1, d2, h3, h4, rfl⟩ := zipD_get hd
        obtain ⟨v1, f1, f2⟩ := a2.get h3
        obtain ⟨v2, f3, f4⟩ := b2.get h4
        refine ⟨⟨vs1, vs2, v1, v2, q1, q2, f1, f3⟩, fun x H' hy => ?_⟩
        obtain ⟨TT, x1, x2, rfl, hT, rfl, y1, y2⟩ := hy
        have e1 := (y1 vs1 q1).symm.trans f1
        have e2 := (y2 vs2 q2).symm.trans f3
        cases e1
        cases e2
        obtain ⟨A, B⟩ := S3.alloc (o := .tup [v1, v2]) hT
        exact ⟨G3, A, B, fun _ => ⟨[d1, d2], TT, [v1, v2], rfl, rfl, .inl (.inl upd_same), .cons (f2.mono g3) (.cons (f4.mono g3) .nil)⟩⟩
      · cases hf
/-! ### for -/
def sFor (t : Tg) (f : Sf) : List PyData → Sf
  | [] => fun s => some (.nx s)
  | d :: ds => fun s => (t.put (.val d) s).bind fun s1 => (f s1).bind fun o => match o with
    | .nx s2 => sFor t f ds s2
    | .ct s2 => sFor t f ds s2
    | .bk s2 => some (.nx s2)
    | .rt r s2 => some (.rt r s2)
def sForW (w : Wf) (t : Tg) (f : Sf) : Sf := fun s => (w s).bind fun (ds, s1) => sFor t f ds s1
theorem ps_forD {tg iter : Expr} {body : List Stmt} {w : Wf} {t : Tg} {f : Sf} {pos : Pos} (hp : PassesOwn (model X.prog X.w) X.A X.env X.xe) (hc : X.calm = true) (hi : PId X Γ tg iter t w) (hg : PGd X Γ tg t) (hb : PSSd X Γ body f)
    (hs : ∀ x, foldedSetIterable iter X.env x = pure x := by intro _; rfl) : PSd X Γ (.For tg iter body [] pos) (sForW w t f) := by
  obtain ⟨wi, pi, ki⟩ := hi
  obtain ⟨g, pg, kg⟩ := hg
  obtain ⟨tb, pb, kb⟩ := hb
  refine ⟨_, ps_for hp hc pi pg pb hs, fun σ H G s o D S hf hq => ?_⟩
  unfold sForW at hf
  cases h1 : w s with
  | none => rw [h1] at hf; cases hf
  | some q =>
    obtain ⟨ds, s1⟩ := q
    simp only [h1, Option.bind_some] at hf
    refine ki σ H G s s1 ds _ S h1 fun J H1 G1 S1 T1 W1 => ?_
    refine ⟨fun i m σ H => ∃ G2 s2, Sta X.K Γ σ H G2 s2 ∧ Same G1 G2 ∧ i + m = ds.length ∧ sFor t f (ds.drop i) s2 = some o, ⟨ds.length, G1, s1, S1, Same.refl _, by omega, by rw [List.drop_zero]; exact hf⟩, fun i m σ2 H2 hW => ?_⟩
    obtain ⟨G2, s2, S2, e2, hm, h2⟩ := hW
    obtain ⟨w1, w2⟩ := W1 σ2 H2 G2 s2 S2 e2
    by_cases hlt : i < ds.length
    · refine .inr ?_
      have hd : ds[i]? = some ds[i] := List.getElem?_eq_getElem hlt
      obtain ⟨go, yl⟩ := w1 i ds[i] hd
      rw [List.drop_eq_getElem_cons hlt] at h2
      unfold sFor at h2
      cases h3 : t.put (.val ds[i]) s2 with
      | none => rw [h3] at h2; cases h2
      | some s3 =>
        simp only [h3, Option.bind_some] at h2
        cases h4 : f s3 with
        | none => rw [h4] at h2; cases h2
        | some o1 =>
          simp only [h4, Option.bind_some] at h2
          refine ⟨go, fun σ H => ∃ G2 s2, Sta X.K Γ σ H G2 s2 ∧ Same G1 G2 ∧ (i + 1) + (m - 1) = ds.length ∧ sFor t f (ds.drop (i + 1)) s2 = some o, fun σ' H' ⟨G', s', a, b, c, d⟩ => ⟨m - 1, by omega, G', s', a, b, c, d⟩, fun x H' hy => ?_⟩
          obtain ⟨G3, S3, T3, ft⟩ := yl x H' hy
          refine kg σ2 H' G3 s2 s3 x (.val ds[i]) _ S3 (ft ⟨s3, h3⟩) h3 fun σ4 S4 _ => ?_
          refine kb σ4 H' G3 s3 o1 _ S4 h4 ?_
          cases o1 with
          | nx s5 => exact fun σ' H' G' S' e => ⟨G', s5, S', (e2.trans T3.gg).trans e, by omega, h2⟩
          | ct s5 => exact fun σ' H' G' S' e => ⟨G', s5, S', (e2.trans T3.gg).trans e, by omega, h2⟩
          | bk s5 => cases h2; exact hq.mono ((T1.gg.trans e2).trans T3.gg)
          | rt r s5 => cases h2; exact hq.mono ((T1.gg.trans e2).trans T3.gg)
    · refine .inl ⟨w2 i (by omega), ?_⟩
      rw [List.drop_eq_nil_of_le (by omega)] at h2
      cases h2
      exact hq σ2 H2 G2 S2 (T1.gg.trans e2)
end
end PD

set_option Elab.async false
set_option linter.all false
set_option maxRecDepth 100000
set_option maxHeartbeats 1000000
/-! PDk: list comprehensions. -/
namespace PD
open PySem PySem.Spec PyProof.Rows L2
variable [TheW]
/-- the places that a comprehension has for its own -/
def wipeE (env : List (Option Pl)) : List Nat → List (Option Pl)
  | [] => env
  | v :: vs => (wipeE env vs).set v none
def restE (old new : List (Option Pl)) : List Nat → List (Option Pl)
  | [] => new
  | v :: vs => (restE old new vs).set v ((old[v]?).getD none)
theorem wipeE_len (env : List (Option Pl)) : ∀ vs, (wipeE env vs).length = env.length
  | [] => rfl
  | v :: vs => by unfold wipeE; rw [List.length_set, wipeE_len env vs]
theorem restE_len (old new : List (Option Pl)) : ∀ vs, (restE old new vs).length = new.length
  | [] => rfl
  | v :: vs => by unfold restE; rw [List.length_set, restE_len old new vs]
theorem wipeE_some {env : List (Option Pl)} {i : Nat} {a : Pl} : ∀ {vs : List Nat}, (wipeE env vs)[i]? = some (some a) → env[i]? = some (some a) ∧ i ∉ vs
  | [], h => ⟨h, by simp⟩
  | v :: vs, h => by
    unfold wipeE at h
    by_cases hi : v = i
    · subst hi
      by_cases hv : v < (wipeE env vs).length
      · rw [List.getElem?_set_self hv] at h; cases h
      · rw [List.getElem?_eq_none (by simpa using hv)] at h; cases h
    · rw [List.getElem?_set_ne hi] at h
      obtain ⟨h1, h2⟩ := wipeE_some h
      exact ⟨h1, by simp only [List.mem_cons, not_or]; exact ⟨fun e => hi e.symm, h2⟩⟩
theorem wipe_out' {σ : L2.St} {i : Nat} {vs : List Nat} (h : i ∉ vs) : (wipe σ vs)[i]? = σ[i]? := wipe_out h
theorem restE_get {old new : List (Option Pl)} {i : Nat} {a : Pl} (hl : old.length = new.length) : ∀ {vs : List Nat}, (restE old new vs)[i]? = some (some a) → (i ∈ vs ∧ old[i]? = some (some a)) ∨ (i ∉ vs ∧ new[i]? = some (some a))
  | [], h => .inr ⟨by simp, h⟩
  | v :: vs, h => by
    unfold restE at h
    by_cases hi : v = i
    · subst hi
      have lt : v < (restE old new vs).length := by
        have := (List.getElem?_eq_some_iff.mp h).1
        simpa using this
      rw [List.getElem?_set_self lt] at h
      rw [restE_len, ← hl] at lt
      rw [List.getElem?_eq_getElem lt] at h ⊢
      refine .inl ⟨by simp, ?_⟩
      simpa using h
    · rw [List.getElem?_set_ne hi] at h
      rcases restE_get hl h with ⟨h1, h2⟩ | ⟨h1, h2⟩
      · exact .inl ⟨List.mem_cons_of_mem _ h1, h2⟩
      · exact .inr ⟨by simp only [List.mem_cons, not_or]; exact ⟨fun e => hi e.symm, h1⟩, h2⟩
section
variable {K : PySem.W.Frag} {Γ : Gm} {σ : L2.St} {H G : Hp} {s : DS} {vs : List Nat}
theorem ownAt_wipe {env : List (Option Pl)} {fs : FS} {b : Addr} (h : OwnAt (wipe σ vs) ⟨wipeE env vs, fs⟩ b) : OwnAt σ ⟨env, fs⟩ b := by
  obtain ⟨i, a, h1, h2, h3⟩ := h
  obtain ⟨e1, e2⟩ := wipeE_some h1
  exact ⟨i, a, e1, h2, by rw [← wipe_out e2]; exact h3⟩
theorem Sta.wiped (S : Sta K Γ σ H G s) : Sta K Γ (wipe σ vs) H G ⟨wipeE s.env vs, s.fs⟩ := by
  refine ⟨S.sub, S.g0, S.fr, S.keep, by show (wipeE s.env vs).length = _; rw [wipeE_len, wipe_length]; exact S.len, fun i a e => ?_, fun i j a c v e1 e2 h1 h2 f1 f2 => ?_, fun b e => S.new b (ownAt_wipe e), S.fd, S.tok, S.tgr, S.gnt⟩
  · obtain ⟨e1, e2⟩ := wipeE_some e
    obtain ⟨v, h1, h2⟩ := S.env i a e1
    exact ⟨v, by rw [wipe_out e2]; exact h1, h2⟩
  · obtain ⟨e1, e1'⟩ := wipeE_some e1
    obtain ⟨e2, e2'⟩ := wipeE_some e2
    rw [wipe_out e1'] at f1
    rw [wipe_out e2'] at f2
    exact S.dis i j a c v e1 e2 h1 h2 f1 f2
/-- behind the block: the own places are as they were -/
theorem Sta.rested {H1 G1 : Hp} {s1 s2 : DS} (S1 : Sta K Γ σ H1 G1 s1) (hn : ∀ v ∈ vs, ∀ a, s1.env[v]? = some (some a) → a.own = false) (S2 : Sta K Γ (wipe σ vs) H G s2) (T : Stp Γ (wipe σ vs) H1 G1 ⟨wipeE s1.env vs, s1.fs⟩ H G s2) :
    Sta K Γ σ H G ⟨restE s1.env s2.env vs, s2.fs⟩ ∧ Stp Γ σ H1 G1 s1 H G ⟨restE s1.env s2.env vs, s2.fs⟩ := by
  have hl : s1.env.length = s2.env.length := by rw [S1.len, S2.len, wipe_length]
  have own : ∀ b, OwnAt σ ⟨restE s1.env s2.env vs, s2.fs⟩ b → OwnAt (wipe σ vs) s2 b := fun b ⟨i, a, h1, h2, h3⟩ => by
    rcases restE_get hl h1 with ⟨e1, e2⟩ | ⟨e1, e2⟩
    · rw [hn i e1 a e2] at h2; cases h2
    · exact ⟨i, a, e2, h2, by rw [wipe_out e1]; exact h3⟩
  refine ⟨⟨S2.sub, S2.g0, S2.fr, S2.keep, by show (restE s1.env s2.env vs).length = _; rw [restE_len, S2.len, wipe_length], fun i a e => ?_, fun i j a c v e1 e2 h1 h2 f1 f2 => ?_, fun b e => S2.new b (own b e), S2.fd, S2.tok, S2.tgr, S2.gnt⟩,
    ⟨T.gg, fun b o h1 h2 nt e => T.keep b o h1 (fun z => h2 (ownAt_wipe z)) nt e, fun b e => ownAt_wipe (T.own b (own b e)), fun b e => ?_, T.mo, T.tgr⟩⟩
  · rcases restE_get hl e with ⟨e1, e2⟩ | ⟨e1, e2⟩
    · obtain ⟨v, h1, h2⟩ := S1.env i a e2
      exact ⟨v, h1, h2.step T.gg fun z => by rw [hn i e1 a e2] at z; cases z⟩
    · obtain ⟨v, h1, h2⟩ := S2.env i a e2
      exact ⟨v, by rw [← wipe_out e1]; exact h1, h2⟩
  · rcases restE_get hl e1 with ⟨g1, g2⟩ | ⟨g1, g2⟩
    · rw [hn i g1 a g2] at h1; cases h1
    · rcases restE_get hl e2 with ⟨g3, g4⟩ | ⟨g3, g4⟩
      · rw [hn j g3 c g4] at h2; cases h2
      · rw [← wipe_out g1] at f1
        rw [← wipe_out g3] at f2
        exact S2.dis i j a c v g2 g4 h1 h2 f1 f2
  · rcases T.nw b e with q | q | q
    · exact .inl q
    · exact .inr (.inl q)
    · exact .inr (.inr (ownAt_wipe q))
/-- between two turns -/
theorem Sta.rewiped {τ : L2.St} {H0 G0 H G : Hp} {s0 s : DS} (hw : wipe τ vs = wipe σ vs) (S : Sta K Γ τ H G s) (T : Stp Γ τ H0 G0 s0 H G s) (h0 : ∀ b, OwnAt τ s0 b → OwnAt (wipe σ vs) ⟨wipeE s0.env vs, s0.fs⟩ b) :
    Sta K Γ (wipe σ vs) H G ⟨wipeE s.env vs, s.fs⟩ := by
  rw [← hw]
  exact S.wiped
end
def plainAt (env : List (Option Pl)) (vs : List Nat) : Bool := vs.all fun v => match env[v]? with
  | some (some a) => !a.own
  | _ => true
theorem plainAt_of {env : List (Option Pl)} {vs : List Nat} (h : plainAt env vs = true) : ∀ v ∈ vs, ∀ a, env[v]? = some (some a) → a.own = false := fun v hv a e => by
  have := List.all_eq_true.mp h v hv
  rw [e] at this
  simpa using this
/-- one turn's end: the places wiped again -/
def lcLoop (vs : List Nat) (t : Tg) (ft : Bf) (fe : Ef) : List PyData → List PyData → DS → Option (List PyData × DS)
  | [], acc, s => some (acc, s)
  | d :: ds, acc, s => (t.put (.val d) s).bind fun s1 => (ft s1).bind fun (b, s2) =>
    if b = true then (fe s2).bind fun (r, s3) => match fz r with
      | .val x => if acc.length < sizeLine then lcLoop vs t ft fe ds (acc ++ [x]) ⟨wipeE s3.env vs, s3.fs⟩ else none
      | _ => none
    else lcLoop vs t ft fe ds acc ⟨wipeE s2.env vs, s2.fs⟩
def fLc (vs : List Nat) (w : Wf) (t : Tg) (ft : Bf) (fe : Ef) : Ef := fun s => (w s).bind fun (ds, s1) => if plainAt s1.env vs = true then
    (lcLoop vs t ft fe ds [] ⟨wipeE s1.env vs, s1.fs⟩).map fun (xs, s2) => (.ownL xs, ⟨restE s1.env s2.env vs, s2.fs⟩) else none
section
variable {X : Cx} {Γ : Gm}
/-- the tests of a comprehension -/
def PTsd (X : Cx) (Γ : Gm) (es : List Expr) (f : Bf) : Prop :=
  ∃ t : TT, PTs X es t ∧ ∀ (σ : L2.St) (H G : Hp) (s s' : DS) (b : Bool) (Q : Bool → Hp → Prop), Sta X.K Γ σ H G s → f s = some (b, s') →
    (∀ H' G', Sta X.K Γ σ H' G' s' → Stp Γ σ H G s H' G' s' → Q b H') → t σ H Q
def bYes : Bf := fun s => some (true, s)
theorem ptsd_nil : PTsd X Γ [] bYes := ⟨_, pts_nil, fun σ H G s s' b Q S hf hq => by cases hf; exact hq H G S .refl⟩
theorem ptsd_one {c : Expr} {f : Bf} (h : PTd X Γ c f) : PTsd X Γ [c] f := by
  obtain ⟨t, p, k⟩ := h
  exact ⟨t, pts_one p, k⟩
theorem wipe_idem {σ : L2.St} (vs : List Nat) : wipe (wipe σ vs) vs = wipe σ vs := by
  apply List.ext_getElem?
  intro i
  by_cases h : i ∈ vs
  · have aux : ∀ (us : List Nat) (τ : L2.St), i ∈ us → (wipe τ us)[i]? = (τ[i]?).map fun _ => none := by
      intro us
      induction us with
      | nil => intro τ h; cases h
      | cons u us ih =>
        intro τ h
        unfold wipe
        by_cases z : u = i
        · subst z
          by_cases l : u < (wipe τ us).length
          · rw [List.getElem?_set_self l]
            rw [wipe_length] at l
            rw [List.getElem?_eq_getElem l]; rfl
          · rw [List.getElem?_eq_none (by simpa using l)]
            rw [wipe_length] at l
            rw [List.getElem?_eq_none (by omega)]; rfl
        · rw [List.getElem?_set_ne z]
          exact ih τ (by rcases List.mem_cons.mp h with q | q; exact absurd q.symm z; exact q)
    rw [aux vs _ h, aux vs _ h]
    cases σ[i]? <;> rfl
  · rw [wipe_out h]
mutual
theorem put_own : ∀ (t : Tg) (d : PyData) (s s' : DS), t.put (.val d) s = some s' → ∀ (i : Nat) (a : Pl), s'.env[i]? = some (some a) → a.own = true → s.env[i]? = some (some a)
  | .nm j, d, s, s', h, i, a, e, o => by
    simp only [Tg.put, Option.some.injEq] at h
    subst h
    by_cases z : j = i
    · subst z
      have l : j < s.env.length := by
        have := (List.getElem?_eq_some_iff.mp e).1
        simpa using this
      have e' : (s.env.set j (some (.val d)))[j]? = some (some a) := e
      rw [List.getElem?_set_self l] at e'
      cases e'
      cases o
    · have e' : (s.env.set j (some (.val d)))[i]? = some (some a) := e
      rw [List.getElem?_set_ne z] at e'
      exact e'
  | .tp l, d, s, s', h, i, a, e, o => by
    cases d with
    | tuple ds => simp only [Tg.put] at h; exact putAll_own l ds s s' h i a e o
    | none => simp [Tg.put] at h
    | bool b => simp [Tg.put] at h
    | int b => simp [Tg.put] at h
    | str b => simp [Tg.put] at h
    | list b => simp [Tg.put] at h
    | dict b => simp [Tg.put] at h
theorem putAll_own : ∀ (l : List Tg) (ds : List PyData) (s s' : DS), Tg.putAll l ds s = some s' → ∀ (i : Nat) (a : Pl), s'.env[i]? = some (some a) → a.own = true → s.env[i]? = some (some a)
  | [], [], s, s', h, i, a, e, o => by simp only [Tg.putAll, Option.some.injEq] at h; subst h; exact e
  | [], _ :: _, s, s', h, i, a, e, o => by simp [Tg.putAll] at h
  | _ :: _, [], s, s', h, i, a, e, o => by simp [Tg.putAll] at h
  | t :: r, d :: ds, s, s', h, i, a, e, o => by
    simp only [Tg.putAll] at h
    cases e1 : t.put (.val d) s with
    | none => rw [e1] at h; cases h
    | some s1 =>
      rw [e1, Option.bind_some] at h
      exact put_own t d s s1 e1 i a (putAll_own r ds s1 s' h i a e o) o
end
theorem Sta.touch {K : PySem.W.Frag} {σ : L2.St} {H G : Hp} {s : DS} (S : Sta K Γ σ H G s) {D : Addr} {o : HO} (gd : G D = none) (df : D ≠ Γ.fa) (no : ¬ OwnAt σ s D) (h0 : Γ.H0 D = none) (hD : ∀ ps, H D ≠ some (.tbl ps)) (nt : isT o = false := by rfl) : Sta K Γ σ (upd H D o) G s := by
  refine ⟨fun b x e => ?_, S.g0, S.fr, fun b x h1 n2 h2 => ?_, S.len, fun i sl e => ?_, S.dis, S.new, ?_, S.tok.put nt, S.tgr.after hD, S.gnt⟩
  · rw [upd_ne (fun z => by rw [z, gd] at e; cases e)]; exact S.sub _ _ e
  · rw [upd_ne (fun z => by rw [z, h0] at h2; cases h2)]; exact S.keep b x h1 n2 h2
  · obtain ⟨v, h1, h2⟩ := S.env i sl e
    refine ⟨v, h1, h2.step (Same.refl _) fun ow q hq => ?_⟩
    obtain ⟨q', o', e1, e2, e3, _⟩ := h2.ownP ow
    rw [hq] at e1
    cases e1
    exact ⟨upd_ne fun z => no ⟨i, sl, e, ow, by rw [h1, hq, z]⟩, e3⟩
  · obtain ⟨c, h1, h2, h3⟩ := S.fd
    exact ⟨c, by rw [upd_ne (Ne.symm df)]; exact h1, h2, h3⟩
theorem turnStp {σ τ : L2.St} {H1 G1 Ha Ga Hb Gb : Hp} {s1 s2 s3 s5 s6 : DS} (Ta : Stp Γ σ H1 G1 s1 Ha Ga s2) (o3 : ∀ b, OwnAt τ s3 b → OwnAt σ s2 b) (Tb : Stp Γ τ Ha Ga s3 Hb Gb s5) (o5 : ∀ b, OwnAt σ s6 b → OwnAt τ s5 b) : Stp Γ σ H1 G1 s1 Hb Gb s6 :=
  ⟨Ta.gg.trans Tb.gg, fun b o h1 h2 nt e => Tb.keep b o h1 (fun z => h2 (Ta.own b (o3 b z))) nt (Ta.keep b o h1 h2 nt e), fun b e => Ta.own b (o3 b (Tb.own b (o5 b e))), fun b e => by
    rcases Tb.nw b e with q | q | q
    · exact Ta.nw b q
    · refine .inr (.inl ?_)
      cases z : H1 b with
      | none => rfl
      | some o => exact absurd q (Ta.mo b (by rw [z]; simp))
    · exact .inr (.inr (Ta.own b (o3 b q))), fun b e => Tb.mo b (Ta.mo b e), Ta.tgr.trans Tb.tgr⟩
abbrev BlkD (X : Cx) (scope : Scope) (P : Cx → Prop) : Prop := ∀ (s : Shared) (H : Hp) (C : Addr) (cl : List (Str × Addr)) (fp : List Addr), P (X.blk s H scope (compEnvC scope cl C X.env) fp)
/-- the readings for all blocks at once -/
theorem lc_read {elt tg iter : Expr} {ifs : List Expr} {scope : Scope} {own : List (Str × Nat)} {w : Wf} {t : Tg} {ft : Bf} {fe : Ef} (hi : PId X Γ tg iter t w)
    (hg : BlkD X scope fun Y => PGd Y Γ tg t) (ht : BlkD X scope fun Y => PTsd Y Γ ifs ft) (he : BlkD X scope fun Y => PEd Y Γ elt fe) (hsub : t.slots.all (fun i => decide (i ∈ own.map (·.2))) = true) :
    ∃ (wi : TI) (g : TG) (tt : TT) (te : TE), PI X tg iter wi ∧ (BlkD X scope fun Y => PG Y tg g) ∧ (BlkD X scope fun Y => PTs Y ifs tt) ∧ (BlkD X scope fun Y => PE Y elt te) ∧
      ∀ (σ : L2.St) (H G : Hp) (s s' : DS) (r : Pl) (Q : VK), Sta X.K Γ σ H G s → fLc (own.map (·.2)) w t ft fe s = some (r, s') →
        (∀ v H' G', Sta X.K Γ σ H' G' s' → Stp Γ σ H G s H' G' s' → Got X.K Γ H H' G' v r → Q v H') → tLc wi g tt te (own.map (·.2)) σ H Q := by
  obtain ⟨wi, pi, ki⟩ := hi
  let g : TG := fun v σ H Q => ∀ (s : Shared) (H' : Hp) (C : Addr) (cl : List (Str × Addr)) (fp : List Addr), (Classical.choose (hg s H' C cl fp)) v σ H Q
  let tt : TT := fun σ H Q => ∀ (s : Shared) (H' : Hp) (C : Addr) (cl : List (Str × Addr)) (fp : List Addr), (Classical.choose (ht s H' C cl fp)) σ H Q
  let te : TE := fun σ H Q => ∀ (s : Shared) (H' : Hp) (C : Addr) (cl : List (Str × Addr)) (fp : List Addr), (Classical.choose (he s H' C cl fp)) σ H Q
  refine ⟨wi, g, tt, te, pi, fun s H C cl fp => ⟨fun pins s1 σ H1 v u Q I r q => (Classical.choose_spec (hg s H C cl fp)).1.run pins s1 σ H1 v u Q I r (q s H C cl fp)⟩,
    fun s H C cl fp => ⟨fun pins s1 σ H1 Q I q => (Classical.choose_spec (ht s H C cl fp)).1.run pins s1 σ H1 Q I (q s H C cl fp)⟩,
    fun s H C cl fp => ⟨fun pins s1 σ H1 Q I q => (Classical.choose_spec (he s H C cl fp)).1.run pins s1 σ H1 Q I (q s H C cl fp)⟩, fun σ H G s s' r Q S hf hq => ?_⟩
  have kg : ∀ (σ : L2.St) (H G : Hp) (s s' : DS) (v : V) (r : Pl) (Q : L2.St → Hp → Prop), Sta X.K Γ σ H G s → FitT X.K Γ σ H G s v r t → t.put r s = some s' →
    (∀ σ', Sta X.K Γ σ' H G s' → (∀ vs : List Nat, (∀ i ∈ t.slots, i ∈ vs) → wipe σ' vs = wipe σ vs) → Q σ' H) → g v σ H Q := fun σ H G s s' v r Q a b c d s2 H' C cl fp => (Classical.choose_spec (hg s2 H' C cl fp)).2 σ H G s s' v r Q a b c d
  have kt : ∀ (σ : L2.St) (H G : Hp) (s s' : DS) (b : Bool) (Q : Bool → Hp → Prop), Sta X.K Γ σ H G s → ft s = some (b, s') →
    (∀ H' G', Sta X.K Γ σ H' G' s' → Stp Γ σ H G s H' G' s' → Q b H') → tt σ H Q := fun σ H G s s' b Q a h d s2 H' C cl fp => (Classical.choose_spec (ht s2 H' C cl fp)).2 σ H G s s' b Q a h d
  have ke : ∀ (σ : L2.St) (H G : Hp) (s s' : DS) (r : Pl) (Q : VK), Sta X.K Γ σ H G s → fe s = some (r, s') →
    (∀ v H' G', Sta X.K Γ σ H' G' s' → Stp Γ σ H G s H' G' s' → Got X.K Γ H H' G' v r → Q v H') → te σ H Q := fun σ H G s s' b Q a h d s2 H' C cl fp => (Classical.choose_spec (he s2 H' C cl fp)).2 σ H G s s' b Q a h d
  have hsub' : ∀ i ∈ t.slots, i ∈ own.map (·.2) := fun i h => of_decide_eq_true (List.all_eq_true.mp hsub i h)
  generalize own.map (·.2) = vs at hf hsub' ⊢
  unfold fLc at hf
  cases h1 : w s with
  | none => rw [h1] at hf; cases hf
  | some q =>
  obtain ⟨ds, s1⟩ := q
  simp only [h1, Option.bind_some] at hf
  by_cases hp : plainAt s1.env vs = true
  case neg => rw [if_neg hp] at hf; cases hf
  rw [if_pos hp] at hf
  cases h2 : lcLoop vs t ft fe ds [] ⟨wipeE s1.env vs, s1.fs⟩ with
  | none => rw [h2] at hf; cases hf
  | some q2 =>
  obtain ⟨xs, sF⟩ := q2
  rw [h2] at hf
  cases hf
  refine ki σ H G s s1 ds _ S h1 fun J H1 G1 S1 T1 W1 => ?_
  intro D hD
  have Sw : Sta X.K Γ (wipe σ vs) H1 G1 ⟨wipeE s1.env vs, s1.fs⟩ := S1.wiped
  obtain ⟨gD, dfa⟩ := S1.gNone hD
  have h0D := S1.fresh0 hD
  have noD : ∀ {H2 G2 : Hp} {s2 : DS}, Stp Γ (wipe σ vs) H1 G1 ⟨wipeE s1.env vs, s1.fs⟩ H2 G2 s2 → ¬ OwnAt (wipe σ vs) s2 D := fun T z => by
    obtain ⟨⟨o, q⟩, _⟩ := Sw.ownThere (T.own D z)
    rw [hD] at q; cases q
  refine ⟨fun i m H => ∃ (G2 : Hp) (s2 : DS) (acc : List PyData) (va : List V), Sta X.K Γ (wipe σ vs) H G2 s2 ∧ Stp Γ (wipe σ vs) H1 G1 ⟨wipeE s1.env vs, s1.fs⟩ H G2 s2 ∧ H D = some (.lst va) ∧ G2 D = none ∧ RpAll X.K G2 va acc ∧
    (∀ v ∈ vs, ∀ a, s2.env[v]? ≠ some (some a)) ∧ i + m = ds.length ∧ lcLoop vs t ft fe (ds.drop i) acc s2 = some (xs, sF), ⟨ds.length, G1, ⟨wipeE s1.env vs, s1.fs⟩, [], [], ?_⟩, fun i m H2 hW => ?_⟩
  · obtain ⟨A, B⟩ := Sw.alloc (o := .lst []) hD
    exact ⟨A, B, upd_same, gD, .nil, fun v hv a e => (wipeE_some e).2 hv, by omega, by rw [List.drop_zero]; exact h2⟩
  · obtain ⟨G2, s2, acc, va, S2, T2, hva, gD2, ra, hvs, hm, hl⟩ := hW
    obtain ⟨w1, w2⟩ := W1 (wipe σ vs) H2 G2 s2 S2 T2.gg
    by_cases hlt : i < ds.length
    case neg =>
      refine .inl ⟨w2 i (by omega), ?_⟩
      rw [List.drop_eq_nil_of_le (by omega)] at hl
      unfold lcLoop at hl
      cases hl
      obtain ⟨A, B⟩ := S1.rested (plainAt_of hp) S2 T2
      refine hq (.ref D) H2 G2 A (T1.trans B) ⟨⟨D, va, rfl, hva, gD2, dfa, ra⟩, fun _ => ⟨D, rfl, ?_⟩⟩
      cases z : H D with
      | none => rfl
      | some o => exact absurd hD (T1.mo D (by rw [z]; simp))
    refine .inr ?_
    have hd : ds[i]? = some ds[i] := List.getElem?_eq_getElem hlt
    obtain ⟨go, yl⟩ := w1 i ds[i] hd
    rw [List.drop_eq_getElem_cons hlt] at hl
    unfold lcLoop at hl
    cases h3 : t.put (.val ds[i]) s2 with
    | none => rw [h3] at hl; cases hl
    | some s3 =>
    simp only [h3, Option.bind_some] at hl
    cases h4 : ft s3 with
    | none => rw [h4] at hl; cases hl
    | some q4 =>
    obtain ⟨b, s4⟩ := q4
    simp only [h4, Option.bind_some] at hl
    refine ⟨go, fun H => ∃ (G2 : Hp) (s2 : DS) (acc : List PyData) (va : List V), Sta X.K Γ (wipe σ vs) H G2 s2 ∧ Stp Γ (wipe σ vs) H1 G1 ⟨wipeE s1.env vs, s1.fs⟩ H G2 s2 ∧ H D = some (.lst va) ∧ G2 D = none ∧ RpAll X.K G2 va acc ∧
      (∀ v ∈ vs, ∀ a, s2.env[v]? ≠ some (some a)) ∧ (i + 1) + (m - 1) = ds.length ∧ lcLoop vs t ft fe (ds.drop (i + 1)) acc s2 = some (xs, sF),
      fun H' ⟨a1, a2, a3, a4, a5, a6, a7, a8, a9, a10, a11, a12⟩ => ⟨m - 1, by omega, a1, a2, a3, a4, a5, a6, a7, a8, a9, a10, a11, a12⟩, fun x H' hy => ?_⟩
    obtain ⟨G3, S3, T3, fit⟩ := yl x H' hy
    refine kg (wipe σ vs) H' G3 s2 s3 x (.val ds[i]) _ S3 (fit ⟨s3, h3⟩) h3 fun σ4 S4 w4 => ?_
    have hw : wipe σ4 vs = wipe σ vs := (w4 vs hsub').trans (wipe_idem vs)
    refine ⟨hw, ?_⟩
    have o3 : ∀ b, OwnAt σ4 s3 b → OwnAt (wipe σ vs) s2 b := fun b ⟨j, a, e1, e2, e3⟩ => by
      have f1 := put_own t _ s2 s3 h3 j a e1 e2
      have f2 : j ∉ vs := fun z => hvs j z a f1
      refine ⟨j, a, f1, e2, ?_⟩
      rw [← hw, wipe_out f2]
      exact e3
    have o5 : ∀ (s5 : DS) (b : Addr), OwnAt (wipe σ vs) ⟨wipeE s5.env vs, s5.fs⟩ b → OwnAt σ4 s5 b := fun s5 b ⟨j, a, e1, e2, e3⟩ => by
      obtain ⟨f1, f2⟩ := wipeE_some e1
      rw [← hw, wipe_out f2] at e3
      exact ⟨j, a, f1, e2, e3⟩
    have T23 := T2.trans T3
    have hva3 : H' D = some (.lst va) := T3.keep D _ dfa (noD T2) rfl hva
    have gD3 : G3 D = none := by
      cases z : G3 D with
      | none => rfl
      | some o =>
        rcases T3.nw D (by rw [z]; simp) with q | q | q
        · exact absurd gD2 q
        · rw [hva] at q; cases q
        · exact absurd q (noD T2)
    have no4 : ∀ {H5 G5 : Hp} {s5 : DS}, Stp Γ σ4 H' G3 s3 H5 G5 s5 → ¬ OwnAt σ4 s5 D := fun T z => noD T23 (o3 D (T.own D z))
    have keepD : ∀ {H5 G5 : Hp} {s5 : DS}, Stp Γ σ4 H' G3 s3 H5 G5 s5 → H5 D = some (.lst va) ∧ G5 D = none := fun {H5 G5 s5} T => by
      have n3 : ¬ OwnAt σ4 s3 D := fun z => noD T23 (o3 D z)
      refine ⟨T.keep D _ dfa n3 rfl hva3, ?_⟩
      cases z : G5 D with
      | none => rfl
      | some o =>
        rcases T.nw D (by rw [z]; simp) with q | q | q
        · exact absurd gD3 q
        · rw [hva3] at q; cases q
        · exact absurd q n3
    refine kt σ4 H' G3 s3 s4 b _ S4 h4 fun H5 G5 S5 T5 => ?_
    cases b with
    | false =>
      rw [if_neg Bool.false_ne_true] at hl ⊢
      obtain ⟨d1, d2⟩ := keepD T5
      refine ⟨G5, ⟨wipeE s4.env vs, s4.fs⟩, acc, va, by rw [← hw]; exact S5.wiped, turnStp T23 o3 T5 (o5 s4), d1, d2, ra.mono (T3.gg.trans T5.gg), fun v hv a e => (wipeE_some e).2 hv, by omega, hl⟩
    | true =>
      rw [if_pos rfl] at hl ⊢
      cases h5 : fe s4 with
      | none => rw [h5] at hl; cases hl
      | some q5 =>
      obtain ⟨r, s5⟩ := q5
      simp only [h5, Option.bind_some] at hl
      refine ke σ4 H5 G5 s4 s5 r _ S5 h5 fun v H6 G6 S6 T6 g6 => ?_
      obtain ⟨G7, S7, T7, r7⟩ := S5.freeze S6 T6 g6
      have T57 := T5.trans T7
      obtain ⟨d1, d2⟩ := keepD T57
      split at hl
      · rename_i y ey
        rw [ey] at r7
        by_cases hz : acc.length < sizeLine
        case neg => rw [if_neg hz] at hl; cases hl
        rw [if_pos hz] at hl
        have T8 := turnStp T23 o3 T57 (o5 s5)
        have Sw7 : Sta X.K Γ (wipe σ vs) H6 G7 ⟨wipeE s5.env vs, s5.fs⟩ := by rw [← hw]; exact S7.wiped
        refine ⟨va, d1, by rw [ra.length]; exact hz, G7, ⟨wipeE s5.env vs, s5.fs⟩, acc ++ [y], va ++ [v], Sw7.touch d2 dfa (noD T8) h0D (some_nt d1 rfl), ⟨T8.gg, fun b o n1 n2 nt e => ?_, T8.own, T8.nw, fun b e => ?_, T8.tgr.after (some_nt d1 rfl)⟩, upd_same, d2, (ra.mono (T3.gg.trans T57.gg)).append (.cons r7 .nil), fun v hv a e => (wipeE_some e).2 hv, by omega, hl⟩
        · rw [upd_ne (fun z => by rw [z, hD] at e; cases e)]
          exact T8.keep b o n1 n2 nt e
        · rw [upd_ne (fun z => e (by rw [z]; exact hD))]
          exact T8.mo b e
      · cases hl
theorem pd_lc {elt tg iter : Expr} {ifs : List Expr} {scope : Scope} {own : List (Str × Nat)} {pos : Pos} {w : Wf} {t : Tg} {ft : Bf} {fe : Ef} (hc : X.calm = true) (hN : X.N.Nodup) (hi : PId X Γ tg iter t w) (ok : BlkOk X.N X.env.scope scope own)
    (hg : BlkD X scope fun Y => PGd Y Γ tg t) (ht : BlkD X scope fun Y => PTsd Y Γ ifs ft) (he : BlkD X scope fun Y => PEd Y Γ elt fe) (hsub : t.slots.all (fun i => decide (i ∈ own.map (·.2))) = true := by rfl) (hs : ∀ x, foldedSetIterable iter X.env x = pure x := by intro _; rfl) :
    PEd X Γ (.ListComp elt [⟨tg, iter, ifs, 0⟩] scope pos) (fLc (own.map (·.2)) w t ft fe) := by
  obtain ⟨wi, g, tt, te, pi, pg, pt, pe, k⟩ := lc_read (ifs := ifs) hi hg ht he hsub
  exact ⟨_, pe_lc hc hN pi ok pg pt pe hs, k⟩
theorem ps_setLcD {i : Nat} {y : Str} {py : Pos} {elt tg iter : Expr} {ifs : List Expr} {scope : Scope} {own : List (Str × Nat)} {pos spos : Pos} {w : Wf} {t : Tg} {ft : Bf} {fe : Ef} (hc : X.calm = true) (hN : X.N.Nodup) (hy : X.N[i]? = some y) (hyl : X.env.scope.names.lookup y = some .local)
    (hsw : swapsWith (.ListComp elt [⟨tg, iter, ifs, 0⟩] scope pos) (some (.Name y py)) spos.line X.env = pure true) (hi : PId X Γ tg iter t w) (ok : BlkOk X.N X.env.scope scope own)
    (hg : BlkD X scope fun Y => PGd Y Γ tg t) (ht : BlkD X scope fun Y => PTsd Y Γ ifs ft) (he : BlkD X scope fun Y => PEd Y Γ elt fe) (hsub : t.slots.all (fun i => decide (i ∈ own.map (·.2))) = true := by rfl) (hs : ∀ x, foldedSetIterable iter X.env x = pure x := by intro _; rfl) :
    PSd X Γ (.Assign [.Name y py] (.ListComp elt [⟨tg, iter, ifs, 0⟩] scope pos) spos) (sAsg (fLc (own.map (·.2)) w t ft fe) (.nm i)) := by
  obtain ⟨wi, g, tt, te, pi, pg, pt, pe, k⟩ := lc_read (ifs := ifs) hi hg ht he hsub
  refine ⟨_, ps_setLc hc hN hy hyl hsw pi ok pg pt pe hs, fun σ H G s o D S hf hp => ?_⟩
  unfold sAsg at hf
  cases h1 : fLc (own.map (·.2)) w t ft fe s with
  | none => rw [h1] at hf; cases hf
  | some q =>
    obtain ⟨r, s1⟩ := q
    simp only [h1, Option.bind_some, Tg.put, Option.map_some, Option.some.injEq] at hf
    subst hf
    refine k σ H G s s1 r _ S h1 fun v H1 G1 S1 T1 g1 => ?_
    exact hp _ H1 G1 (S1.put i (g1.fits S T1)) T1.gg
end
end PD

set_option Elab.async false
set_option linter.all false
set_option maxRecDepth 100000
set_option maxHeartbeats 1000000
/-! PDl: defs as functions of data; their calls. -/
namespace PD
open PySem PySem.Spec PyProof.Rows L2
variable [TheW]
abbrev Df := List Pl → FS → Option (Pl × FS)
/-- what stands behind a call -/
structure CallP (K : PySem.W.Frag) (fa : Addr) (H G : Hp) (fs' : FS) (H' G' : Hp) (v : V) (r : Pl) : Prop where
  gg : Same G G'
  nw : ∀ b, G' b ≠ none → G b ≠ none ∨ H b = none
  sub : Same G' H'
  keep : ∀ b o, b ≠ fa → isT o = false → H b = some o → H' b = some o
  fd : FeedAt fa H' G' fs'
  rp : SRp K fa H' G' v r
  ow : r.own = true → ∃ p, v = .ref p ∧ H p = none
  tok : TOk H'
  tgr : TGr H H'
  gnt : NoT G'
structure FnD (P : Program) (w : World) (K : PySem.W.Frag) (mg : Str → Option Value) (base : Heap) (tb : Addr → Prop) (k : Nat) (f : Addr) (fd : FuncData) (ps : List Str) (g : Df) : Prop where
  len : ∀ as fs q, g as fs = some q → as.length = ps.length
  run : ∀ (A : Around) (outer : List Env) (s : Shared) (H : Hp) (args : Args) (us : List Value) (vs : List V), Room k A → A.guards = some [] → Env0 P w K mg base A outer s H → BindsTo s fd args (ps.zip us) → Vals vs us → vs.length = ps.length →
    ∀ (fa : Addr) (G : Hp) (as : List Pl) (fs fs' : FS) (r : Pl) (Q : VK), Same G H → FeedAt fa H G fs → SAll K fa H G vs as → TOk H → NoT G → TbAt tb H → g as fs = some (r, fs') →
      (∀ v H' G', CallP K fa H G fs' H' G' v r → Q v H') → codeAny (model P w) A (.call (.ref f) args) (CR CX0 outer P w H s Q E0) s
theorem FnD.mono {P : Program} {w : World} {K : PySem.W.Frag} {mg : Str → Option Value} {base : Heap} {tb : Addr → Prop} {j k : Nat} {f : Addr} {fd : FuncData} {ps : List Str} {g : Df} (F : FnD P w K mg base tb j f fd ps g) (h : j ≤ k) : FnD P w K mg base tb k f fd ps g :=
  ⟨F.len, fun A outer s H args us vs hr => F.run A outer s H args us vs (hr.mono h)⟩
/-- a def told by an equal function, or by one that says less -/
theorem FnD.imp {P : Program} {w : World} {K : PySem.W.Frag} {mg : Str → Option Value} {base : Heap} {tb : Addr → Prop} {k : Nat} {f : Addr} {fd : FuncData} {ps : List Str} {g g' : Df} (F : FnD P w K mg base tb k f fd ps g) (h : ∀ as fs q, g' as fs = some q → g as fs = some q) : FnD P w K mg base tb k f fd ps g' :=
  ⟨fun as fs q e => F.len as fs q (h as fs q e), fun A outer s H args us vs hr hgd e0 hb rv hl fa G as fs fs' r Q h1 h2 h3 k1 k2 k3 h4 => F.run A outer s H args us vs hr hgd e0 hb rv hl fa G as fs fs' r Q h1 h2 h3 k1 k2 k3 (h as fs _ h4)⟩
def startD (n : Nat) (as : List Pl) : List (Option Pl) := as.map some ++ List.replicate (n - as.length) none
def runDef (np n : Nat) (f : Sf) : Df := fun as fs => if as.length = np then match f ⟨startD n as, fs⟩ with
  | some (.nx s') => some (.val .none, s'.fs)
  | some (.rt r s') => some (r, s'.fs)
  | _ => none else none
theorem sta_start {K : PySem.W.Frag} {fa : Addr} {H G : Hp} {vs : List V} {as : List Pl} {fs : FS} {N : List Str} (h1 : Same G H) (h2 : FeedAt fa H G fs) (h3 : SAll K fa H G vs as) (k1 : TOk H) (k2 : NoT G) : Sta K ⟨fa, H, G⟩ (start N vs) H G ⟨startD N.length as, fs⟩ := by
  have hl := h3.length
  have gets : ∀ (i : Nat) (a : Pl), (startD N.length as)[i]? = some (some a) → as[i]? = some a := fun i a e => by
    unfold startD at e
    rw [List.getElem?_append] at e
    split at e
    · rw [List.getElem?_map] at e
      cases q : as[i]? with
      | none => rw [q] at e; cases e
      | some x => rw [q] at e; cases e; rfl
    · rw [List.getElem?_replicate] at e
      split at e <;> cases e
  have val : ∀ {vs : List V} {as : List Pl}, SAll K fa H G vs as → ∀ (i : Nat) (a : Pl), as[i]? = some a → ∃ v, vs[i]? = some v ∧ SRp K fa H G v a ∧ a.own = false := by
    intro vs as h
    induction h with
    | nil => intro i a e; simp at e
    | cons q n r ih =>
      intro i a e
      cases i with
      | zero => simp at e; subst e; exact ⟨_, rfl, q, n⟩
      | succ i => obtain ⟨v, f1, f2⟩ := ih i a (by simpa using e); exact ⟨v, by simpa using f1, f2⟩
  have noown : ∀ (i : Nat) (a : Pl), (startD N.length as)[i]? = some (some a) → a.own = true → False := fun i a e o => by
    obtain ⟨v, _, _, n⟩ := val h3 i a (gets i a e)
    rw [n] at o; cases o
  refine ⟨h1, Same.refl _, fun b e => .inl e, fun b o _ _ e => e, ?_, fun i a e => ?_, fun i j a c v e1 e2 o1 _ _ _ => (noown i a e1 o1).elim, fun b ⟨i, a, e, o, _⟩ => (noown i a e o).elim, h2, k1, TGr.refl _, k2⟩
  · unfold startD L2.start
    simp [hl]
  · obtain ⟨v, f1, f2, _⟩ := val h3 i a (gets i a e)
    refine ⟨v, ?_, f2⟩
    have lt := (List.getElem?_eq_some_iff.mp f1).1
    unfold L2.start
    rw [List.getElem?_append_left (by simpa using lt), List.getElem?_map, f1]
    rfl
theorem fnD_of {P : Program} {w : World} {K : PySem.W.Frag} {mg : Str → Option Value} {base : Heap} {tb : Addr → Prop} {k : Nat} {f : Addr} {name qual : Str} {params : Arguments} {body : List Stmt} {scope : Scope} {dV kV doc pm cdv ct oc : Value} {an od : Option Addr}
    {osl : Array (Option Value)} {N ps : List Str} {bf : Sf} (lk : K.lookup f = some ⟨oc, od, .func (PySem.W.fnOf name qual params body scope dV kV doc pm an cdv ct), osl⟩) (hcd : PySem.W.codeIn K cdv qual = true) (S : FnScope N ps scope)
    (hbody : ∀ (A : Around) (outer : List Env) (s : Shared) (H : Hp), Room k (A.deeper (envOfC qual scope s.heap.objs.size f cdv)) → (A.deeper (envOfC qual scope s.heap.objs.size f cdv)).guards = some [] → ∀ Γ : Gm, TbAt tb Γ.H0 →
      PSSd (cxOf CX0 P w K mg base N qual scope f cdv A outer s H E0).nox Γ body bf) :
    FnD P w K mg base tb (k + 1) f (PySem.W.fnOf name qual params body scope dV kV doc pm an cdv ct) ps (runDef ps.length N.length bf) := by
  refine ⟨fun as fs q e => ?_, fun A outer s H args us vs hr hgd e0 hb r hl fa G as fs fs' rr Q h1 h2 h3 k1 k2 k3 h4 hq => ?_⟩
  · unfold runDef at e
    by_cases z : as.length = ps.length
    · exact z
    · rw [if_neg z] at e; cases e
  have KX : K.In s.heap := e0.mod.kin.keeps fun b o e => (e0.bs b o e).1
  have lim : s.heap.NoLimit := e0.mod.nolimit.keeps fun b o e => (e0.bs b o e).1
  have hkind : ∀ y ∈ ps.zip us, scope.names.lookup y.1 = some .local ∨ (scope.names.lookup y.1 = some .cell ∧ ((cellsFrom (s.heap.objs.size + 1) scope.names []).lookup y.1).isSome = true) := fun ⟨n, v⟩ hy => by
    rcases S.par n (List.of_mem_zip hy).1 with q | q
    · exact .inl q
    · exact .inr ⟨q, PySem.W.cellsFrom_some _ _ _ (.inl q)⟩
  refine codeAny_call_function hr.depth (KX _ _ lk) rfl S.co S.gen rfl (PySem.W.codeRec_of KX hcd) (hb _ _ _ _ ?_)
  refine wpAny_newFunctionEnv_cells S.kind hkind fun env he s1 x => ?_
  subst he
  refine ⟨lim.keeps x.toInCall.keep, codeAny_func ?_⟩
  obtain ⟨t, ht, hk⟩ := hbody A outer s H (hr.deeper _) hgd ⟨fa, H, G⟩ k3
  have ht := ht.nox
  have I : Inv (cxOf CX0 P w K mg base N qual scope f cdv A outer s H E0) [] (start N vs) H s1 := inv_start S hr.hd e0 hl r x
  unfold runDef at h4
  by_cases hz : as.length = ps.length
  case neg => rw [if_neg hz] at h4; cases h4
  rw [if_pos hz] at h4
  have S0 := sta_start (N := N) h1 h2 h3 k1 k2
  have hread : t { nx := fun _ H' => Q .non H', rt := Q } (start N vs) H := by
    cases ho : bf ⟨startD N.length as, fs⟩ with
    | none => rw [ho] at h4; cases h4
    | some o =>
      rw [ho] at h4
      refine hk (start N vs) H G _ o _ S0 ho ?_
      have done : ∀ (v : V) (σ' : L2.St) (H' G' : Hp) (s' : DS) (r' : Pl), Sta K ⟨fa, H, G⟩ σ' H' G' s' → Same G G' → Got K ⟨fa, H, G⟩ H H' G' v r' → CallP K fa H G s'.fs H' G' v r' := fun v σ' H' G' s' r' S' gg gt =>
        ⟨gg, S'.fr, S'.sub, S'.keep, S'.fd, gt.rp, gt.ow, S'.tok, S'.tgr, S'.gnt⟩
      cases o with
      | nx s' => cases h4; exact fun σ' H' G' S' gg => hq .non H' G' (done .non σ' H' G' s' (.val .none) S' gg (.new (fa := fa) .non))
      | rt r' s' => cases h4; exact fun v σ' H' G' S' gg gt => hq v H' G' (done v σ' H' G' s' rr S' gg gt)
      | bk s' => cases h4
      | ct s' => cases h4
  refine wpAny_mono (ht.run [] s1 (start N vs) H _ I hread) (fun fl s' hs => ?_) fun e s' hs => hs
  have fin : ∀ {σ' : L2.St} {H' : Hp} {v : V} {u : Value}, Inv (cxOf CX0 P w K mg base N qual scope f cdv A outer s H E0) [] σ' H' s' → RelV v u → Q v H' → CE outer P w H s Q u s' :=
    fun {σ' H' v u} J rv q => ⟨v, H', J.os, J.bare, J.base, J.hok, rv, q⟩
  cases fl with
  | ret u =>
    obtain ⟨v, σ', H', J, rv, q⟩ := hs
    exact fin J rv q
  | next =>
    obtain ⟨σ', H', J, q⟩ := hs
    exact fin (v := V.non) (u := Value.none) J rfl q
  | brk =>
    obtain ⟨_, _, _, q⟩ := hs
    exact False.elim q
  | cont =>
    obtain ⟨_, _, _, q⟩ := hs
    exact False.elim q

/-! ### calls -/
section
variable {X : Cx} {Γ : Gm} {tb : Addr → Prop} {k : Nat} {f : Addr} {fd : FuncData} {ps : List Str} {g : Df} {x : Str} {p pos : Pos} {e : Expr} {es : List Expr}
theorem CallP.sta {K : PySem.W.Frag} {σ : L2.St} {H G : Hp} {s : DS} {fs' : FS} {H' G' : Hp} {v : V} {r : Pl} (S : Sta K Γ σ H G s) (c : CallP K Γ.fa H G fs' H' G' v r) :
    Sta K Γ σ H' G' ⟨s.env, fs'⟩ ∧ Stp Γ σ H G s H' G' ⟨s.env, fs'⟩ ∧ Got K Γ H H' G' v r := by
  refine ⟨⟨c.sub, S.g0.trans c.gg, fun b e => ?_, fun b o h1 n2 h2 => c.keep b o h1 n2 (S.keep b o h1 n2 h2), S.len, fun i sl e => ?_, S.dis, S.new, c.fd, c.tok, S.tgr.trans c.tgr, c.gnt⟩, ⟨c.gg, fun b o h1 _ n2 h2 => c.keep b o h1 n2 h2, fun b e => e, fun b e => ?_, fun b e => ?_, c.tgr⟩, ⟨c.rp, c.ow⟩⟩
  · rcases c.nw b e with h | h
    · exact S.fr b h
    · exact .inr (S.fresh0 h)
  · obtain ⟨w, h1, h2⟩ := S.env i sl e
    refine ⟨w, h1, h2.step c.gg fun ow q hq => ?_⟩
    obtain ⟨q', o', e1, e2, e3, e4, _⟩ := h2.ownP ow
    rw [hq] at e1
    cases e1
    refine ⟨by rw [e2]; exact c.keep _ _ e4 (h2.ownNT ow hq e2) e2, ?_⟩
    cases z : G' q with
    | none => rfl
    | some y =>
      rcases c.nw q (by rw [z]; simp) with h | h
      · exact absurd e3 h
      · rw [e2] at h; cases h
  · rcases c.nw b e with h | h
    · exact .inl h
    · exact .inr (.inl h)
  · by_cases z : b = Γ.fa
    · obtain ⟨cc, h1, _⟩ := c.fd
      rw [z, h1]; simp
    · cases q : H b with
      | none => exact absurd q e
      | some o =>
        cases nt : isT o with
        | false => rw [c.keep b o z nt q]; simp
        | true =>
          cases o with
          | tbl ps =>
            obtain ⟨m, e⟩ := c.tgr b ps q
            rw [e]; simp
          | _ => cases nt
def fCall (g : Df) (fa : Af) : Ef := fun s => (fa s).bind fun (as, s1) => (g as s1.fs).map fun (r, fs') => (r, ⟨s1.env, fs'⟩)
/-- the call's reading -/
def tFn (K : PySem.W.Frag) (tb : Addr → Prop) (g : Df) (n : Nat) : List V → Hp → VK → Prop := fun vs H Q => vs.length = n ∧ ∃ (fa : Addr) (G : Hp) (as : List Pl) (fs fs' : FS) (r : Pl), Same G H ∧ FeedAt fa H G fs ∧ SAll K fa H G vs as ∧ TOk H ∧ NoT G ∧ TbAt tb H ∧ g as fs = some (r, fs') ∧
  ∀ v H' G', CallP K fa H G fs' H' G' v r → Q v H'
theorem run_fnD {pins : List (Addr × Obj)} {σ : L2.St} {H : Hp} {s : Shared} {Q : VK} {us : List Value} {vs : List V} {args : Args} (F : FnD X.prog X.w X.K X.mg X.base tb k f fd ps g) (hr : Room k X.A) (hgd : X.A.guards = some []) (hb : BindsTo s fd args (ps.zip us))
    (I : Inv X pins σ H s) (r : Vals vs us) (h : tFn X.K tb g ps.length vs H Q) : wpAny (model X.prog X.w) X.A (call (.ref f) args.pos args.kw) (EP X pins σ Q) X.xe s := by
  obtain ⟨hl, fa, G, as, fs, fs', rr, h1, h2, h3, k1, k2, k3, h4, h5⟩ := h
  obtain ⟨us0, ks0⟩ := args
  refine wpAny_call (codeAny_mono (F.run X.A X.stack s H ⟨us0, ks0⟩ us vs hr hgd I.env0 hb r hl fa G as fs fs' rr Q h1 h2 h3 k1 k2 k3 h4 h5) fun r s' hq => ?_)
  cases r with
  | error e => exact False.elim hq
  | ok fl =>
    cases fl with
    | ret u => exact I.after hq
    | next => exact False.elim hq
    | brk => exact False.elim hq
    | cont => exact False.elim hq
theorem call_data {es : List Expr} {fa : Af} {t : TA} {n : Nat} (F : FnD X.prog X.w X.K X.mg X.base tb k f fd ps g) (hT : TbAt tb Γ.H0)
    (ka : ∀ (σ : L2.St) (H G : Hp) (s s' : DS) (rs : List Pl) (Q : List V → Hp → Prop), Sta X.K Γ σ H G s → fa s = some (rs, s') → (∀ vs H' G', Sta X.K Γ σ H' G' s' → Stp Γ σ H G s H' G' s' → SAll X.K Γ.fa H' G' vs rs → Q vs H') → t σ H Q) :
    ∀ (σ : L2.St) (H G : Hp) (s s' : DS) (r : Pl) (Q : VK), Sta X.K Γ σ H G s → fCall g fa s = some (r, s') →
      (∀ v H' G', Sta X.K Γ σ H' G' s' → Stp Γ σ H G s H' G' s' → Got X.K Γ H H' G' v r → Q v H') → t σ H fun vs H1 => tFn X.K tb g ps.length vs H1 Q := fun σ H G s s' r Q S hf hq => by
  unfold fCall at hf
  cases h1 : fa s with
  | none => rw [h1] at hf; cases hf
  | some w =>
    obtain ⟨as, s1⟩ := w
    simp only [h1, Option.bind_some] at hf
    cases h2 : g as s1.fs with
    | none => rw [h2] at hf; cases hf
    | some w2 =>
      obtain ⟨rr, fs'⟩ := w2
      rw [h2] at hf
      cases hf
      refine ka σ H G s s1 as _ S h1 fun vs H1 G1 S1 T1 a1 => ?_
      refine ⟨by rw [a1.length]; exact F.len _ _ _ h2, Γ.fa, G1, as, s1.fs, fs', rr, S1.sub, S1.fd, a1, S1.tok, S1.gnt, hT.grow S1.tgr, h2, fun v H' G' c => ?_⟩
      obtain ⟨S2, T2, g2⟩ := CallP.sta S1 c
      exact hq v H' G' S2 (T1.trans T2) (g2.later T1)
theorem pd_call {fa : Af} (F : FnD X.prog X.w X.K X.mg X.base tb k f fd ps g) (hT : TbAt tb Γ.H0) (hr : Room k X.A) (hgd : X.A.guards = some []) (hg : Gl X x) (hm : X.mg x = some (.ref f)) (hk : PySem.W.keepIn X.K (.ref f) = true) (hb : Binds X.K fd ps []) (ha : PAd X Γ (e :: es) fa)
    (hdb : (x == ("__debug__" : Str)) = false := by decide) (he : starEach (e :: es) X.env = (false, eval e X.env) :: starEach es X.env := by rfl) (hpl : (backTo pos (starEach es X.env)).any (·.1) = false := by rfl) :
    PEd X Γ (.Call (.Name x p) (e :: es) [] pos) (fCall g fa) := by
  obtain ⟨t, pa, ka⟩ := ha
  refine ⟨fun σ H Q => t σ H fun vs H1 => tFn X.K tb g ps.length vs H1 Q, ⟨fun pins s σ H Q I h => ?_⟩, call_data (es := es) (n := 0) F hT ka⟩
  refine wpAny_Call_Name_kw (ld_glob I hg hm ?_ hdb)
  refine PySem.W.callWith_K (h₀ := X.base) I.ok.mod.kin hk (thn (pa.run pos pins s σ H _ I h) fun us s1 ⟨vs, H1, I1, r, q⟩ => ⟨I1.kIn, ?_⟩) he hpl
  have hl : (us ++ []).length = ps.length := by rw [List.append_nil, ← r.length]; exact q.1
  exact run_fnD (args := ⟨us, []⟩) F hr hgd (by have := hb s1 us I1.kIn hl; rw [List.append_nil] at this; exact this) I1 r q
theorem pd_call0 (F : FnD X.prog X.w X.K X.mg X.base tb k f fd ps g) (hT : TbAt tb Γ.H0) (hr : Room k X.A) (hgd : X.A.guards = some []) (hg : Gl X x) (hm : X.mg x = some (.ref f)) (hk : PySem.W.keepIn X.K (.ref f) = true) (hb : Binds X.K fd ps [])
    (hdb : (x == ("__debug__" : Str)) = false := by decide) : PEd X Γ (.Call (.Name x p) [] [] pos) (fCall g aNil) := by
  refine ⟨fun σ H Q => tNil σ H fun vs H1 => tFn X.K tb g ps.length vs H1 Q, ⟨fun pins s σ H Q I h => ?_⟩, call_data (es := []) (n := 0) F hT fun σ H G s s' rs Q S hf hq => by cases hf; exact hq [] H G S .refl .nil⟩
  refine wpAny_Call_Name_kw (ld_glob I hg hm ?_ hdb)
  have hl : (([] : List Value) ++ []).length = ps.length := by have := h.1; simpa using this
  exact PySem.W.callWith_K0 I.kIn hk (run_fnD (args := ⟨[], []⟩) (us := []) F hr hgd (by have := hb s [] I.kIn hl; simpa using this) I .nil h)
/-! ### by keywords -/
def pick {α : Type} (π : List Nat) (xs : List α) : List α := π.filterMap (xs[·]?)
theorem vals_pick {vs : List V} {us : List Value} (h : Vals vs us) : ∀ π : List Nat, Vals (pick π vs) (pick π us)
  | [] => .nil
  | i :: π => by
    have ih := vals_pick h π
    unfold pick at *
    rw [List.filterMap_cons, List.filterMap_cons]
    cases e : vs[i]? with
    | none => rw [Vals.none_of h e]; exact ih
    | some v =>
      obtain ⟨u, h1, h2⟩ := h.get e
      rw [h1]
      exact .cons h2 ih
theorem SAll.get {K : PySem.W.Frag} {fa : Addr} {H G : Hp} : ∀ {vs : List V} {as : List Pl}, SAll K fa H G vs as → ∀ i : Nat, (vs[i]? = none ∧ as[i]? = none) ∨ ∃ v a, vs[i]? = some v ∧ as[i]? = some a ∧ SRp K fa H G v a ∧ a.own = false
  | _, _, .nil, i => .inl ⟨by simp, by simp⟩
  | _, _, .cons q n r, 0 => .inr ⟨_, _, rfl, rfl, q, n⟩
  | _, _, .cons q n r, i + 1 => by simpa using SAll.get r i
theorem sall_pick {K : PySem.W.Frag} {fa : Addr} {H G : Hp} {vs : List V} {as : List Pl} (h : SAll K fa H G vs as) : ∀ π : List Nat, SAll K fa H G (pick π vs) (pick π as)
  | [] => .nil
  | i :: π => by
    have ih := sall_pick h π
    unfold pick at *
    rw [List.filterMap_cons, List.filterMap_cons]
    rcases h.get i with ⟨h1, h2⟩ | ⟨v, a, h1, h2, h3, h4⟩
    · rw [h1, h2]; exact ih
    · rw [h1, h2]; exact .cons h3 h4 ih
def PKd (X : Cx) (Γ : Gm) (kws : List Keyword) (f : Af) : Prop :=
  ∃ t : TA, PK X kws t ∧ ∀ (σ : L2.St) (H G : Hp) (s s' : DS) (rs : List Pl) (Q : List V → Hp → Prop), Sta X.K Γ σ H G s → f s = some (rs, s') →
    (∀ vs H' G', Sta X.K Γ σ H' G' s' → Stp Γ σ H G s H' G' s' → SAll X.K Γ.fa H' G' vs rs → Q vs H') → t σ H Q
theorem pkd_nil : PKd X Γ [] aNil := ⟨_, pk_nil, fun σ H G s s' rs Q S hf hq => by cases hf; exact hq [] H G S .refl .nil⟩
theorem pkd_cons {nm : Option Str} {kpos : Pos} {kws : List Keyword} {fe : Ef} {fk : Af} (h1 : PEd X Γ e fe) (h2 : PKd X Γ kws fk) : PKd X Γ (⟨nm, e, kpos⟩ :: kws) (aCons fe fk) := by
  obtain ⟨te, he, ke⟩ := h1
  obtain ⟨ta, ha, ka⟩ := h2
  refine ⟨_, pk_cons he ha, fun σ H G s s' rs Q S hf hq => ?_⟩
  unfold aCons at hf
  cases e1 : fe s with
  | none => rw [e1] at hf; cases hf
  | some q =>
    obtain ⟨x, s1⟩ := q
    rw [e1, Option.bind_some] at hf
    cases e2 : fk s1 with
    | none => simp only [e2, Option.bind_none] at hf; cases hf
    | some q2 =>
      obtain ⟨ys, s2⟩ := q2
      simp only [e2, Option.bind_some, Option.some.injEq, Prod.mk.injEq] at hf
      obtain ⟨rfl, rfl⟩ := hf
      refine ke σ H G s s1 x _ S e1 fun v H1 G1 S1 T1 g1 => ?_
      obtain ⟨G1', S1', T1', r1'⟩ := S.freeze S1 T1 g1
      refine ka σ H1 G1' s1 s2 ys _ S1' e2 fun vs H2 G2 S2 T2 g2 => ?_
      exact hq _ H2 G2 S2 (T1'.trans T2) (.cons (r1'.step T2.gg fun z => by rw [fz_own] at z; cases z) (fz_own x) g2)
def aPick (π : List Nat) (f : Af) : Af := fun s => (f s).bind fun (as, s') => if as.length = π.length then some (pick π as, s') else none
/-- all arguments by keywords ks, whose places in the parameters' order are π -/
theorem pd_callK {kws : List Keyword} {ks : List Str} {fk : Af} (π : List Nat) (F : FnD X.prog X.w X.K X.mg X.base tb k f fd ps g) (hT : TbAt tb Γ.H0) (hr : Room k X.A) (hgd : X.A.guards = some []) (hg : Gl X x) (hm : X.mg x = some (.ref f)) (hk : PySem.W.keepIn X.K (.ref f) = true)
    (hb : ∀ us : List Value, us.length = ks.length → bindArgs fd ⟨[], ks.zip us⟩ = pure (ps.zip (pick π us))) (ha : PKd X Γ kws fk) (hlen : π.length = ks.length := by rfl)
    (hall : (backToKw pos (keywordEach kws X.env)).all (·.1.isSome) = true := by rfl) (hks : (backToKw pos (keywordEach kws X.env)).filterMap (·.1) = ks := by rfl)
    (hdb : (x == ("__debug__" : Str)) = false := by decide) (hpl : ((backTo pos (starEach [] X.env)).any (·.1) || (backToKw pos (keywordEach kws X.env)).any (·.1.isNone)) = false := by rfl) :
    PEd X Γ (.Call (.Name x p) [] kws pos) (fCall g (aPick π fk)) := by
  obtain ⟨t, pk, ka⟩ := ha
  refine ⟨fun σ H Q => t σ H fun vs H1 => vs.length = ks.length ∧ tFn X.K tb g ps.length (pick π vs) H1 Q, ⟨fun pins s σ H Q I h => ?_⟩, ?_⟩
  · refine wpAny_Call_Name_kw (ld_glob I hg hm ?_ hdb)
    refine PySem.W.callWith_KW0 (h₀ := X.base) I.ok.mod.kin hk hall (thn (pk.run pos pins s σ H _ I h) fun ws s1 ⟨vs, H1, I1, r, hl, q⟩ => ⟨I1.kIn, ?_⟩) hpl
    rw [hks]
    exact run_fnD (args := ⟨[], ks.zip ws⟩) F hr hgd (.of_eq (hb ws (by rw [← r.length]; exact hl))) I1 (vals_pick r π) q
  · refine call_data (es := []) (n := 0) (t := fun σ H Q => t σ H fun vs H1 => vs.length = ks.length ∧ Q (pick π vs) H1) F hT fun σ H G s s' rs Q S hf hq => ?_
    unfold aPick at hf
    cases h1 : fk s with
    | none => rw [h1] at hf; cases hf
    | some w =>
      obtain ⟨as, s1⟩ := w
      simp only [h1, Option.bind_some] at hf
      by_cases hz : as.length = π.length
      · rw [if_pos hz] at hf
        cases hf
        exact ka σ H G s _ as _ S h1 fun vs H1 G1 S1 T1 a1 => ⟨by rw [a1.length, hz, hlen], hq _ H1 G1 S1 T1 (sall_pick a1 π)⟩
      · rw [if_neg hz] at hf; cases hf
end
end PD

set_option Elab.async false
set_option linter.all false
set_option maxRecDepth 100000
set_option maxHeartbeats 1000000
/-! PDm: arithmetic; + and * of all kinds; a tuple times an int in all cases; a text backwards; names of the module. -/
namespace PD
open PySem PySem.Spec PyProof.Rows L2
variable [TheW]
section
variable {X : Cx} {Γ : Gm} {a b e : Expr} {pos : Pos} {f : DS → Option (Pl × Pl × DS)}
/-! ### ints -/
def cMulB (i j : Int) : Bool := Nat.ble i.natAbs 1000000000000000000 || Nat.ble j.natAbs 1000000000000000000
theorem cMulB_ok {i j : Int} (h : cMulB i j = true) : CMul i j := by
  rcases (Bool.or_eq_true _ _).mp h with h | h
  · have := Nat.le_of_ble_eq_true h
    exact .inl (by omega)
  · have := Nat.le_of_ble_eq_true h
    exact .inr (by omega)
def cDivB (_ j : Int) : Bool := decide (0 < j) && Nat.ble j.natAbs 1000000000
theorem cDivB_ok {i j : Int} (h : cDivB i j = true) : CDiv i j := by
  obtain ⟨h1, h2⟩ := Bool.and_eq_true_iff.mp h
  have h1 := of_decide_eq_true h1
  have := Nat.le_of_ble_eq_true h2
  exact ⟨h1, by omega⟩
def gMulI : Pl → Pl → Option Pl := gI cMulB fun i j => .int (i * j)
def gSubI : Pl → Pl → Option Pl := gI (fun _ _ => true) fun i j => .int (i - j)
def gModI : Pl → Pl → Option Pl := gI (fun _ j => decide (0 < j)) fun i j => .int (i % j)
def gDivI : Pl → Pl → Option Pl := gI cDivB fun i j => .int (i / j)
def gPowI : Pl → Pl → Option Pl := gI (fun i j => decide (0 ≤ j ∧ j ≤ 1000000 ∧ i.natAbs < 2 ^ 64)) fun i j => .int (i ^ j.toNat)
theorem pd_subI (h : P2d X Γ a b f) : PEd X Γ (.BinOp a .Sub b pos) (fBin f gSubI) := pd_op h op_sub (od_I0 fun _ _ _ _ => .int _)
theorem pd_mod (h : P2d X Γ a b f) : PEd X Γ (.BinOp a .Mod b pos) (fBin f gModI) := pd_op h op_mod (od_I (fun _ _ h => of_decide_eq_true h) fun _ _ _ _ => .int _)
theorem pd_fdiv (h : P2d X Γ a b f) : PEd X Γ (.BinOp a .FloorDiv b pos) (fBin f gDivI) := pd_op h op_fdiv (od_I (fun i j h => cDivB_ok h) fun _ _ _ _ => .int _)
theorem pd_pow (h : P2d X Γ a b f) : PEd X Γ (.BinOp a .Pow b pos) (fBin f gPowI) := pd_op h op_pow (od_I (fun i j h => of_decide_eq_true (p := 0 ≤ j ∧ j ≤ 1000000 ∧ i.natAbs < 2 ^ 64) h) fun _ _ _ _ => .int _)
/-! ### + -/
def gAdd : Pl → Pl → Option Pl := gOr (gOr (gI (fun _ _ => true) fun i j => .int (i + j)) (gS (fun i j => decide (i.length + j.length ≤ sizeLine)) fun i j => .str (i ++ j))) (gOr gCatL gCatT)
theorem pd_add (h : P2d X Γ a b f) : PEd X Γ (.BinOp a .Add b pos) (fBin f gAdd) :=
  pd_op h ((op_add.or op_add_str).or (op_cat.or op_catF)) (((od_I0 fun _ _ _ _ => .int _).or (od_S (fun _ _ h => of_decide_eq_true h) fun _ _ _ _ => .str _)).or (od_cat.or od_catT))
/-! ### * -/
def gRepL : Pl → Pl → Option Pl
  | .val (.list ds), .val (.int k) => if rOk k = true ∧ ds.length * k.toNat ≤ sizeLine then some (.ownL (List.replicate k.toNat ds).flatten) else none
  | _, _ => none
theorem RpAll.rep {K : PySem.W.Frag} {G : Hp} {vs : List V} {ds : List PyData} (r : RpAll K G vs ds) : ∀ n : Nat, RpAll K G (List.replicate n vs).flatten (List.replicate n ds).flatten
  | 0 => .nil
  | n + 1 => by
    rw [List.replicate_succ, List.flatten_cons, List.replicate_succ, List.flatten_cons]
    exact r.append (RpAll.rep r n)
theorem od_repL : OpD X rRep gRepL := by
  intro Γ σ H G s v w a b r Q S v1 v2 hg hq
  unfold gRepL at hg
  split at hg
  · rename_i ds k
    obtain ⟨p, vs, rfl, h1, q1⟩ := v1
    cases (show Rp X.K G w (.int k) from v2)
    by_cases hz : rOk k = true ∧ ds.length * k.toNat ≤ sizeLine
    · rw [if_pos hz] at hg
      cases hg
      have hk := rOk_lim hz.1
      exact ⟨p, k, vs, rfl, rfl, h1, by omega, by omega, by rw [q1.length]; exact hz.2, newL S (q1.rep _) hq⟩
    · rw [if_neg hz] at hg; cases hg
  · cases hg
/-- a tuple times an int: the same one, where nothing is to be made -/
theorem tuple_mulSame (l : Addr) (items : Array Value) (n : Nat) (dd : Option Addr) (sl : Array (Option Value)) (x : Int) (u : Tok) (c0 : (decide (x < -(2 ^ 63)) || decide (x ≥ 2 ^ 63)) = false) (c1 : (items.isEmpty || x == 1) = true) :
    Meets (Builtin.«tuple.__mul__» ⟨[.ref l, .int x u], []⟩) (fun _ R s => s.heap.get? l = some { cls := .type "tuple", dict := dd, data := .seq items n, slots := sl } ∧
      R (.ok (.ret (Value.ref l))) s) :=
  .of_wp fun prog w A R s h => by
    obtain ⟨hp, g, d, tk, os⟩ := s
    obtain ⟨hl, h⟩ := h
    have f1 := AutoSeq1.idx_int
    wp_walk using AutoSeq1.wpAny_loadPart' hl
    repeat (first
      | (refine wpAny_ite_false (decide_eq_false (by rw [c0]; exact Bool.false_ne_true)) ?_; wp_walk using AutoSeq1.wpAny_loadPart' hl)
      | (refine wpAny_ite_true (decide_eq_true c1) ?_; wp_walk using AutoSeq1.wpAny_loadPart' hl))
    exact ⟨_, rfl, h⟩
def rRepF (K : PySem.W.Frag) : R2 := fun x y H Q => ∃ l k xs, x = .ref l ∧ y = .int k ∧ SqT K H l xs ∧ 1 ≤ k ∧ k ≤ 1000 ∧ xs.length ≤ 1000 ∧
  (xs = [] ∨ k = 1 → Q (.ref l) H) ∧ (xs ≠ [] → k ≠ 1 → NT (List.replicate k.toNat xs).flatten H Q)
theorem op_repF : OpR X (binaryOp .Mult) (rRepF X.K) := by
  intro pins s σ H x y v u Q I rx ry h
  obtain ⟨l, k, xs, rfl, rfl, hT, h1, h2, hz, q0, q1⟩ := h
  cases rx
  obtain ⟨t, rfl⟩ := ry
  obtain ⟨its, r, ⟨⟨cls, dd, data, sl⟩, ho, hc, n, hd⟩, hs⟩ := I.tuple hT
  simp only at hc hd
  subst hc hd
  have hle : its.length = xs.length := r.length.symm
  have hsz0 : its.toArray.size = xs.length := by rw [List.size_toArray, hle]
  have c0 : (decide (k < -(2 ^ 63)) || decide (k ≥ 2 ^ 63)) = false := by
    rw [decide_eq_false (by omega), decide_eq_false (by omega)] <;> rfl
  by_cases hw : xs = [] ∨ k = 1
  · have c1 : (its.toArray.isEmpty || k == 1) = true := by
      rcases hw with hw | hw
      · subst hw
        have : its = [] := List.eq_nil_of_length_eq_zero hle
        subst this
        rfl
      · subst hw
        simp
    refine wpAny_binaryOp_repeat_ref (T := "tuple") (U := "int") (by decide) ⟨_, ho, rfl⟩ (fun s' => typeIs_int s' k t) noFill_tuple_mul F.fills_int_mul F.slot_int_rmul repeat_tuple F.slot_int_index.lookup
      (call_meets F.slot_int_rmul (typeIs_int s k t) F.entry_int_rmul (F.args_int_rmul_2 _ _) (int_rmul_tuple k t l its.toArray n dd sl)
        ⟨ho, rfl, ⟨_, ho, rfl⟩, call_meets F.slot_tuple_mul ⟨_, ho, rfl⟩ F.entry_tuple_mul (F.args_tuple_mul_2 _ _) (tuple_mulSame l its.toArray n dd sl k t c0 c1) ⟨ho, ?_⟩⟩)
    exact ⟨.ref l, H, I, rfl, q0 hw⟩
  · have hne : xs ≠ [] := fun z => hw (.inl z)
    have hk : k ≠ 1 := fun z => hw (.inr z)
    have hn : its ≠ [] := fun e => hne (by
      rw [e] at hle
      exact List.eq_nil_of_length_eq_zero hle.symm)
    have hi : its.toArray.isEmpty = false := by
      cases its with
      | nil => exact absurd rfl hn
      | cons a b => rfl
    have hm : ((its.toArray.size : Nat) : Int) * k ≤ 1000000 := by
      rw [hsz0]
      have a1 : ((xs.length : Nat) : Int) * k ≤ 1000 * k := Int.mul_le_mul_of_nonneg_right (by omega) (by omega)
      omega
    have flen : (List.replicate k.toNat its).flatten.length ≤ sizeLine := by
      rw [PyProof.Rows.lm_len_rep_flat, hle, sizeLine_eq]
      have a1 : k.toNat * xs.length ≤ 1000 * 1000 := Nat.mul_le_mul (by omega) hz
      omega
    have c1 : (its.toArray.isEmpty || k == 1) = false := by
      rw [hi, Bool.false_or]
      exact beq_eq_false_iff_ne.mpr hk
    have c2 : (decide (k ≤ 0) || its.toArray.isEmpty) = false := by
      rw [hi, Bool.or_false]
      exact decide_eq_false (by omega)
    have c4 : Builtin.Tuple.tupleTooMany (((its.toArray.size : Nat) : Int) * k) = false := by
      unfold Builtin.Tuple.tupleTooMany
      rw [sizeLine_eq]
      exact decide_eq_false (by omega)
    refine wpAny_binaryOp_repeat_ref (T := "tuple") (U := "int") (by decide) ⟨_, ho, rfl⟩ (fun s' => typeIs_int s' k t) noFill_tuple_mul F.fills_int_mul F.slot_int_rmul repeat_tuple F.slot_int_index.lookup
      (call_meets F.slot_int_rmul (typeIs_int s k t) F.entry_int_rmul (F.args_int_rmul_2 _ _) (int_rmul_tuple k t l its.toArray n dd sl)
        ⟨ho, rfl, ⟨_, ho, rfl⟩, call_meets F.slot_tuple_mul ⟨_, ho, rfl⟩ F.entry_tuple_mul (F.args_tuple_mul_2 _ _) (tuple_mulW l its.toArray n dd sl k t c0 c1 c2 (by omega) c4 (by rw [size_rep, List.size_toArray]; exact flen)) ⟨ho, ?_⟩⟩)
    rw [size_rep]
    exact laidT (tk := s.toks) I (by rw [PyProof.Rows.lm_len_rep_flat, sizeLine_eq]; have a1 : k.toNat * xs.length ≤ 1000 * 1000 := Nat.mul_le_mul (by omega) hz; omega) (r.rep k.toNat) (q1 hne hk)
def gRepT : Pl → Pl → Option Pl
  | .val (.tuple ds), .val (.int k) => if 1 ≤ k ∧ k ≤ 1000 ∧ ds.length ≤ 1000 then some (.val (.tuple (List.replicate k.toNat ds).flatten)) else none
  | _, _ => none
theorem od_repT : OpD X (rRepF X.K) gRepT := by
  intro Γ σ H G s v w a b r Q S v1 v2 hg hq
  unfold gRepT at hg
  split at hg
  · rename_i ds k
    obtain ⟨p, vs, rfl, h1, q1⟩ := Rp.tupI v1
    cases (show Rp X.K G w (.int k) from v2)
    by_cases hz : 1 ≤ k ∧ k ≤ 1000 ∧ ds.length ≤ 1000
    · rw [if_pos hz] at hg
      cases hg
      refine ⟨p, k, vs, rfl, rfl, (h1.mono S.sub).sqt, hz.1, hz.2.1, by rw [q1.length]; exact hz.2.2, fun hw => ?_, fun _ _ => newT S (q1.rep _) hq⟩
      have e : (List.replicate k.toNat ds).flatten = ds := by
        rcases hw with hw | hw
        · have := q1.nilI.mp hw
          subst this
          simp
        · subst hw
          simp
      rw [e] at hq
      exact hq _ H G S .refl (.new (fa := Γ.fa) v1)
    · rw [if_neg hz] at hg; cases hg
  · cases hg
def gMul : Pl → Pl → Option Pl := gOr gMulI (gOr gRepL gRepT)
theorem pd_mul (h : P2d X Γ a b f) : PEd X Γ (.BinOp a .Mult b pos) (fBin f gMul) :=
  pd_op h (op_mul.or (op_rep.or op_repF)) ((od_I (fun i j h => cMulB_ok h) fun _ _ _ _ => .int _).or (od_repL.or od_repT))
/-! ### a name of the module that holds a text; -i -/
theorem pd_glob {x : Str} {z : Str} {u : Value} (hg : Gl X x) (hm : X.mg x = some u) (r : RelV (.str z) u) (hd : (x == ("__debug__" : Str)) = false := by decide) : PEd X Γ (.Name x pos) (fC (.val (.str z))) :=
  pd_c (pe_glob hg hm r hd) (fun _ _ => .str z) rfl
def fNeg (f : Ef) : Ef := fun s => (fI f s).map fun (i, s') => (.val (.int (-i)), s')
theorem pd_neg {f : Ef} (h : PEd X Γ e f) : PEd X Γ (.UnaryOp .USub e pos) (fNeg f) := by
  obtain ⟨t, p, k⟩ := h.int
  refine ⟨_, pe_un un_neg p, fun σ H G s s' r Q S hf hq => ?_⟩
  unfold fNeg at hf
  cases h1 : fI f s with
  | none => rw [h1] at hf; cases hf
  | some w =>
    obtain ⟨i, s1⟩ := w
    rw [h1] at hf
    cases hf
    exact k σ H G s _ i _ S h1 fun H1 G1 S1 T1 => ⟨i, rfl, hq _ H1 G1 S1 T1 (.new (fa := Γ.fa) (.int _))⟩
/-! ### a text backwards -/
def revS (z : Str) : Str := ⟨z.cps.toList.reverse.toArray⟩
def tRevS (te : TE) : TE := fun σ H Q => te σ H fun x H1 => ∃ z, x = .str z ∧ z.length ≤ sizeLine ∧ Q (.str (revS z)) H1
theorem revS_of (z : Str) : (⟨((Builtin.Str.strSliceIndices none none (-1) z.length).filterMap (z.cps[·]?)).toArray⟩ : Str) = revS z := by
  have e : Builtin.Str.strSliceIndices none none (-1) z.length = sliceRange ((z.cps.size : Int) - 1) (-1) (-1) := rfl
  rw [e, PySem.W.krv_sliceRange, PySem.W.krv_range, List.filterMap_reverse, PySem.W.krv_all]
  rfl
theorem pe_revS {te : TE} {k : Nat} {p1 p2 p3 : Pos} (he : PE X e te) : PE X (.Subscript e (.Slice none none (some (.UnaryOp .USub (.Constant (.int 1) k p1) p2)) p3) pos) (tRevS te) := by
  refine ⟨fun pins s σ H Q I h => ?_⟩
  refine Subscript_ (thn (he.run pins s σ H _ I h) fun v s1 ⟨x, H1, I1, r1, q1⟩ => ?_)
  obtain ⟨z, ex, hz, q⟩ := q1
  subst ex
  obtain ⟨t, rfl⟩ := r1
  have hst : PO X (some (.UnaryOp .USub (.Constant (.int 1) k p1) p2)) (tPart (tUn (rU fun i => .int (-i)) (tC (.int 1)))) := po_some (pe_un un_neg pe_int)
  refine wpAny_Slice (thn (po_none.run pins s1 σ H1 (fun o H2 => o = none ∧ H2 = H1) I1 ⟨rfl, rfl⟩) fun vl s2 ⟨l, H2, I2, pl, el, e2⟩ => ?_)
  subst el e2
  refine thn (po_none.run pins s2 σ H2 (fun o H3 => o = none ∧ H3 = H2) I2 ⟨rfl, rfl⟩) fun vu s3 ⟨u, H3, I3, pu, eu, e3⟩ => ?_
  subst eu e3
  refine thn (hst.run pins s3 σ H3 (fun o H4 => o = some (-1) ∧ H4 = H3) I3 ⟨1, rfl, -1, rfl, rfl, rfl⟩) fun vs s4 ⟨o, H4, I4, ps, eo, e4⟩ => ?_
  subst eo e4
  have I5 : Inv X pins σ H4 { s4 with heap := s4.heap.push { cls := .type "slice", data := .fields #[vl, vu, vs] } } := I4.kept (t' := s4.toks) fun b ob q => Heap.get?_push_of_some _ q
  obtain ⟨l, rfl, el⟩ := IsPart.raw pl
  obtain ⟨u, rfl, eu⟩ := IsPart.raw pu
  obtain ⟨m, rfl, em⟩ := IsPart.raw ps
  cases l with
  | some _ => cases el
  | none =>
  cases u with
  | some _ => cases eu
  | none =>
  cases m with
  | none => cases em
  | some w =>
  obtain ⟨w, tw⟩ := w
  cases em
  show wpAny (model X.prog X.w) X.A (subscriptTail e (.Slice none none (some (.UnaryOp .USub (.Constant (.int 1) k p1) p2)) p3) (.str z t) (.ref s4.heap.objs.size)) (EP X pins σ Q) X.xe { s4 with heap := s4.heap.push { cls := .type "slice", data := .fields #[.none, .none, .int (-1) tw] } }
  refine tail_any (ops := [.ref s4.heap.objs.size, .str z t]) (typeIs_str _ z t) (F.slot_str_getitem.lookup) ?_ (by with_unfolding_all rfl)
  refine wpAny_getItem_str_slice (l := none) (u := none) (st := some (-1, tw)) ⟨_, Heap.get?_push_size _ rfl, rfl, rfl⟩ rfl ?_
  show Made.post (Made.str ⟨((Builtin.Str.strSliceIndices none none (-1) z.length).filterMap (z.cps[·]?)).toArray⟩) (EP X pins σ Q) _
  rw [revS_of]
  refine ⟨?_, .str _, H4, I5.tok _, ⟨_, rfl⟩, q⟩
  show z.cps.toList.reverse.toArray.size ≤ sizeLine
  rw [List.size_toArray, List.length_reverse, Array.length_toList]
  exact hz
def fRevS (f : Ef) : Ef := fun s => match f s with
  | some (.val (.str z), s') => if z.length ≤ sizeLine then some (.val (.str (revS z)), s') else none
  | _ => none
theorem pd_revS {f : Ef} {k : Nat} {p1 p2 p3 : Pos} (h : PEd X Γ e f) : PEd X Γ (.Subscript e (.Slice none none (some (.UnaryOp .USub (.Constant (.int 1) k p1) p2)) p3) pos) (fRevS f) := by
  obtain ⟨t, p, kk⟩ := h
  refine ⟨_, pe_revS p, fun σ H G s s' r Q S hf hq => ?_⟩
  unfold fRevS at hf
  split at hf
  · rename_i z s1 e1
    by_cases hz : z.length ≤ sizeLine
    · rw [if_pos hz] at hf
      cases hf
      refine kk σ H G s _ _ _ S e1 fun v H1 G1 S1 T1 g1 => ?_
      cases (show Rp X.K G1 v (.str z) from g1.rp)
      exact ⟨z, rfl, hz, hq _ H1 G1 S1 T1 (.new (fa := Γ.fa) (.str _))⟩
    · rw [if_neg hz] at hf; cases hf
  · cases hf
end
end PD

set_option Elab.async false
set_option linter.all false
set_option maxRecDepth 100000
set_option maxHeartbeats 1000000
/-! PDn: own lists and dicts changed; a name returned; pairs; walks of new dicts; enumerate; what never comes. -/
namespace PD
open PySem PySem.Spec PyProof.Rows L2
variable [TheW]
section
variable {K : PySem.W.Frag} {Γ : Gm} {σ : L2.St} {H G : Hp} {s : DS}
/-- an own name's thing becomes another -/
theorem Sta.ownUpd (S : Sta K Γ σ H G s) {i : Nat} {a a' : Pl} {p : Addr} {o : HO} (he : s.env[i]? = some (some a)) (ho : a.own = true) (hσ : σ[i]? = some (some (.ref p))) (ho' : a'.own = true)
    (hr : G p = none → p ≠ Γ.fa → SRp K Γ.fa (upd H p o) G (.ref p) a') :
    Sta K Γ σ (upd H p o) G ⟨s.env.set i (some a'), s.fs⟩ ∧ Stp Γ σ H G s (upd H p o) G ⟨s.env.set i (some a'), s.fs⟩ := by
  have hown : OwnAt σ s p := ⟨i, a, he, ho, hσ⟩
  obtain ⟨⟨o0, hp⟩, gp, pf⟩ := S.ownThere hown
  have nt0 : ∀ ps, H p ≠ some (.tbl ps) := by
    obtain ⟨v, h1, h2⟩ := S.env i a he
    rw [hσ] at h1
    cases h1
    exact some_nt hp (h2.ownNT ho rfl hp)
  have nt : isT o = false := (hr gp pf).ownNT ho' rfl upd_same
  have lt : i < s.env.length := (List.getElem?_eq_some_iff.mp he).1
  have old : ∀ (j : Nat) (b : Pl), (s.env.set i (some a'))[j]? = some (some b) → (j = i ∧ b = a') ∨ (j ≠ i ∧ s.env[j]? = some (some b)) := fun j b e => by
    by_cases z : j = i
    · subst z
      rw [List.getElem?_set_self lt] at e
      cases e
      exact .inl ⟨rfl, rfl⟩
    · rw [List.getElem?_set_ne (Ne.symm z)] at e
      exact .inr ⟨z, e⟩
  have oldO : ∀ b, OwnAt σ ⟨s.env.set i (some a'), s.fs⟩ b → OwnAt σ s b := fun b ⟨j, c, e1, e2, e3⟩ => by
    rcases old j c e1 with ⟨rfl, rfl⟩ | ⟨_, e⟩
    · rw [hσ] at e3; cases e3; exact hown
    · exact ⟨j, c, e, e2, e3⟩
  refine ⟨⟨fun b x e => ?_, S.g0, S.fr, fun b x h1 n2 h2 => ?_, by simpa using S.len, fun j c e => ?_, fun j k c d w e1 e2 e3 e4 f1 f2 => ?_, fun b e => S.new b (oldO b e), ?_, S.tok.put nt, S.tgr.after nt0, S.gnt⟩, ⟨Same.refl _, fun b x h1 h2 n2 e => ?_, oldO, fun b e => .inl e, fun b e => ?_, TGr.put nt0⟩⟩
  · rw [upd_ne (fun z => by rw [z, gp] at e; cases e)]; exact S.sub _ _ e
  · rw [upd_ne (fun z => by rw [z, S.new p hown] at h2; cases h2)]; exact S.keep b x h1 n2 h2
  · rcases old j c e with ⟨rfl, rfl⟩ | ⟨z, e⟩
    · exact ⟨_, hσ, hr gp pf⟩
    · obtain ⟨w, h1, h2⟩ := S.env j c e
      refine ⟨w, h1, h2.step (Same.refl _) fun ow q hq => ?_⟩
      obtain ⟨q', o', f1, f2, f3, _⟩ := h2.ownP ow
      rw [hq] at f1
      cases f1
      exact ⟨upd_ne (fun y => z (S.dis j i c a (.ref q) e he ow ho (by rw [h1, hq]) (by rw [hσ, y]))), f3⟩
  · rcases old j c e1 with ⟨rfl, rfl⟩ | ⟨z1, g1⟩
    · rcases old k d e2 with ⟨rfl, rfl⟩ | ⟨z2, g2⟩
      · rfl
      · exact S.dis j k a d w he g2 ho e4 f1 f2
    · rcases old k d e2 with ⟨rfl, rfl⟩ | ⟨z2, g2⟩
      · exact S.dis j k c a w g1 he e3 ho f1 f2
      · exact S.dis j k c d w g1 g2 e3 e4 f1 f2
  · obtain ⟨c, h1, h2, h3⟩ := S.fd
    exact ⟨c, by rw [upd_ne (Ne.symm pf)]; exact h1, h2, h3⟩
  · rw [upd_ne (fun z => h2 (by rw [z]; exact hown))]; exact e
  · by_cases z : b = p
    · rw [z, upd_same]; simp
    · rw [upd_ne z]; exact e
/-- an own result that has come stays its own -/
theorem Got.thru {H1 G1 H2 G2 : Hp} {s1 s2 : DS} {v : V} {r : Pl} (S : Sta K Γ σ H G s) (S1 : Sta K Γ σ H1 G1 s1) (T1 : Stp Γ σ H G s H1 G1 s1) (g : Got K Γ H H1 G1 v r) (T2 : Stp Γ σ H1 G1 s1 H2 G2 s2) : Got K Γ H H2 G2 v r := by
  refine ⟨g.rp.step T2.gg fun ow p hp => ?_, g.ow⟩
  obtain ⟨q, o, e1, e2, e3, e4, _⟩ := g.rp.ownP ow
  rw [hp] at e1
  cases e1
  obtain ⟨q', f1, f2⟩ := g.ow ow
  rw [hp] at f1
  cases f1
  have no : ¬ OwnAt σ s1 p := fun z => by
    obtain ⟨⟨o, q⟩, _⟩ := S.ownThere (T1.own p z)
    rw [f2] at q; cases q
  refine ⟨by rw [e2]; exact T2.keep p o e4 no (g.rp.ownNT ow hp e2) e2, ?_⟩
  cases z : G2 p with
  | none => rfl
  | some x =>
    rcases T2.nw p (by rw [z]; simp) with h | h | h
    · exact absurd e3 h
    · rw [e2] at h; cases h
    · exact absurd h no
end
section
variable {X : Cx} {Γ : Gm} {a b e : Expr} {pos : Pos}
/-! ### x.append(e), x own -/
def fApp (i : Nat) (f : Ef) : Ef := fun s => match s.env[i]? with
  | some (some (.ownL _)) => (f s).bind fun (r, s1) => match fz r, s1.env[i]? with
    | .val d, some (some (.ownL xs)) => if xs.length < sizeLine then some (.val .none, ⟨s1.env.set i (some (.ownL (xs ++ [d]))), s1.fs⟩) else none
    | _, _ => none
  | _ => none
theorem pd_append {o : Expr} {apos cpos : Pos} {i : Nat} {f : Ef} (ho : PE X o (tVar i)) (he : PEd X Γ e f) (hbase : attributeBase o "append" X.env (eval o X.env) = eval o X.env := by rfl)
    (hfew : ((backTo cpos (starEach [e] X.env)).all (fun x => !x.1) && (backToKw cpos (keywordEach [] X.env)).all (fun x => x.1.isSome)
      && decide ([e].length + ([] : List Keyword).length + (if ([] : List Keyword).isEmpty then 0 else 1) < 30)) = true := by rfl)
    (hline : (apos.endLine == cpos.line) = true := by rfl) (hs : starEach [e] X.env = (false, eval e X.env) :: starEach [] X.env := by rfl) (hplain : (backTo cpos (starEach [] X.env)).any (·.1) = false := by rfl) :
    PEd X Γ (.Call (.Attribute o "append" apos) [e] [] cpos) (fApp i f) := by
  obtain ⟨te, pe, ke⟩ := he
  refine ⟨_, pe_bm PySem.F.plainAttrs_list PySem.F.slot_list_append PySem.F.type_list_append mt_append ho (pa_cons pe pa_nil hs) hbase hfew hline hs hplain, fun σ H G s s' r Q S hf hq => ?_⟩
  unfold fApp at hf
  split at hf
  case h_2 => cases hf
  rename_i xs0 e0
  obtain ⟨v, hv, p, vs, rfl, hp, gp, pf, hr⟩ := S.env i _ e0
  cases h1 : f s with
  | none => rw [h1] at hf; cases hf
  | some w =>
    obtain ⟨r1, s1⟩ := w
    simp only [h1, Option.bind_some] at hf
    split at hf
    case h_2 => cases hf
    rename_i d xs e1 e2
    by_cases hz : xs.length < sizeLine
    case neg => rw [if_neg hz] at hf; cases hf
    rw [if_pos hz] at hf
    cases hf
    refine ⟨.ref p, hv, .inl ⟨rfl, _, .inl (.inl hp)⟩, ke σ H G s s1 r1 _ S h1 fun y H1 G1 S1 T1 g1 => ?_⟩
    obtain ⟨G2, S2, T2, r2⟩ := S.freeze S1 T1 g1
    rw [e1] at r2
    obtain ⟨v', hv', p', vs', rfl, hp', gp', pf', hr'⟩ := S2.env i _ e2
    rw [hv] at hv'
    cases hv'
    obtain ⟨A, B⟩ := S2.ownUpd (o := .lst (vs' ++ [y])) (a' := .ownL (xs ++ [d])) e2 rfl hv rfl fun g f => ⟨p, _, rfl, upd_same, g, f, hr'.append (.cons r2 .nil)⟩
    exact ⟨p, vs', y, rfl, rfl, hp', by rw [hr'.length]; exact hz, hq _ _ _ A (T2.trans B) (.new (fa := Γ.fa) .non)⟩
/-! ### x[i] = e, x own -/
def sSetL (i : Nat) (f g : Ef) : Sf := fun s => (f s).bind fun (r, s1) => match fz r, s1.env[i]? with
  | .val d, some (some (.ownL _)) => (fI g s1).bind fun (k, s2) => match s2.env[i]? with
    | some (some (.ownL xs)) => (ixN xs.length k).map fun j => .nx ⟨s2.env.set i (some (.ownL (xs.set j d))), s2.fs⟩
    | _ => none
  | _, _ => none
theorem ps_setLD {o ix : Expr} {tpos : Pos} {i : Nat} {f g : Ef} (ho : PE X o (tVar i)) (he : PEd X Γ e f) (hi : PEd X Γ ix g)
    (ha : ∀ v, assign (.Subscript o ix tpos) X.env v = (do
      let ov ← holding [v] (eval o X.env)
      let iv ← holding [v, ov] (eval ix X.env)
      standAt tpos
      holding [v, ov, iv] (setItem ov iv v)
      release [v, ov, iv] []) := by intro _; rfl)
    (hs : swapsWithSole [.Subscript o ix tpos] e pos.line X.env = pure false := by rfl) (hw : swappedStores [.Subscript o ix tpos] e X.env = pure none := by rfl)
    (h1 : (assignEach [.Subscript o ix tpos] X.env).map (·.2) = [assign (.Subscript o ix tpos) X.env] := by rfl) : PSd X Γ (.Assign [.Subscript o ix tpos] e pos) (sSetL i f g) := by
  obtain ⟨te, pe, ke⟩ := he
  obtain ⟨ti, pi, ki⟩ := hi.int
  refine ⟨_, ps_asg pe (pg_sub ho pi set_list ha) hs hw h1, fun σ H G s o D S hf hp => ?_⟩
  unfold sSetL at hf
  cases h1 : f s with
  | none => rw [h1] at hf; cases hf
  | some w =>
    obtain ⟨r1, s1⟩ := w
    simp only [h1, Option.bind_some] at hf
    split at hf
    case h_2 => cases hf
    rename_i d xs0 e1 e0
    cases h2 : fI g s1 with
    | none => rw [h2] at hf; cases hf
    | some w2 =>
      obtain ⟨k, s2⟩ := w2
      simp only [h2, Option.bind_some] at hf
      split at hf
      case h_2 => cases hf
      rename_i xs e2
      cases hj : ixN xs.length k with
      | none => rw [hj] at hf; cases hf
      | some j =>
        rw [hj] at hf
        cases hf
        refine ke σ H G s s1 r1 _ S h1 fun y H1 G1 S1 T1 g1 => ?_
        obtain ⟨G2, S2, T2, r2⟩ := S.freeze S1 T1 g1
        rw [e1] at r2
        obtain ⟨v, hv, p, vs, rfl, hp1, gp1, pf1, hr1⟩ := S2.env i _ e0
        refine ⟨.ref p, hv, ki σ H1 G2 s1 s2 k _ S2 h2 fun H3 G3 S3 T3 => ?_⟩
        obtain ⟨v', hv', p', vs', rfl, hp', gp', pf', hr'⟩ := S3.env i _ e2
        rw [hv] at hv'
        cases hv'
        obtain ⟨A, B⟩ := S3.ownUpd (o := .lst (vs'.set j y)) (a' := .ownL (xs.set j d)) e2 rfl hv rfl fun g f => ⟨p, _, rfl, upd_same, g, f, hr'.set (Rp.mono T3.gg r2) j⟩
        exact ⟨p, vs', k, j, rfl, rfl, hp', by rw [hr'.length]; exact hj, hp σ _ _ A (T2.gg.trans (T3.gg.trans B.gg))⟩
/-! ### x[k] = e, x an own dict -/
def sSetK (i : Nat) (f g : Ef) : Sf := fun s => (f s).bind fun (r, s1) => match fz r, s1.env[i]? with
  | .val d, some (some (.ownK _)) => (g s1).bind fun (q, s2) => match q, s2.env[i]? with
    | .val kd, some (some (.ownK kvs)) => (keyD kd).bind fun k => if kvs.length < sizeLine then some (.nx ⟨s2.env.set i (some (.ownK (putD kvs k d))), s2.fs⟩) else none
    | _, _ => none
  | _, _ => none
theorem ps_setKD {o ix : Expr} {tpos : Pos} {i : Nat} {f g : Ef} (hu : X.A.units + 1 < cLine) (ho : PE X o (tVar i)) (he : PEd X Γ e f) (hi : PEd X Γ ix g)
    (hs : swapsWith e (some (.Subscript o ix tpos)) pos.line X.env = pure false := by rfl) : PSd X Γ (.Assign [.Subscript o ix tpos] e pos) (sSetK i f g) := by
  obtain ⟨te, pe, ke⟩ := he
  obtain ⟨ti, pi, ki⟩ := hi
  refine ⟨_, ps_dput hu ho pi pe hs, fun σ H G s o D S hf hp => ?_⟩
  unfold sSetK at hf
  cases h1 : f s with
  | none => rw [h1] at hf; cases hf
  | some w =>
    obtain ⟨r1, s1⟩ := w
    simp only [h1, Option.bind_some] at hf
    split at hf
    case h_2 => cases hf
    rename_i d xs0 e1 e0
    cases h2 : g s1 with
    | none => rw [h2] at hf; cases hf
    | some w2 =>
      obtain ⟨q, s2⟩ := w2
      simp only [h2, Option.bind_some] at hf
      split at hf
      case h_2 => cases hf
      rename_i kd kvs e2
      cases hk : keyD kd with
      | none => rw [hk] at hf; cases hf
      | some k =>
        simp only [hk, Option.bind_some] at hf
        by_cases hz : kvs.length < sizeLine
        case neg => rw [if_neg hz] at hf; cases hf
        rw [if_pos hz] at hf
        cases hf
        refine ke σ H G s s1 r1 _ S h1 fun y H1 G1 S1 T1 g1 => ?_
        obtain ⟨G2, S2, T2, r2⟩ := S.freeze S1 T1 g1
        rw [e1] at r2
        obtain ⟨v, hv, p, vs, rfl, hp1, gp1, pf1, hr1⟩ := S2.env i _ e0
        refine ⟨.ref p, hv, ki σ H1 G2 s1 s2 _ _ S2 h2 fun z H3 G3 S3 T3 g3 => ?_⟩
        obtain ⟨v', hv', p', vs', rfl, hp', gp', pf', hr'⟩ := S3.env i _ e2
        rw [hv] at hv'
        cases hv'
        have ez : z = kV k := Rp.keyI (show Rp X.K G3 z kd from g3.rp) hk
        subst ez
        obtain ⟨A, B⟩ := S3.ownUpd (o := .dK (putK vs' k y)) (a' := .ownK (putD kvs k d)) e2 rfl hv rfl fun g f => ⟨p, _, rfl, upd_same, g, f, hr'.put (Rp.mono T3.gg r2)⟩
        exact ⟨p, _, rfl, DPut.k hp' (by rw [hr'.length]; exact hz), hp σ _ _ A (T2.gg.trans (T3.gg.trans B.gg))⟩
/-! ### return of a name: an own thing stays its own -/
def sRetV (i : Nat) : Sf := fun s => match s.env[i]? with
  | some (some a) => some (.rt a s)
  | _ => none
theorem ps_retVD {i : Nat} (h : PE X e (tVar i)) : PSd X Γ (.Return (some e) pos) (sRetV i) := by
  refine ⟨_, ps_ret h, fun σ H G s o D S hf hp => ?_⟩
  unfold sRetV at hf
  split at hf
  case h_2 => cases hf
  rename_i a e0
  cases hf
  obtain ⟨v, hv, hr⟩ := S.env i a e0
  refine ⟨v, hv, hp v σ H G S (Same.refl _) ⟨hr, fun z => ?_⟩⟩
  obtain ⟨p, o, rfl, _⟩ := hr.ownP z
  exact ⟨p, rfl, S.new p ⟨i, a, e0, z, hv⟩⟩
/-! ### what never comes -/
theorem ps_neverD {st : Stmt} : PSd X Γ st fun _ => none := ⟨fun _ _ _ => False, ⟨fun _ _ _ _ _ _ h => False.elim h⟩, fun _ _ _ _ _ _ _ hf => nomatch hf⟩
/-! ### a, b = e1, e2 -/
theorem ps_parD {i j : Nat} {x y : Str} {f g : Ef} {px py pt : Pos} {kt k2 pt2} (hc : X.calm = true) (hN : X.N.Nodup) (hi : X.N[i]? = some x) (hj : X.N[j]? = some y) (hij : i ≠ j)
    (hx : X.env.scope.names.lookup x = some .local) (hy : X.env.scope.names.lookup y = some .local) (ha : PEd X Γ a f) (hb : PEd X Γ b g)
    (hw : swappedStores [.Tuple [.Name x px, .Name y py] kt pt] (.Tuple [a, b] k2 pt2) X.env = pure (some [x, y]))
    (hs1 : starEach [a, b] X.env = (false, eval a X.env) :: starEach [b] X.env := by rfl) (hs2 : starEach [b] X.env = (false, eval b X.env) :: starEach [] X.env := by rfl)
    (hs : swapsWithSole [.Tuple [.Name x px, .Name y py] kt pt] (.Tuple [a, b] k2 pt2) pos.line X.env = pure false := by rfl) :
    PSd X Γ (.Assign [.Tuple [.Name x px, .Name y py] kt pt] (.Tuple [a, b] k2 pt2) pos) (sPar f g i j) := by
  obtain ⟨ta, pa, ka⟩ := ha
  obtain ⟨tb, pb, kb⟩ := hb
  refine ⟨_, ps_par hc hN hi hj hij hx hy (pa_cons pa (pa_cons pb pa_nil hs2) hs1) hw hs, fun σ H G s o D S hf hp => ?_⟩
  unfold sPar at hf
  cases h1 : f s with
  | none => rw [h1] at hf; cases hf
  | some w1 =>
    obtain ⟨r1, s1⟩ := w1
    simp only [h1, Option.bind_some] at hf
    cases h2 : g s1 with
    | none => rw [h2] at hf; cases hf
    | some w2 =>
      obtain ⟨r2, s2⟩ := w2
      simp only [h2, Option.bind_some, Option.some.injEq] at hf
      subst hf
      refine ka σ H G s s1 r1 _ S h1 fun v H1 G1 S1 T1 g1 => ?_
      refine kb σ H1 G1 s1 s2 r2 _ S1 h2 fun w H2 G2 S2 T2 g2 => ?_
      refine ⟨v, w, rfl, ?_⟩
      have q1 := Got.thru S S1 T1 g1 T2
      have P1 := S2.put i (q1.fits S (T1.trans T2))
      have F2 : Fits X.K Γ (σ.set i (some v)) H2 G2 ⟨s2.env.set i (some r1), s2.fs⟩ w r2 := by
        refine ⟨g2.rp, fun z => ?_⟩
        obtain ⟨p, e1, n1⟩ := g2.ow z
        refine ⟨p, e1, fun ⟨l, c, f1, f2, f3⟩ => ?_, S1.fresh0 n1⟩
        by_cases hl : l = i
        · subst hl
          have lt : l < s2.env.length := by
            have := (List.getElem?_eq_some_iff.mp f1).1
            simpa using this
          rw [List.getElem?_set_self lt] at f1
          cases f1
          rw [List.getElem?_set_self (by rw [← S2.len]; exact lt)] at f3
          cases f3
          obtain ⟨p', o', k1, k2, _⟩ := g1.rp.ownP f2
          cases k1
          rw [n1] at k2
          cases k2
        · rw [List.getElem?_set_ne (Ne.symm hl)] at f1 f3
          obtain ⟨⟨o', q⟩, _⟩ := S1.ownThere (T2.own p ⟨l, c, f1, f2, f3⟩)
          rw [n1] at q
          cases q
      exact hp _ H2 G2 (P1.put j F2) (T1.gg.trans T2.gg)
/-! ### the walk of a new dict: its keys, its pairs -/
def tLk (te : TE) : TE := fun σ H Q => te σ H fun x H1 => ∃ d kvs, x = .ref d ∧ H1 d = some (.dK kvs) ∧ ∀ o, Q (.ref d) (upd H1 d (.frz o (.dK kvs)))
theorem pe_lk {te : TE} (h : PE X e te) : PE X e (tLk te) := by
  refine ⟨fun pins s σ H Q I q => thn (h.run pins s σ H _ I q) fun u s1 ⟨x, H1, I1, rx, d, kvs, ex, hd, q1⟩ => ?_⟩
  subst ex
  obtain rfl : u = Value.ref d := rx
  obtain ⟨od, I2⟩ := I1.lock hd trivial
  exact ⟨.ref d, _, I2, rfl, q1 od⟩
theorem own_lock {σ : L2.St} {H G H1 G1 : Hp} {s s1 : DS} {v : V} {kvs : List (Key × PyData)} (S : Sta X.K Γ σ H G s) (S1 : Sta X.K Γ σ H1 G1 s1) (T : Stp Γ σ H G s H1 G1 s1) (g : Got X.K Γ H H1 G1 v (.ownK kvs)) :
    ∃ d kv, v = .ref d ∧ H1 d = some (.dK kv) ∧ ∀ o, ∃ G2, Sta X.K Γ σ (upd H1 d (.frz o (.dK kv))) G2 s1 ∧ Stp Γ σ H G s (upd H1 d (.frz o (.dK kv))) G2 s1 ∧ G2 d = some (.frz o (.dK kv)) ∧ KVRp X.K G2 kv kvs := by
  obtain ⟨d, kv, rfl, h1, h2, h3, h4⟩ := g.rp
  obtain ⟨d', e, n⟩ := g.ow rfl
  cases e
  refine ⟨d, kv, rfl, h1, fun o => ?_⟩
  have no : ¬ OwnAt σ s1 d := fun z => by
    obtain ⟨⟨o, q⟩, _⟩ := S.ownThere (T.own d z)
    rw [n] at q; cases q
  have S1' := S1.touch (o := .frz o (.dK kv)) h2 h3 no (S.fresh0 n) (some_nt h1 rfl)
  have T' : Stp Γ σ H G s (upd H1 d (.frz o (.dK kv))) G1 s1 := ⟨T.gg, fun b x n1 n2 nt e => by rw [upd_ne (fun z => by rw [z, n] at e; cases e)]; exact T.keep b x n1 n2 nt e, T.own, T.nw, fun b e => by
    by_cases z : b = d
    · rw [z, upd_same]; simp
    · rw [upd_ne z]; exact T.mo b e, T.tgr.after (some_nt h1 rfl)⟩
  obtain ⟨A, B⟩ := S.adopt S1' T' n upd_same h2
  exact ⟨_, A, B, upd_same, h4.mono (same_upd' h2)⟩
def wKeys (f : Ef) : Wf := fun s => match f s with
  | some (.ownK kvs, s') => some (kvs.map fun kv => kD kv.1, s')
  | _ => none
theorem pid_keys {tg : Expr} {t : Tg} {f : Ef} (h : PEd X Γ e f) : PId X Γ tg e t (wKeys f) := by
  obtain ⟨te, p, k⟩ := h
  refine ⟨_, pi_keys (pe_lk p), fun σ H G s s' ds R S hf hq => ?_⟩
  unfold wKeys at hf
  split at hf
  case h_2 => cases hf
  rename_i kvs s1 e1
  cases hf
  refine k σ H G s _ _ _ S e1 fun v H1 G1 S1 T1 g1 => ?_
  obtain ⟨d, kv, rfl, h1, hl⟩ := own_lock S S1 T1 g1
  refine ⟨d, kv, rfl, h1, fun o => ?_⟩
  obtain ⟨G2, S2, T2, h2, h3⟩ := hl o
  refine ⟨d, o, rfl, .inl ⟨kv, upd_same, hq _ _ G2 S2 T2 ?_⟩⟩
  intro σ3 H3 G3 s3 S3 g3
  have hd := S3.sub _ _ (g3 _ _ h2)
  have ks := RpAll.keys h3
  have kl : kv.length = kvs.length := h3.length
  refine ⟨fun i x hx => ?_, fun i hi => ⟨hd, by rw [List.length_map] at hi; rw [kl]; exact (Nat.le_of_eq hi.symm)⟩⟩
  obtain ⟨v, f1, f2⟩ := ks.get hx
  have hi : i < kv.length := by
    have := (List.getElem?_eq_some_iff.mp f1).1
    simpa using this
  refine ⟨⟨hd, hi⟩, fun y H' hy => ?_⟩
  obtain ⟨rfl, k, w, hk, rfl⟩ := hy
  rw [List.getElem?_map, hk] at f1
  cases f1
  exact ⟨G3, S3, .refl, fit_val S3 (f2.mono g3)⟩
def wItems (f : Ef) : Wf := fun s => match f s with
  | some (.ownK kvs, s') => some (kvs.map fun kv => .tuple [kD kv.1, kv.2], s')
  | _ => none
theorem pid_items {elts : List Expr} {kk : Nat} {tpos apos cpos : Pos} {l : List Tg} {f : Ef} (h : PEd X Γ e f) (hbase : attributeBase e "items" X.env (eval e X.env) = eval e X.env := by rfl) (hline : (apos.endLine == cpos.line) = true := by rfl) :
    PId X Γ (.Tuple elts kk tpos) (.Call (.Attribute e "items" apos) [] [] cpos) (.tp l) (wItems f) := by
  obtain ⟨te, p, k⟩ := h
  refine ⟨_, pi_items (pe_lk p) hbase hline, fun σ H G s s' ds R S hf hq => ?_⟩
  unfold wItems at hf
  split at hf
  case h_2 => cases hf
  rename_i kvs s1 e1
  cases hf
  refine k σ H G s _ _ _ S e1 fun v H1 G1 S1 T1 g1 => ?_
  obtain ⟨d, kv, rfl, h1, hl⟩ := own_lock S S1 T1 g1
  refine ⟨d, kv, rfl, h1, fun o => ?_⟩
  obtain ⟨G2, S2, T2, h2, h3⟩ := hl o
  refine ⟨d, o, kv, rfl, upd_same, hq _ _ G2 S2 T2 ?_⟩
  intro σ3 H3 G3 s3 S3 g3
  have hd := S3.sub _ _ (g3 _ _ h2)
  have kl : kv.length = kvs.length := h3.length
  have ks := RpAll.keys h3
  refine ⟨fun i x hx => ?_, fun i hi => ⟨hd, by rw [List.length_map] at hi; rw [kl]; exact (Nat.le_of_eq hi.symm)⟩⟩
  have hi : i < kvs.length := by
    have := (List.getElem?_eq_some_iff.mp hx).1
    simpa using this
  refine ⟨⟨hd, by rw [kl]; exact hi⟩, fun y H' hy => ?_⟩
  obtain ⟨T, k, w, hk, rfl, hT, rfl⟩ := hy
  have val : ∀ {a : List (Key × V)} {b : List (Key × PyData)} {i : Nat} {p : Key × V}, KVRp X.K G2 a b → a[i]? = some p → ∃ q, b[i]? = some q ∧ p.1 = q.1 ∧ Rp X.K G2 p.2 q.2 := by
    intro a b i p h
    induction h generalizing i with
    | nil => intro e; simp at e
    | @cons p0 q0 ps qs h t ih =>
      intro e
      cases i with
      | zero => simp at e; subst e; exact ⟨q0, rfl, h⟩
      | succ i => exact ih (by simpa using e)
  obtain ⟨⟨k', d'⟩, hq1, hq2, hq3⟩ := val h3 hk
  simp only at hq2 hq3
  subst hq2
  rw [List.getElem?_map, hq1] at hx
  cases hx
  obtain ⟨A, B⟩ := S3.alloc (o := .tup [kV k, w]) hT
  refine ⟨G3, A, B, fun _ => ⟨[kD k, d'], T, [kV k, w], rfl, rfl, .inl (.inl upd_same), .cons ?_ (.cons (hq3.mono g3) .nil)⟩⟩
  cases k with
  | inl i => exact .int i
  | inr x => exact .str x
end
end PD

set_option Elab.async false
set_option linter.all false
set_option maxRecDepth 100000
set_option maxHeartbeats 1000000
/-! PDo: a dict display of one pair; list.index; enumerate. -/
namespace PD
open PySem PySem.Spec PyProof.Rows L2
variable [TheW]
section
variable {X : Cx} {Γ : Gm} {a b e : Expr} {pos : Pos}
def fDic (fk fv : Ef) : Ef := fun s => (fk s).bind fun (q, s1) => (fv s1).bind fun (r, s2) => match q, fz r with
  | .val kd, .val d => (keyD kd).map fun k => (.ownK [(k, d)], s2)
  | _, _ => none
theorem pd_dic {fk fv : Ef} (hk : PEd X Γ a fk) (hv : PEd X Γ b fv) : PEd X Γ (.Dict [some a] [b] pos) (fDic fk fv) := by
  obtain ⟨tk, pk, kk⟩ := hk
  obtain ⟨tv, pv, kv⟩ := hv
  refine ⟨_, pe_disp (pps_cons pk pv pps_nil) rfl rfl (by simp) (by simp), fun σ H G s s' r Q S hf hq => ?_⟩
  unfold fDic at hf
  cases h1 : fk s with
  | none => rw [h1] at hf; cases hf
  | some w1 =>
    obtain ⟨q, s1⟩ := w1
    simp only [h1, Option.bind_some] at hf
    cases h2 : fv s1 with
    | none => rw [h2] at hf; cases hf
    | some w2 =>
      obtain ⟨r1, s2⟩ := w2
      simp only [h2, Option.bind_some] at hf
      split at hf
      case h_2 => cases hf
      rename_i kd d e1
      cases ek : keyD kd with
      | none => rw [ek] at hf; cases hf
      | some k =>
        rw [ek] at hf
        cases hf
        intro p hn
        obtain ⟨S0, T0⟩ := S.alloc (o := .dK []) hn
        obtain ⟨gp, pf⟩ := S.gNone hn
        have h0p := S.fresh0 hn
        have no : ∀ {H2 G2 : Hp} {s2 : DS}, Stp Γ σ H G s H2 G2 s2 → ¬ OwnAt σ s2 p := fun T z => by
          obtain ⟨⟨o, q⟩, _⟩ := S.ownThere (T.own p z)
          rw [hn] at q; cases q
        refine kk σ _ G s s1 _ _ S0 h1 fun x H1 G1 S1 T1 g1 => ?_
        refine kv σ H1 G1 s1 _ r1 _ S1 h2 fun y H2 G2 S2 T2 g2 => ?_
        obtain ⟨G3, S3, T3, r3⟩ := S1.freeze S2 T2 g2
        rw [e1] at r3
        have ex : x = kV k := Rp.keyI (show Rp X.K G1 x kd from g1.rp) ek
        subst ex
        have T03 := T1.trans T3
        have TT := T0.trans T03
        have hp2 : H2 p = some (.dK []) := T03.keep p _ pf (no T0) rfl upd_same
        have gp3 : G3 p = none := by
          cases z : G3 p with
          | none => rfl
          | some o =>
            rcases T03.nw p (by rw [z]; simp) with q | q | q
            · exact absurd gp q
            · rw [upd_same] at q; cases q
            · exact absurd q (no T0)
        refine ⟨hp2, [(k, y)], rfl, by simp, ?_⟩
        have S4 := S3.touch (o := .dK [(k, y)]) gp3 pf (no TT) h0p (some_nt hp2 rfl)
        refine hq _ _ G3 S4 ⟨TT.gg, fun b o n1 n2 nt e => ?_, TT.own, TT.nw, fun b e => ?_, TT.tgr.after (some_nt hp2 rfl)⟩ ⟨⟨p, _, rfl, upd_same, gp3, pf, .cons ⟨rfl, r3⟩ .nil⟩, fun _ => ⟨p, rfl, hn⟩⟩
        · rw [show mergeK [] [(k, y)] = [(k, y)] from rfl, upd_ne (fun z => by rw [z, hn] at e; cases e)]
          exact TT.keep b o n1 n2 nt e
        · by_cases z : b = p
          · rw [z]; show (upd H2 p _) p ≠ none; rw [upd_same]; simp
          · rw [show mergeK [] [(k, y)] = [(k, y)] from rfl, upd_ne z]; exact TT.mo b e
/-! ### l.index(x) of a list -/
def gIdxL : Pl → Pl → Option Pl
  | .val (.list ds), .val d => if SeqAt.shaped (.list ds) && SeqAt.shaped d then (ds.findIdx? fun y => PyData.eqv y d).map fun j => .val (.int (j : Nat)) else none
  | _, _ => none
def fIdxL (f g : Ef) : Ef := fun s => (f s).bind fun (x, s1) => (g s1).bind fun (y, s2) => (gIdxL (fz x) (fz y)).map fun r => (r, s2)
theorem pd_idxL {apos cpos : Pos} {f g : Ef} (hu : X.A.units + 65 < cLine) (ha : PEd X Γ a f) (he : PEd X Γ e g) (hbase : attributeBase a "index" X.env (eval a X.env) = eval a X.env := by rfl)
    (hfew : ((backTo cpos (starEach [e] X.env)).all (fun x => !x.1) && (backToKw cpos (keywordEach [] X.env)).all (fun x => x.1.isSome)
      && decide ([e].length + ([] : List Keyword).length + (if ([] : List Keyword).isEmpty then 0 else 1) < 30)) = true := by rfl)
    (hline : (apos.endLine == cpos.line) = true := by rfl) (hs : starEach [e] X.env = (false, eval e X.env) :: starEach [] X.env := by rfl) (hplain : (backTo cpos (starEach [] X.env)).any (·.1) = false := by rfl) :
    PEd X Γ (.Call (.Attribute a "index" apos) [e] [] cpos) (fIdxL f g) := by
  obtain ⟨t1, p1, k1⟩ := ha
  obtain ⟨t2, p2, k2⟩ := he
  refine ⟨_, pe_bm PySem.F.plainAttrs_list PySem.F.slot_list_index PySem.F.type_list_index (mt_indexD hu) p1 (pa_cons p2 pa_nil hs) hbase hfew hline hs hplain, fun σ H G s s' r Q S hf hq => ?_⟩
  unfold fIdxL at hf
  cases h1 : f s with
  | none => rw [h1] at hf; cases hf
  | some w1 =>
    obtain ⟨x, s1⟩ := w1
    simp only [h1, Option.bind_some] at hf
    cases h2 : g s1 with
    | none => simp only [h2, Option.bind_none] at hf; cases hf
    | some w2 =>
      obtain ⟨y, s2⟩ := w2
      simp only [h2, Option.bind_some] at hf
      cases h4 : gIdxL (fz x) (fz y) with
      | none => simp only [h4, Option.map_none] at hf; cases hf
      | some z =>
        simp only [h4, Option.map_some, Option.some.injEq, Prod.mk.injEq] at hf
        obtain ⟨rfl, rfl⟩ := hf
        refine k1 σ H G s s1 x _ S h1 fun v H1 G1 S1 T1 g1 => ?_
        obtain ⟨G1', S1', T1', r1'⟩ := S.freeze S1 T1 g1
        unfold gIdxL at h4
        split at h4
        case h_2 => cases h4
        rename_i ds d e1 e2
        by_cases hz : (SeqAt.shaped (.list ds) && SeqAt.shaped d) = true
        case neg => rw [if_neg hz] at h4; cases h4
        rw [if_pos hz] at h4
        obtain ⟨z1, z2⟩ := Bool.and_eq_true_iff.mp hz
        cases ej : ds.findIdx? (fun y => PyData.eqv y d) with
        | none => rw [ej] at h4; cases h4
        | some j =>
          rw [ej] at h4
          cases h4
          rw [e1] at r1'
          cases (show Rp X.K G1' v (.list ds) from r1') with
          | @lst p vs _ hp hr =>
          refine ⟨.inl ⟨rfl, vs, .inl (.inl (S1'.sub _ _ hp))⟩, k2 σ H1 G1' s1 _ y _ S1' h2 fun w H2 G2 S2 T2 g2 => ?_⟩
          have r2 := View.of S2.sub g2.rp
          rw [e2] at r2
          obtain ⟨hj, hj1, hj2⟩ := List.findIdx?_eq_some_iff_getElem.mp ej
          refine ⟨p, w, d, ds, j, ds[j], rfl, rfl, .lst (.inl (.inl (S2.sub _ _ (T2.gg _ _ hp)))) ((hr.mono T2.gg).mono S2.sub).dp, r2.dp S2.sub, z1, z2, List.getElem?_eq_getElem hj, hj1, fun m z' hm hz' => ?_, hq _ H2 G2 S2 (T1'.trans T2) (.new (fa := Γ.fa) (.int _))⟩
          have hml : m < ds.length := by omega
          rw [List.getElem?_eq_getElem hml] at hz'
          have := hj2 m hm
          rw [Option.some.inj hz'] at this
          simpa using this
end
/-! ### enumerate of a tuple -/
set_option maxHeartbeats 4000000 in
theorem meets_enumerate_new1 {v : Value} {o : Obj} {Hh : Heap → Prop} (B : Begins v o Hh) :
    Meets (Builtin.«enumerate.__new__» ⟨[.type "enumerate", v], []⟩) (fun _ R s => Hh s.heap ∧
      R (.ok (.ret (.ref (s.heap.push o).objs.size))) { s with heap := (s.heap.push o).push { cls := .type "enumerate", data := .fields #[.none, .bool false, .ref s.heap.objs.size, rawInt 0, .none, .none] } }) :=
  .of_wp fun prog w A R s h => by
    obtain ⟨hp, g, d, tk, os⟩ := s
    obtain ⟨h1, h⟩ := h
    have hsub := sub_enumerate
    have q1 : ∀ {A' : Around} {E : Value → Shared → Prop} {Q : Value → Shared → Prop}, Q (.ref hp.objs.size) ⟨hp.push o, g, d, tk, os⟩ → wpAny (model prog w) A' (pyIter v) Q E ⟨hp, g, d, tk, os⟩ :=
      fun q => B.iter prog w _ _ ⟨hp, g, d, tk, os⟩ _ h1 q
    wp_walk using q1
    refine wpAny_stack_any fun st => wpAny_pure ?_
    split
    · rename_i c _ _ _ _ _
      cases (c == Value.type "enumerate")
      · wp_walk using q1
        exact ⟨_, rfl, h⟩
      · wp_walk using q1
        exact ⟨_, rfl, h⟩
    · wp_walk using q1
      exact ⟨_, rfl, h⟩
section
variable {prog : Program} {w : World} {A : Around} {E : Value → Shared → Prop} {s : Shared}
theorem enum_begins1 {v : Value} {o : Obj} {Hh : Heap → Prop} {Q : Value → Shared → Prop} (B : Begins v o Hh) (h1 : Hh s.heap)
    (h : ∀ h', IsEnum h' (s.heap.objs.size + 1) s.heap.objs.size 0 .none → h'.get? s.heap.objs.size = some o → h'.objs.size = s.heap.objs.size + 2 →
      (∀ b o, s.heap.get? b = some o → h'.get? b = some o) → Q (.ref (s.heap.objs.size + 1)) { s with heap := h' }) :
    wpAny (model prog w) A (call (.type "enumerate") [v]) Q E s := by
  refine callType_new F.called_enumerate (by decide) (F.typeCall_enumerate_1 _) (F.newCall_enumerate_1 _) (fun obj => F.args_object_init_2 obj _) F.entry_enumerate_new
    (meets_enumerate_new1 B) ⟨h1, ?_⟩
  have hz : (s.heap.push o).objs.size = s.heap.objs.size + 1 := Heap.size_push ..
  show _ ∧ _
  rw [hz]
  have he : IsEnum ((s.heap.push o).push { cls := .type "enumerate", data := .fields #[.none, .bool false, .ref s.heap.objs.size, rawInt 0, .none, .none] }) (s.heap.objs.size + 1) s.heap.objs.size 0 .none := by
    have := Heap.get?_push_size (s.heap.push o) (o := { cls := .type "enumerate", data := .fields #[.none, .bool false, .ref s.heap.objs.size, rawInt 0, .none, .none] }) rfl
    rw [hz] at this; exact this
  refine ⟨⟨_, he, rfl⟩, h _ he (Heap.get?_push_of_some _ (Heap.get?_push_size _ B.free)) (by rw [Heap.size_push, hz]) fun b o x => Heap.get?_push_of_some _ (Heap.get?_push_of_some _ x)⟩
end
/-- the tuple at a, each item in a new pair -/
def IteT (K : PySem.W.Frag) (a : Addr) : It :=
  ⟨fun i H => ∃ (xs : List V) (x : V), SqT K H a xs ∧ xs[i]? = some x, fun i H v H' => ∃ T x, v = .ref T ∧ H T = none ∧ H' = upd H T (.tup [.int (i : Nat), x]) ∧ ∀ xs, SqT K H a xs → xs[i]? = some x, fun i H => ∃ xs : List V, SqT K H a xs ∧ xs.length ≤ i⟩
theorem turn_enumT {P : Program} {w : World} {K : PySem.W.Frag} {elts : List Expr} {kk : Nat} {tpos : Pos} (a e it : Addr) :
    Turn P w K (.Tuple elts kk tpos) (IteT K a) [e, it] e (fun i h => (∃ old, IsEnum h e it ((i : Nat) : Int) old) ∧ h.IsTupleIter it a i ∧ e ≠ it) where
  mem := by simp
  obj := fun i h st b hb => by
    obtain ⟨⟨old, he⟩, ⟨o, ho, hc, hd⟩, _⟩ := st
    have e' : b = e ∨ b = it := by simpa using hb
    rcases e' with z | z
    · rw [z]; exact ⟨_, he, fun v q => nomatch q⟩
    · rw [z]; exact ⟨o, ho, fun v q => by rw [hd] at q; cases q⟩
  keep := fun i h h' st k => let ⟨⟨old, he⟩, hi, hne⟩ := st; ⟨⟨old, k e (by simp) _ he⟩, hi.at fun o q => k it (by simp) o q, hne⟩
  item := by
    intro X hP hw hK hc i pins s σ H E I hf st hg
    subst hP hw hK
    obtain ⟨⟨old, he⟩, hit, hne⟩ := st
    obtain ⟨xs, x, hq, hx⟩ := hg
    obtain ⟨its, rv, p, hz⟩ := I.tuple hq
    obtain ⟨u, hu, ru⟩ := rv.get hx
    have hel : e < s.heap.objs.size := Heap.lt_size he
    have hil : it < s.heap.objs.size := by obtain ⟨_, q, _⟩ := hit; exact Heap.lt_size q
    have hti : a ≠ it := fun z => by
      obtain ⟨o1, q1, c1, _⟩ := hit
      obtain ⟨o2, q2, c2, _⟩ := (show s.heap.IsTuple a its.toArray from p)
      rw [z, q1] at q2
      cases q2
      rw [c1] at c2
      exact absurd c2 (by decide)
    have hea : e ≠ a := fun z => by
      obtain ⟨o2, q2, c2, _⟩ := (show s.heap.IsTuple a its.toArray from p)
      rw [← z, he] at q2
      cases q2
      exact absurd (show Value.type "enumerate" = Value.type "tuple" from c2) (by decide)
    have hlt : i < its.toArray.size := by
      have := (List.getElem?_eq_some_iff.mp hu).1
      simpa using this
    refine wpAny_pyNext_enum_itemD (Draws.tuple (A := X.A.in1) (I.ok.hd hc) it a hti its.toArray) he ⟨hit, p⟩ hlt hne (by simp; exact ⟨hne, hea⟩) fun u' h' tk hu' ho hst' hT hsz hk => ?_
    have eu : u' = u := by
      have hu'' : its.toArray[i]? = some u' := hu'
      rw [show its.toArray[i]? = its[i]? by simp] at hu''
      exact Option.some.inj (hu''.symm.trans hu)
    subst eu
    refine ⟨_, rfl, wpAny_letOwnedTupleGo_enum (s := { s with heap := h', toks := tk + 1 }) ho fun h'' he' sb => ?_⟩
    have hT2 : h''.get? s.heap.objs.size = some { cls := .type "tuple", data := .seq #[.int i tk, u'] } := (sb.2 _ (Nat.ne_of_gt hel)).trans hT
    have new : ObjOk X.prog X.w (upd H s.heap.objs.size (.tup [.int (i : Nat), x])) h'' s.heap.objs.size (.tup [.int (i : Nat), x]) :=
      ⟨by show 2 ≤ sizeLine; decide, [.int i tk, u'], .cons ⟨_, rfl⟩ (.cons ru .nil), ⟨_, hT2, rfl, _, rfl⟩⟩
    have I1 : Inv X pins σ (upd H s.heap.objs.size (.tup [.int (i : Nat), x])) { s with heap := h'', toks := tk + 1 } :=
      I.turnedNew (ch := [e, it]) (fun b ob hb q => (sb.2 b (fun z => hb (by simp [z]))).trans (hk b ob (fun z => hb (by simp [z])) (fun z => hb (by simp [z])) q)) hf (Nat.le_refl _) new
    refine ⟨.ref s.heap.objs.size, _, I1, rfl, ⟨_, x, rfl, I.hok.fresh (Nat.le_refl _), rfl, fun ys hy => by rw [I.tuple_inj hy hq]; exact hx⟩, ⟨⟨u', ?_⟩, hst'.1.at fun o q => (sb.2 it (Ne.symm hne)).trans q, hne⟩, fun b hb => ?_⟩
    · have e1 : ((i + 1 : Nat) : Int) = (i : Int) + 1 := by omega
      rw [e1]; exact he'
    · have hb' : b < s.heap.objs.size := by
        have e' : b = e ∨ b = it := by simpa using hb
        rcases e' with z | z
        · rw [z]; exact hel
        · rw [z]; exact hil
      rw [upd_ne (Nat.ne_of_lt hb')]
      exact (hf b hb).1
  done := by
    intro X hP hw hK hc i pins s σ H E I hf st hg
    subst hP hw hK
    obtain ⟨⟨old, he⟩, hit, hne⟩ := st
    obtain ⟨xs, hq, hx⟩ := hg
    obtain ⟨its, rv, p, hz⟩ := I.tuple hq
    obtain ⟨f0, f1, f2, f3, f4, f5⟩ := hf it (by simp)
    have hl := rv.length
    have D : Draws X.prog X.w X.A.in1 it [it, a] i (fun _ _ => True) (fun j h => j = i ∧ h.IsTupleIter it a j ∧ h.IsTuple a its.toArray) :=
      { live := fun _ _ st => let ⟨o, ho, _⟩ := st.2.1; ⟨o, ho⟩
        frame := fun _ _ _ st hk => ⟨st.1, st.2.1.at fun o e => hk it (by simp) o e, st.2.2.at fun o e => hk a (by simp) o e⟩
        item := fun j s Q E hj st hQ => by rw [st.1] at hj; exact absurd hj (Nat.lt_irrefl _)
        done := fun s Q E st hE => wpAny_nextOf_tuple_end (I.ok.hd hc) st.2.1 st.2.2 (by simp; omega) hE }
    exact wpAny_pyNext_enum_endD D he ⟨rfl, hit, p⟩ fun h' eb => ⟨rfl, I.turned (t' := s.toks) (fun b o hb q => eb b o hb q) f0 f1 f3 f4 f5⟩
  self := fun A i s Q E st h => let ⟨⟨_, he⟩, _⟩ := st; wpAny_pyIter_enum he h
def iEnumT (K : PySem.W.Frag) (ta : TA) : TI := fun σ H R => ta σ H fun vs H1 => ∃ a xs, vs = [.ref a] ∧ SqT K H1 a xs ∧ R (IteT K a) H1
theorem pi_enumT {X : Cx} {e : Expr} {ta : TA} {p pos tpos : Pos} {elts : List Expr} {kk : Nat} (hg : Gl X "enumerate") (hm : X.mg "enumerate" = none) (ha : PA X [e] ta) (hs : starEach [e] X.env = [(false, eval e X.env)] := by rfl) :
    PI X (.Tuple elts kk tpos) (.Call (.Name "enumerate" p) [e] [] pos) (iEnumT X.K ta) := by
  refine ⟨fun pins s σ H R I h => ?_⟩
  refine Call_ (ld_blt I hg hm boot_enumerate (PyProof.Rows.callWith_type1 (thn (ha.run pos pins s σ H _ I h) fun us s1 ⟨vs, H1, I1, r1, q1⟩ => ?_) hs rfl))
  obtain ⟨a, xs, ex, hq, q⟩ := q1
  subst ex
  cases r1 with
  | cons r rr =>
    cases rr
    cases r
    obtain ⟨its, rv, p', hz⟩ := I1.tuple hq
    refine enum_begins1 (begins_tuple a its.toArray) p' fun h' he hit hsz hk => wpAny_pyIter_enum he ?_
    have I2 : Inv X pins σ H1 { s1 with heap := h' } := I1.kept (t' := s1.toks) hk
    refine ⟨s1.heap.objs.size + 1, [s1.heap.objs.size + 1, s1.heap.objs.size], _, _, H1, rfl, I2, turn_enumT a (s1.heap.objs.size + 1) s1.heap.objs.size, ⟨⟨.none, he⟩, ⟨_, hit, rfl, rfl⟩, Nat.succ_ne_self _⟩, fun b hb => ?_, q⟩
    have e' : b = s1.heap.objs.size + 1 ∨ b = s1.heap.objs.size := by simpa using hb
    have hle : s1.heap.objs.size ≤ b := by
      rcases e' with z | z
      · rw [z]; exact Nat.le_add_right _ _
      · rw [z]; exact Nat.le_refl _
    exact I1.fpOk hle (I1.hok.fresh hle)
/-- enumerate(x) -/
def enumD : Nat → List PyData → List PyData
  | _, [] => []
  | n, d :: r => .tuple [.int (n : Nat), d] :: enumD (n + 1) r
theorem enumD_len : ∀ (n : Nat) (ds : List PyData), (enumD n ds).length = ds.length
  | _, [] => rfl
  | n, d :: r => congrArg (· + 1) (enumD_len (n + 1) r)
theorem enumD_get : ∀ (n : Nat) (ds : List PyData) (i : Nat) (d : PyData), (enumD n ds)[i]? = some d → ∃ x, ds[i]? = some x ∧ d = .tuple [.int ((n + i : Nat) : Int), x]
  | _, [], _, _, h => by simp [enumD] at h
  | n, x :: r, 0, d, h => by simp [enumD] at h; exact ⟨x, rfl, by rw [← h]; simp⟩
  | n, x :: r, i + 1, d, h => by
    obtain ⟨y, h1, h2⟩ := enumD_get (n + 1) r i d (by simpa [enumD] using h)
    exact ⟨y, by simpa using h1, by rw [h2]; congr 3; omega⟩
def wEnum (f : Ef) : Wf := fun s => (f s).bind fun (a, s1) => match fz a with
  | .val (.list ds) => some (enumD 0 ds, s1)
  | .val (.tuple ds) => some (enumD 0 ds, s1)
  | _ => none
section
variable {X : Cx} {Γ : Gm}
theorem pid_enum {e : Expr} {l : List Tg} {f : Ef} {p pos tpos : Pos} {elts : List Expr} {kk : Nat} (h : PEd X Γ e f) (hg : Gl X "enumerate") (hm : X.mg "enumerate" = none)
    (hs : starEach [e] X.env = (false, eval e X.env) :: starEach [] X.env := by rfl) (hs' : starEach [e] X.env = [(false, eval e X.env)] := by rfl) :
    PId X Γ (.Tuple elts kk tpos) (.Call (.Name "enumerate" p) [e] [] pos) (.tp l) (wEnum f) := by
  obtain ⟨te, pe, k⟩ := h
  refine ⟨fun σ H R => iEnum X.K (tCons te tNil) σ H R ∨ iEnumT X.K (tCons te tNil) σ H R, ⟨fun pins s σ H R I q => ?_⟩, fun σ H G s s' ds R S hf hq => ?_⟩
  · rcases q with q | q
    · exact (pi_enum hg hm (pa_cons pe pa_nil hs) hs').run pins s σ H R I q
    · exact (pi_enumT hg hm (pa_cons pe pa_nil hs) hs').run pins s σ H R I q
  · unfold wEnum at hf
    cases h1 : f s with
    | none => rw [h1] at hf; cases hf
    | some w =>
      obtain ⟨x, s1⟩ := w
      simp only [h1, Option.bind_some] at hf
      have yld : ∀ {vs : List V} {dd : List PyData} {G2 : Hp} {i : Nat} {d : PyData}, RpAll X.K G2 vs dd → (enumD 0 dd)[i]? = some d → ∃ y v, dd[i]? = some y ∧ d = .tuple [.int (i : Nat), y] ∧ vs[i]? = some v ∧ Rp X.K G2 v y := fun r hd => by
        obtain ⟨y, h3, h4⟩ := enumD_get _ _ _ _ hd
        obtain ⟨v, f1, f2⟩ := r.get h3
        exact ⟨y, v, h3, by rw [h4]; congr 3; omega, f1, f2⟩
      split at hf
      · rename_i dd e1
        cases hf
        refine .inl (k σ H G s _ x _ S h1 fun v H1 G1 S1 T1 g1 => ?_)
        obtain ⟨G2, S2, T2, r2⟩ := S.freeze S1 T1 g1
        rw [e1] at r2
        obtain ⟨q, vs, rfl, h2, h3⟩ : ∃ p vs, v = .ref p ∧ G2 p = some (.lst vs) ∧ RpAll X.K G2 vs dd := by
          cases (show Rp X.K G2 v (.list dd) from r2) with
          | lst q r => exact ⟨_, _, rfl, q, r⟩
        refine ⟨q, vs, rfl, .inl (.inl (S2.sub _ _ h2)), hq _ H1 G2 S2 T2 ?_⟩
        intro σ3 H3 G3 s3 S3 g3
        have hs3 : SqL X.K H3 q vs := .inl (.inl (S3.sub _ _ (g3 _ _ h2)))
        refine ⟨fun i d hd => ?_, fun i hi => ⟨vs, hs3, by rw [h3.length]; rw [enumD_len] at hi; exact Nat.le_of_eq hi.symm⟩⟩
        obtain ⟨y, v, hy, rfl, f1, f2⟩ := yld h3 hd
        refine ⟨⟨vs, v, hs3, f1⟩, fun x H' hx => ?_⟩
        obtain ⟨T, z, rfl, hT, rfl, hz⟩ := hx
        have ez := (hz vs hs3).symm.trans f1
        cases ez
        obtain ⟨A, B⟩ := S3.alloc (o := .tup [.int (i : Nat), v]) hT
        exact ⟨G3, A, B, fun _ => ⟨_, T, _, rfl, rfl, .inl (.inl upd_same), .cons (.int _) (.cons (f2.mono g3) .nil)⟩⟩
      · rename_i dd e1
        cases hf
        refine .inr (k σ H G s _ x _ S h1 fun v H1 G1 S1 T1 g1 => ?_)
        obtain ⟨G2, S2, T2, r2⟩ := S.freeze S1 T1 g1
        rw [e1] at r2
        obtain ⟨q, vs, rfl, h2, h3⟩ := Rp.tupI r2
        refine ⟨q, vs, rfl, (h2.mono S2.sub).sqt, hq _ H1 G2 S2 T2 ?_⟩
        intro σ3 H3 G3 s3 S3 g3
        have hs3 : SqT X.K H3 q vs := ((h2.mono g3).mono S3.sub).sqt
        refine ⟨fun i d hd => ?_, fun i hi => ⟨vs, hs3, by rw [h3.length]; rw [enumD_len] at hi; exact Nat.le_of_eq hi.symm⟩⟩
        obtain ⟨y, v, hy, rfl, f1, f2⟩ := yld h3 hd
        refine ⟨⟨vs, v, hs3, f1⟩, fun x H' hx => ?_⟩
        obtain ⟨T, z, rfl, hT, rfl, hz⟩ := hx
        have ez := (hz vs hs3).symm.trans f1
        cases ez
        obtain ⟨A, B⟩ := S3.alloc (o := .tup [.int (i : Nat), v]) hT
        exact ⟨G3, A, B, fun _ => ⟨_, T, _, rfl, rfl, .inl (.inl upd_same), .cons (.int _) (.cons (f2.mono g3) .nil)⟩⟩
      · cases hf
end
end PD

set_option Elab.async false
set_option linter.all false
set_option maxRecDepth 100000
set_option maxHeartbeats 1000000
/-! PDp: repr; texts equal; the feed read and written. -/
namespace PD
open PySem PySem.Spec PyProof.Rows L2
variable [TheW]
section
variable {X : Cx} {Γ : Gm} {a b e : Expr} {pos : Pos}
/-! ### repr -/
def reprOk : PyData → Bool
  | .bool _ => true
  | .list xs => (PyData.list xs).layable0 && (PyData.list xs).intsShort 13 && (PyData.list xs).showable
  | .tuple xs => (PyData.tuple xs).layable0 && (PyData.tuple xs).intsShort 13 && (PyData.tuple xs).showable
  | _ => false
def reprT : PyData → Str
  | .bool b => if b then "True" else "False"
  | d => d.shown
theorem call_reprD (hgd : X.A.guards = some []) (hu : X.A.units + 65 < cLine) : CallR X (.builtin "repr") (fun xs H Q => ∃ x d, xs = [x] ∧ Dp X.K H x d ∧ reprOk d = true ∧ Q (.str (reprT d)) H) := by
  intro pins s σ H xs us Q I r h
  obtain ⟨x, d, rfl, hd, ok, q⟩ := h
  obtain ⟨u, rfl, ru⟩ := vals1 r
  have go : ∀ {d : PyData}, Dp X.K H x d → isDisplay d = true → d.layable0 = true → d.intsShort 13 = true → d.showable = true → Q (.str d.shown) H → wpAny (model X.prog X.w) X.A (call (.builtin "repr") [u]) (EP X pins σ Q) X.xe s := fun {d} hd hdis hl hi hsh q => by
    obtain ⟨as, rd⟩ := Dp.reads I d x u hd ru
    obtain ⟨p, rfl⟩ := isRef_of_reads rd hdis
    have hdep : d.depth ≤ 64 := by
      have h1 : (PyData.canLay0 d && decide (PyData.depth d ≤ 64) && decide (PyData.weight d ≤ 2 ^ 20)) = true := hl
      simp only [Bool.and_eq_true, decide_eq_true_eq] at h1
      exact h1.1.2
    refine repr_of_reads' rd hsh (PyData.noDict_hsm (PyData.hasDict_of_layable hl)) hgd (by omega) (fun _ _ e => e) (fun h' t tk hk => ?_) (Nat.le_trans (shown_le13 hl hi) (by rw [sizeLine_eq]; omega))
    exact ⟨.str _, H, I.kept (t' := tk) hk, ⟨_, rfl⟩, q⟩
  cases d with
  | bool b =>
    cases hd
    obtain rfl : u = Value.bool b := ru
    exact PySem.P.repr_of_bool ⟨.str _, H, I.tok _, ⟨_, rfl⟩, q⟩
  | list xs =>
    obtain ⟨h12, h3⟩ := Bool.and_eq_true_iff.mp ok
    obtain ⟨h1, h2⟩ := Bool.and_eq_true_iff.mp h12
    exact go hd rfl h1 h2 h3 q
  | tuple xs =>
    obtain ⟨h12, h3⟩ := Bool.and_eq_true_iff.mp ok
    obtain ⟨h1, h2⟩ := Bool.and_eq_true_iff.mp h12
    exact go hd rfl h1 h2 h3 q
  | none => cases ok
  | int i => cases ok
  | str i => cases ok
  | dict i => cases ok
def gRepr : Pl → Option Pl
  | .val d => if reprOk d then some (.val (.str (reprT d))) else none
  | _ => none
theorem cd_repr : CallD X (fun xs H Q => ∃ x d, xs = [x] ∧ Dp X.K H x d ∧ reprOk d = true ∧ Q (.str (reprT d)) H) gRepr := by
  intro Γ σ H G s v a c Q S v1 hg hq
  unfold gRepr at hg
  split at hg
  case h_2 => cases hg
  rename_i d
  by_cases hz : reprOk d = true
  · rw [if_pos hz] at hg
    cases hg
    exact ⟨v, d, rfl, v1.dp S.sub, hz, hq _ H G S .refl (.new (fa := Γ.fa) (.str _))⟩
  · rw [if_neg hz] at hg; cases hg
theorem pd_repr {p : Pos} {f : Ef} (hgd : X.A.guards = some []) (hu : X.A.units + 65 < cLine) (h : P1d X Γ e f) (hg : Gl X "repr") (hm : X.mg "repr" = none) (he : starEach [e] X.env = (false, eval e X.env) :: starEach [] X.env := by rfl) (hpl : (backTo pos (starEach [] X.env)).any (·.1) = false := by rfl) :
    PEd X Γ (.Call (.Name "repr" p) [e] [] pos) (fUn f gRepr) := pd_callB h (call_reprD hgd hu) cd_repr hg hm (by rfl) (by decide) (by decide) he hpl
/-! ### two texts equal -/
theorem op_eqS : OpR X (compareOp .Eq) (fun x y H Q => ∃ i j, x = .str i ∧ y = .str j ∧ Q (.bl (decide (i = j))) H) := by
  intro pins s σ H x y v u Q I rx ry h
  obtain ⟨i, j, rfl, rfl, q⟩ := h
  refine op_eq pins s σ H _ _ v u Q I rx ry ⟨rfl, ?_⟩
  have e : decide (V.str i = V.str j) = decide (i = j) := by
    rw [Bool.eq_iff_iff]
    simp
  rw [e]
  exact q
def gEqS : Pl → Pl → Option Pl := gS (fun _ _ => true) fun i j => .bool (decide (i = j))
theorem c_eqS {f : DS → Option (Pl × Pl × DS)} (h : P2d X Γ a b f) : CmpD X Γ (.Compare a [.Eq] [b] pos) (fBin f gEqS) := cd_cmp h op_eqS (od_S0 fun _ _ _ _ => .bl _) (nomark _)
/-! ### the feed -/
def FS.get (f : FS) (x : Str) : Option PyData := if x = "turn" then some (.int f.turn) else if x = "rest" then some (.int f.rest) else if x = "spot" then some (.int f.spot) else if x = "cells" then some (.list (f.cells.map PyData.int)) else none
def FS.set (f : FS) (x : Str) (i : Int) : Option FS := if x = "turn" then some { f with turn := i } else if x = "rest" then some { f with rest := i } else if x = "spot" then some { f with spot := i } else none
def fFget (i : Nat) (x : Str) : Ef := fun s => match s.env[i]? with
  | some (some .fd) => (s.fs.get x).map fun d => (.val d, s)
  | _ => none
abbrev fdK (c : Addr) (f : FS) : List (Key × V) := [(kCells, .ref c), (kSpot, .int f.spot), (kRest, .int f.rest), (kTurn, .int f.turn)]
theorem fd_get {K : PySem.W.Frag} {fa : Addr} {H G : Hp} {f : FS} {x : Str} {d : PyData} (h : FeedAt fa H G f) (e : f.get x = some d) : ∃ v, DGet H fa (.str x) (some v) ∧ Rp K G v d := by
  obtain ⟨c, h1, h2, h3⟩ := h
  unfold FS.get at e
  have g : ∀ z : V, valV (fdK c f) (.inr x) = some z → DGet H fa (.str x) (some z) := fun z hz => by
    rw [← hz]
    exact DGet.k (k := .inr x) h1
  split at e
  · rename_i hx; subst hx; cases e; exact ⟨_, g _ rfl, .int _⟩
  · split at e
    · rename_i hx; subst hx; cases e; exact ⟨_, g _ rfl, .int _⟩
    · split at e
      · rename_i hx; subst hx; cases e; exact ⟨_, g _ rfl, .int _⟩
      · split at e
        · rename_i hx; subst hx; cases e; exact ⟨_, g _ rfl, .lst h3 (RpAll.of_ints _)⟩
        · cases e
theorem pd_fget {o : Expr} {x : Str} {j : Nat} {p2 : Pos} {i : Nat} (hu : X.A.units + 1 < cLine) (ho : PE X o (tVar i)) : PEd X Γ (.Subscript o (.Constant (.str x) j p2) pos) (fFget i x) := by
  refine ⟨_, pe_dget hu ho pe_str (by intro _ _; rfl), fun σ H G s s' r Q S hf hq => ?_⟩
  unfold fFget at hf
  split at hf
  case h_2 => cases hf
  rename_i e0
  cases e1 : s.fs.get x with
  | none => rw [e1] at hf; cases hf
  | some d =>
    rw [e1] at hf
    cases hf
    obtain ⟨v, hv, rfl⟩ := S.env i _ e0
    obtain ⟨w, g1, g2⟩ := fd_get (K := X.K) S.fd e1
    exact ⟨_, hv, Γ.fa, w, rfl, g1, hq w H G S .refl (.new (fa := Γ.fa) g2)⟩
theorem fd_set {fa : Addr} {H G : Hp} {f f' : FS} {x : Str} {i : Int} (h : FeedAt fa H G f) (e : f.set x i = some f') : ∃ H', DPut H fa (.str x) (.int i) H' ∧ FeedAt fa H' G f' ∧ ∃ o, H' = upd H fa o ∧ isT o = false := by
  obtain ⟨c, h1, h2, h3⟩ := h
  unfold FS.set at e
  have g : ∀ z : List (Key × V), putK (fdK c f) (.inr x) (.int i) = z → DPut H fa (.str x) (.int i) (upd H fa (.dK z)) := fun z hz => by
    rw [← hz]
    exact DPut.k (k := .inr x) h1 (by show 4 < sizeLine; rw [sizeLine_eq]; decide)
  split at e
  · rename_i hx; subst hx; cases e; exact ⟨_, g (fdK c { f with turn := i }) rfl, ⟨c, upd_same, h2, h3⟩, _, rfl, rfl⟩
  · split at e
    · rename_i hx; subst hx; cases e; exact ⟨_, g (fdK c { f with rest := i }) rfl, ⟨c, upd_same, h2, h3⟩, _, rfl, rfl⟩
    · split at e
      · rename_i hx; subst hx; cases e; exact ⟨_, g (fdK c { f with spot := i }) rfl, ⟨c, upd_same, h2, h3⟩, _, rfl, rfl⟩
      · cases e
theorem Sta.feedSet {K : PySem.W.Frag} {σ : L2.St} {H G : Hp} {s : DS} {fs' : FS} {o : HO} (S : Sta K Γ σ H G s) (h : FeedAt Γ.fa (upd H Γ.fa o) G fs') (nt : isT o = false) :
    Sta K Γ σ (upd H Γ.fa o) G ⟨s.env, fs'⟩ := by
  obtain ⟨c0, a1, a2, a3⟩ := S.fd
  refine ⟨fun b x e => ?_, S.g0, S.fr, fun b x n n2 e => by rw [upd_ne n]; exact S.keep b x n n2 e, S.len, fun i sl e => ?_, S.dis, S.new, h, S.tok.put nt, S.tgr.after (some_nt a1 rfl), S.gnt⟩
  · rw [upd_ne (fun z => by rw [z, a2] at e; cases e)]; exact S.sub _ _ e
  · obtain ⟨v, h1, h2⟩ := S.env i sl e
    refine ⟨v, h1, h2.step (Same.refl _) fun ow q hq => ?_⟩
    obtain ⟨q', o', e1, e2, e3, e4, _⟩ := h2.ownP ow
    rw [hq] at e1
    cases e1
    exact ⟨upd_ne e4, e3⟩
def sFset (i : Nat) (x : Str) (f : Ef) : Sf := fun s => (fI f s).bind fun (k, s1) => match s1.env[i]? with
  | some (some .fd) => (s1.fs.set x k).map fun fs' => .nx ⟨s1.env, fs'⟩
  | _ => none
theorem ps_fset {o : Expr} {x : Str} {j : Nat} {p2 tpos : Pos} {i : Nat} {f : Ef} (hu : X.A.units + 1 < cLine) (ho : PE X o (tVar i)) (he : PEd X Γ e f)
    (hs : swapsWith e (some (.Subscript o (.Constant (.str x) j p2) tpos)) pos.line X.env = pure false := by rfl) : PSd X Γ (.Assign [.Subscript o (.Constant (.str x) j p2) tpos] e pos) (sFset i x f) := by
  obtain ⟨te, pe, ke⟩ := he.int
  refine ⟨_, ps_dput hu ho pe_str pe hs, fun σ H G s o D S hf hp => ?_⟩
  unfold sFset at hf
  cases h1 : fI f s with
  | none => rw [h1] at hf; cases hf
  | some w =>
    obtain ⟨k, s1⟩ := w
    simp only [h1, Option.bind_some] at hf
    split at hf
    case h_2 => cases hf
    rename_i e0
    cases e1 : s1.fs.set x k with
    | none => rw [e1] at hf; cases hf
    | some fs' =>
      rw [e1] at hf
      cases hf
      refine ke σ H G s s1 k _ S h1 fun H1 G1 S1 T1 => ?_
      obtain ⟨v, hv, rfl⟩ := S1.env i _ e0
      obtain ⟨H', g1, g2, ob, rfl, nt⟩ := fd_set S1.fd e1
      exact ⟨_, hv, Γ.fa, _, rfl, g1, hp σ _ G1 (S1.feedSet g2 nt) T1.gg⟩
end
end PD

set_option Elab.async false
set_option linter.all false
set_option maxRecDepth 100000
set_option maxHeartbeats 1000000
/-! PDq: a def by its name. -/
namespace PD
open PySem PySem.Spec PyProof.Rows L2
variable [TheW]
/-- the def named x: what it does -/
structure Cd (P : Program) (w : World) (K : PySem.W.Frag) (mg : Str → Option Value) (base : Heap) (tb : Addr → Prop) (k : Nat) (x : Str) (ps : List Str) (kws : List (List Str × List Nat)) (g : Df) : Prop where
  ex : ∃ (f : Addr) (fd : FuncData), FnD P w K mg base tb k f fd ps g ∧ mg x = some (.ref f) ∧ PySem.W.keepIn K (.ref f) = true ∧ Binds K fd ps [] ∧
    ∀ q ∈ kws, ∀ us : List Value, us.length = q.1.length → bindArgs fd ⟨[], q.1.zip us⟩ = pure (ps.zip (pick q.2 us))
section
variable {P : Program} {w : World} {K : PySem.W.Frag} {mg : Str → Option Value} {base : Heap} {tb : Addr → Prop} {j k : Nat} {x qual : Str} {ps N : List Str} {g g' : Df} {st : Stmt} {f : Addr} {fd : FuncData} {bf : Sf} {kws : List (List Str × List Nat)}
theorem Cd.mono (c : Cd P w K mg base tb j x ps kws g) (h : j ≤ k) : Cd P w K mg base tb k x ps kws g :=
  let ⟨f, fd, F, a, b, d⟩ := c.ex
  ⟨f, fd, F.mono h, a, b, d⟩
theorem Cd.imp (c : Cd P w K mg base tb k x ps kws g) (h : ∀ as fs q, g' as fs = some q → g as fs = some q) : Cd P w K mg base tb k x ps kws g' :=
  let ⟨f, fd, F, a, b, d⟩ := c.ex
  ⟨f, fd, F.imp h, a, b, d⟩
theorem Cd.of (F : Fun K x qual st f fd) (hm : mg x = some (.ref f)) (S : FnScope N ps (defScope st))
    (hb : ∀ (kV doc pm : Value) (an : Option Addr) (cdv ct : Value) (us : List Value), us.length = ps.length → bindArgs (PySem.W.fnOf x qual (defArgs st) (defBody st) (defScope st) .none kV doc pm an cdv ct) ⟨us, []⟩ = pure (ps.zip us))
    (hkw : ∀ q ∈ kws, ∀ (kV doc pm : Value) (an : Option Addr) (cdv ct : Value) (us : List Value), us.length = q.1.length → bindArgs (PySem.W.fnOf x qual (defArgs st) (defBody st) (defScope st) .none kV doc pm an cdv ct) ⟨[], q.1.zip us⟩ = pure (ps.zip (pick q.2 us)))
    (hbody : ∀ (cdv : Value) (A : Around) (outer : List Env) (s : Shared) (H : Hp), Room k (A.deeper (envOfC qual (defScope st) s.heap.objs.size f cdv)) → (A.deeper (envOfC qual (defScope st) s.heap.objs.size f cdv)).guards = some [] → ∀ Γ : Gm, TbAt tb Γ.H0 →
      PSSd (cxOf CX0 P w K mg base N qual (defScope st) f cdv A outer s H E0).nox Γ (defBody st) bf) :
    Cd P w K mg base tb (k + 1) x ps kws (runDef ps.length N.length bf) := by
  obtain ⟨oc, od, kV, doc, pm, an, cdv, ct, osl, rfl, lk, hcd⟩ := F.ex
  exact ⟨f, _, fnD_of lk hcd S (hbody cdv), hm, F.kp, .all (hb kV doc pm an cdv ct), fun q hq us hl => hkw q hq kV doc pm an cdv ct us hl⟩
end
section
variable {X : Cx} {Γ : Gm} {tb : Addr → Prop} {k : Nat} {g : Df} {x : Str} {ps : List Str} {p pos : Pos} {e : Expr} {es : List Expr} {kws : List (List Str × List Nat)}
theorem pd_cd {fa : Af} (c : Cd X.prog X.w X.K X.mg X.base tb k x ps kws g) (hT : TbAt tb Γ.H0) (hr : Room k X.A) (hgd : X.A.guards = some []) (hg : Gl X x) (ha : PAd X Γ (e :: es) fa)
    (hdb : (x == ("__debug__" : Str)) = false := by decide) (he : starEach (e :: es) X.env = (false, eval e X.env) :: starEach es X.env := by rfl) (hpl : (backTo pos (starEach es X.env)).any (·.1) = false := by rfl) :
    PEd X Γ (.Call (.Name x p) (e :: es) [] pos) (fCall g fa) :=
  let ⟨_, _, F, a, b, d⟩ := c.ex
  pd_call F hT hr hgd hg a b d.1 ha hdb he hpl
theorem pd_cd0 (c : Cd X.prog X.w X.K X.mg X.base tb k x ps kws g) (hT : TbAt tb Γ.H0) (hr : Room k X.A) (hgd : X.A.guards = some []) (hg : Gl X x) (hdb : (x == ("__debug__" : Str)) = false := by decide) :
    PEd X Γ (.Call (.Name x p) [] [] pos) (fCall g aNil) :=
  let ⟨_, _, F, a, b, d⟩ := c.ex
  pd_call0 F hT hr hgd hg a b d.1 hdb
theorem pd_cdK {kwl : List Keyword} {ks : List Str} {fk : Af} (π : List Nat) (c : Cd X.prog X.w X.K X.mg X.base tb k x ps kws g) (hT : TbAt tb Γ.H0) (hq : (ks, π) ∈ kws) (hr : Room k X.A) (hgd : X.A.guards = some []) (hg : Gl X x) (ha : PKd X Γ kwl fk) (hlen : π.length = ks.length := by rfl)
    (hall : (backToKw pos (keywordEach kwl X.env)).all (·.1.isSome) = true := by rfl) (hks : (backToKw pos (keywordEach kwl X.env)).filterMap (·.1) = ks := by rfl)
    (hdb : (x == ("__debug__" : Str)) = false := by decide) (hpl : ((backTo pos (starEach [] X.env)).any (·.1) || (backToKw pos (keywordEach kwl X.env)).any (·.1.isNone)) = false := by rfl) :
    PEd X Γ (.Call (.Name x p) [] kwl pos) (fCall g (aPick π fk)) :=
  let ⟨_, _, F, a, b, d⟩ := c.ex
  pd_callK π F hT hr hgd hg a b (d.2 (ks, π) hq) ha hlen hall hks hdb hpl
end
end PD

set_option Elab.async false
set_option linter.all false
set_option maxRecDepth 100000
set_option maxHeartbeats 1000000
/-! PDz: dicts whose keys are tuples, nested: what stands in the heap; [], in, = for them. -/
namespace PD
open PySem PySem.Spec PyProof.Rows L2
/-! ### keys -/
mutual
theorem key_data : ∀ {d : PyData} {k : NestedKey}, keyN d = some k → k.data = d
  | .none, k, e => by cases e; rfl
  | .bool b, k, e => by cases e
  | .int i, k, e => by cases e; rfl
  | .str x, k, e => by cases e; rfl
  | .list ds, k, e => by cases e
  | .dict ds, k, e => by cases e
  | .tuple ds, k, e => by
    have e2 : (keysN ds).map NestedKey.tup = some k := e
    cases h : keysN ds with
    | none => rw [h] at e2; cases e2
    | some ks =>
      rw [h] at e2
      cases e2
      rw [NestedKey.data, keys_data h]
theorem keys_data : ∀ {ds : List PyData} {ks : List NestedKey}, keysN ds = some ks → NestedKey.datas ks = ds
  | [], ks, e => by cases e; rfl
  | d :: ds, ks, e => by
    have e2 : ((keyN d).bind fun k => (keysN ds).map fun ks => k :: ks) = some ks := e
    cases h : keyN d with
    | none => rw [h] at e2; cases e2
    | some k =>
      rw [h, Option.bind_some] at e2
      cases h2 : keysN ds with
      | none => rw [h2] at e2; cases e2
      | some r =>
        rw [h2] at e2
        cases e2
        rw [NestedKey.datas, key_data h, keys_data h2]
end
theorem keyT_at {d : PyData} {k : NestedKey} (e : keyT d = some k) : keyN d = some k ∧ k.depth ≤ 8 ∧ k.data = d ∧ keyT k.data = some k := by
  have key : keyN d = some k ∧ k.depth ≤ 8 := by
    cases d with
    | tuple ds =>
      have e2 : ((keysN ds).bind fun ks => if (NestedKey.tup ks).depth ≤ 8 then some (NestedKey.tup ks) else none) = some k := e
      cases h : keysN ds with
      | none => rw [h] at e2; cases e2
      | some ks =>
        rw [h, Option.bind_some] at e2
        by_cases z : (NestedKey.tup ks).depth ≤ 8
        · rw [if_pos z] at e2
          cases e2
          refine ⟨?_, z⟩
          show (keysN ds).map NestedKey.tup = _
          rw [h]
          rfl
        · rw [if_neg z] at e2; cases e2
    | none => cases e
    | bool b => cases e
    | int b => cases e
    | str b => cases e
    | list b => cases e
    | dict b => cases e
  exact ⟨key.1, key.2, key_data key.1, by rw [key_data key.1]; exact e⟩
section
variable {X : Cx} {pins : List (Addr × Obj)} {σ : L2.St} {H G : Hp} {s : Shared}
mutual
theorem nest_one (I : Inv X pins σ H s) (sub : Same G H) : ∀ {v : V} {d : PyData} {k : NestedKey} {u : Value}, Rp X.K G v d → keyN d = some k → RelV v u → NestedIs s.heap k u
  | _, _, k, u, .non, e, r => by
    cases e
    obtain rfl : u = Value.none := r
    exact .none
  | _, _, k, u, .bl b, e, r => by cases e
  | _, _, k, u, .int i, e, r => by
    cases e
    obtain ⟨t, rfl⟩ := r
    exact .int i t
  | _, _, k, u, .str x, e, r => by
    cases e
    obtain ⟨t, rfl⟩ := r
    exact .text x t
  | _, _, k, u, .lst q t, e, r => by cases e
  | _, .tuple ds, k, u, .tup (a := a) q t, e, r => by
    have e2 : (keysN ds).map NestedKey.tup = some k := e
    cases h : keysN ds with
    | none => rw [h] at e2; cases e2
    | some ks =>
      rw [h] at e2
      cases e2
      obtain rfl : u = Value.ref a := r
      obtain ⟨its, rv, ⟨ob, ho, hc, n, hd⟩, hs⟩ := I.tuple (q.mono sub).sqt
      exact .tup ho hc hd (nest_all I sub t h rv)
theorem nest_all (I : Inv X pins σ H s) (sub : Same G H) : ∀ {vs : List V} {ds : List PyData} {ks : List NestedKey} {us : List Value}, RpAll X.K G vs ds → keysN ds = some ks → Vals vs us → NestedAll s.heap ks us
  | _, _, ks, us, .nil, e, r => by
    cases e
    cases r
    exact .nil
  | _, d :: ds, ks, us, .cons q t, e, r => by
    have e2 : ((keyN d).bind fun k => (keysN ds).map fun ks => k :: ks) = some ks := e
    cases h : keyN d with
    | none => rw [h] at e2; cases e2
    | some k =>
      rw [h, Option.bind_some] at e2
      cases h2 : keysN ds with
      | none => rw [h2] at e2; cases e2
      | some r2 =>
        rw [h2] at e2
        cases e2
        cases r with
        | cons r1 rr => exact .cons (nest_one I sub q h r1) (nest_all I sub t h2 rr)
end
theorem nest_key (I : Inv X pins σ H s) (sub : Same G H) {y : V} {d : PyData} {k : NestedKey} (r : Rp X.K G y d) (e : keyT d = some k) : ∃ b, y = .ref b ∧ (nestedKind X.prog X.w).is s.heap k b := by
  obtain ⟨e1, e2, _⟩ := keyT_at e
  cases r with
  | tup q t => exact ⟨_, rfl, nest_one I sub (.tup q t) e1 rfl, e2⟩
  | lst q t => cases e
  | non => cases e
  | bl => cases e
  | int => cases e
  | str => cases e
/-! ### lookups -/
def lookN (kvs : List (NestedKey × PyData)) (k : NestedKey) : Option PyData := (kvs.find? fun kv => decide (kv.1 = k)).map (·.2)
def putN (kvs : List (NestedKey × PyData)) (k : NestedKey) (d : PyData) : List (NestedKey × PyData) := if (kvs.any fun kv => decide (kv.1 = k)) = true then kvs.map (fun kv => if kv.1 = k then (kv.1, d) else kv) else kvs ++ [(k, d)]
def storeE (es : List NEnt) (k : NestedKey) (b : Addr) (y : V) : List NEnt := if (es.any fun e => decide (e.1 = k)) = true then es.map (fun e => if e.1 = k then (e.1, e.2.1, y) else e) else es ++ [(k, b, y)]
abbrev EVals : List NEnt → List (NestedKey × Addr × Value) → Prop := Paired fun (p : NEnt) (q : NestedKey × Addr × Value) => p.1 = q.1 ∧ p.2.1 = q.2.1 ∧ RelV p.2.2 q.2.2
theorem NRp.look {K : PySem.W.Frag} {k : NestedKey} : ∀ {es : List NEnt} {kvs : List (NestedKey × PyData)} {xs : List (NestedKey × Addr × Value)}, NRp K G es kvs → EVals es xs →
    (∀ d, lookN kvs k = some d → ∃ x b u, atKey xs k = some (b, u) ∧ RelV x u ∧ Rp K G x d) ∧ (atKey xs k).isSome = (lookN kvs k).isSome := fun {es kvs xs} r t => by
  unfold NRp at r
  induction r generalizing xs with
  | nil =>
    cases t
    exact ⟨fun d z => (by cases z), rfl⟩
  | @cons p q ps qs h hs ih =>
    cases t with
    | @cons p' x ps' xs' t1 t2 =>
      have ih := ih t2
      by_cases z : q.1 = k
      · have z2 : x.1 = k := by rw [← t1.1, h.1, z]
        have e1 : lookN (q :: qs) k = some q.2 := by unfold lookN; rw [List.find?_cons_of_pos (by simp [z])]; rfl
        have e2 : atKey (x :: xs') k = some x.2 := by unfold atKey; rw [List.find?_cons_of_pos (by simp [z2])]; rfl
        rw [e1, e2]
        refine ⟨fun d y => ?_, rfl⟩
        cases y
        exact ⟨_, _, _, rfl, t1.2.2, h.2.2.2⟩
      · have z2 : ¬ x.1 = k := fun y => z (by rw [← h.1, t1.1, y])
        have e1 : lookN (q :: qs) k = lookN qs k := by unfold lookN; rw [List.find?_cons_of_neg (by simp [z])]
        have e2 : atKey (x :: xs') k = atKey xs' k := by unfold atKey; rw [List.find?_cons_of_neg (by simp [z2])]
        rw [e1, e2]
        exact ih
theorem EVals.any {k : NestedKey} : ∀ {es : List NEnt} {xs : List (NestedKey × Addr × Value)}, EVals es xs → (es.any fun e => decide (e.1 = k)) = (atKey xs k).isSome := fun {es xs} t => by
  induction t with
  | nil => rfl
  | @cons p x ps xs h hs ih =>
    by_cases z : p.1 = k
    · have z2 : x.1 = k := by rw [← h.1, z]
      rw [List.any_cons]
      unfold atKey
      rw [List.find?_cons_of_pos (by simp [z2])]
      simp [z]
    · have z2 : ¬ x.1 = k := fun y => z (by rw [h.1, y])
      rw [List.any_cons, ih]
      unfold atKey
      rw [List.find?_cons_of_neg (by simp [z2])]
      simp [z]
theorem EVals.put {k : NestedKey} {b : Addr} {y : V} {u : Value} (r : RelV y u) {es : List NEnt} {xs : List (NestedKey × Addr × Value)} (t : EVals es xs) : EVals (storeE es k b y) (storedH xs k b u) := by
  have e := t.any (k := k)
  unfold storeE storedH
  by_cases z : (atKey xs k).isSome = true
  · rw [if_pos z, if_pos (e.trans z)]
    clear e z
    induction t with
    | nil => exact .nil
    | @cons p x ps xs h hs ih =>
      rw [List.map_cons, List.map_cons]
      refine .cons ?_ ih
      unfold putAt
      by_cases z : p.1 = k
      · rw [if_pos z, if_pos (by rw [← h.1]; exact z)]
        exact ⟨h.1, h.2.1, r⟩
      · rw [if_neg z, if_neg (by rw [← h.1]; exact z)]
        exact h
  · rw [if_neg z, if_neg (by rw [e]; exact z)]
    clear e z
    induction t with
    | nil => exact .cons ⟨rfl, rfl, r⟩ .nil
    | @cons p x ps xs h hs ih => exact .cons h ih
theorem NRp.any {K : PySem.W.Frag} {k : NestedKey} : ∀ {es : List NEnt} {kvs : List (NestedKey × PyData)}, NRp K G es kvs → (es.any fun e => decide (e.1 = k)) = (kvs.any fun e => decide (e.1 = k)) := fun {es kvs} t => by
  unfold NRp at t
  induction t with
  | nil => rfl
  | @cons p x ps xs h hs ih => rw [List.any_cons, List.any_cons, ih, h.1]
theorem NRp.put {K : PySem.W.Frag} {k : NestedKey} {b : Addr} {y : V} {d : PyData} (hk : keyT k.data = some k) (rk : Rp K G (.ref b) k.data) (r : Rp K G y d) {es : List NEnt} {kvs : List (NestedKey × PyData)} (t : NRp K G es kvs) : NRp K G (storeE es k b y) (putN kvs k d) := by
  have e := t.any (k := k)
  unfold storeE putN
  by_cases z : (kvs.any fun e => decide (e.1 = k)) = true
  · rw [if_pos z, if_pos (e.trans z)]
    clear e z
    unfold NRp at t ⊢
    induction t with
    | nil => exact .nil
    | @cons p x ps xs h hs ih =>
      rw [List.map_cons, List.map_cons]
      refine .cons ?_ ih
      by_cases z : p.1 = k
      · rw [if_pos z, if_pos (by rw [← h.1]; exact z)]
        exact ⟨h.1, h.2.1, h.2.2.1, r⟩
      · rw [if_neg z, if_neg (by rw [← h.1]; exact z)]
        exact h
  · rw [if_neg z, if_neg (by rw [e]; exact z)]
    clear e z
    unfold NRp at t ⊢
    induction t with
    | nil => exact .cons ⟨rfl, hk, rk, r⟩ .nil
    | @cons p x ps xs h hs ih => exact .cons h ih
theorem storeE_length (es : List NEnt) (k : NestedKey) (b : Addr) (y : V) : (storeE es k b y).length ≤ es.length + 1 := by
  unfold storeE
  split
  · rw [List.length_map]; omega
  · rw [List.length_append]; simp
theorem storeE_nodup {es : List NEnt} (k : NestedKey) (b : Addr) (y : V) (h : (es.map (·.1)).Nodup) : ((storeE es k b y).map (·.1)).Nodup := by
  unfold storeE
  by_cases z : (es.any fun e => decide (e.1 = k)) = true
  · rw [if_pos z, List.map_map]
    have e : es.map ((fun x : NEnt => x.1) ∘ fun e => if e.1 = k then (e.1, e.2.1, y) else e) = es.map (·.1) := List.map_congr_left fun e _ => by
      show (if e.1 = k then (e.1, e.2.1, y) else e).1 = e.1
      split <;> rfl
    rw [e]
    exact h
  · rw [if_neg z, List.map_append]
    refine List.nodup_append.mpr ⟨h, by simp, fun x hx w hw => ?_⟩
    rw [List.map_cons, List.map_nil, List.mem_singleton] at hw
    subst hw
    obtain ⟨e, he, rfl⟩ := List.mem_map.mp hx
    intro y2
    exact z (List.any_eq_true.mpr ⟨e, he, decide_eq_true y2⟩)
theorem NRp.length {K : PySem.W.Frag} {es : List NEnt} {kvs : List (NestedKey × PyData)} (h : NRp K G es kvs) : es.length = kvs.length := Paired.length h
/-! ### what stands in the heap -/
theorem nd_keys (I : Inv X pins σ H s) (sub : Same G H) : ∀ {es : List NEnt} {kvs : List (NestedKey × PyData)} {xs : List (NestedKey × Addr × Value)}, NRp X.K G es kvs → EVals es xs → ∀ x ∈ xs, (nestedKind X.prog X.w).is s.heap x.1 x.2.1
  | _, _, _, .nil, .nil, x, hx => by cases hx
  | _, _, _, .cons h hs, .cons t1 t2, x, hx => by
    rcases List.mem_cons.mp hx with z | z
    · obtain ⟨b, e, k⟩ := nest_key I sub h.2.2.1 h.2.1
      cases e
      rw [z, ← t1.1, ← t1.2.1]
      exact k
    · exact nd_keys I sub hs t2 x z
theorem EVals.keys : ∀ {es : List NEnt} {xs : List (NestedKey × Addr × Value)}, EVals es xs → xs.map (·.1) = es.map (·.1)
  | _, _, .nil => rfl
  | _, _, .cons h t => by rw [List.map_cons, List.map_cons, EVals.keys t, h.1]
variable [TheW]
theorem nd_at {p : Addr} {es : List NEnt} {kvs : List (NestedKey × PyData)} (hw : X.w = TheW.w) (I : Inv X pins σ H s) (sub : Same G H) (hp : H p = some (NDO p es)) (r : NRp X.K G es kvs) :
    (p == sysModules) = false ∧ es.length ≤ sizeLine ∧ (es.map (·.1)).Nodup ∧ ∃ xs, EVals es xs ∧ s.heap.DictOfH (nestedKind X.prog X.w) p xs := by
  obtain ⟨⟨h1, h2, h3, xs, t, o, ds, ep, h4, h5, h6, h7⟩, _⟩ := I.hok p _ hp
  exact ⟨h1, h2, h3, xs, t, o, ds, ep, h4, h5, h6, by rw [h7, ← hw]; rfl, nd_keys I sub r t, by rw [EVals.keys t]; exact h3⟩
theorem nd_ok {p : Addr} {es : List NEnt} {xs : List (NestedKey × Addr × Value)} {h' : Heap} {H' : Hp} (hw : X.w = TheW.w) (h1 : (p == sysModules) = false) (h2 : es.length ≤ sizeLine) (h3 : (es.map (·.1)).Nodup) (t : EVals es xs) (d : h'.DictOfH (nestedKind X.prog X.w) p xs) : ObjOk X.prog X.w H' h' p (NDO p es) := by
  obtain ⟨o, ds, ep, d1, d2, d3, d4, _, _⟩ := d
  refine ⟨⟨h1, h2, h3, xs, t, o, ds, ep, d1, d2, d3, by rw [d4, ← hw]; rfl⟩, ⟨o, d1⟩, fun g1 g2 ⟨a1, a2, a3, ys, a4, o2, ds2, ep2, b1, b2, b3, b4⟩ k => ⟨a1, a2, a3, ys, a4, o2, ds2, ep2, k _ b1, b2, b3, b4⟩⟩
end
/-! ### d[k], k in d -/
def rND (K : PySem.W.Frag) [TheW] : R2 := fun x y H Q => ∃ (G : Hp) (p : Addr) (es : List NEnt) (kvs : List (NestedKey × PyData)) (k : NestedKey) (d : PyData), Same G H ∧ x = .ref p ∧ H p = some (NDO p es) ∧ NRp K G es kvs ∧
  Rp K G y k.data ∧ keyT k.data = some k ∧ lookN kvs k = some d ∧ ∀ v, Rp K G v d → Q v H
def rNIn (K : PySem.W.Frag) [TheW] (neg : Bool) : R2 := fun y x H Q => ∃ (G : Hp) (p : Addr) (es : List NEnt) (kvs : List (NestedKey × PyData)) (k : NestedKey), Same G H ∧ x = .ref p ∧ H p = some (NDO p es) ∧ NRp K G es kvs ∧
  Rp K G y k.data ∧ keyT k.data = some k ∧ Q (.bl (if neg then !(lookN kvs k).isSome else (lookN kvs k).isSome)) H
section
variable {X : Cx} {Γ : Gm} [TheW]
theorem pe_nd {a b : Expr} {ta tb : TE} {pos : Pos} (hw : X.w = TheW.w) (hu : X.A.units + 64 < cLine) (ha : PE X a ta) (hb : PE X b tb) (hs : NoSl b) : PE X (.Subscript a b pos) (tOp (rND X.K) ta tb) := by
  refine ⟨fun pins s σ H Q I h => ?_⟩
  refine subD_of PySem.F.slot_dict_getitem.lookup hs (thn (ha.run pins s σ H _ I h) fun u s1 ⟨x, H1, I1, rx, q1⟩ => thn (hb.run pins s1 σ H1 _ I1 q1) fun iv s2 ⟨y, H2, I2, ry, G, p, es, kvs, k, d, sub, ex, hp, r, rk, hk, hl, q⟩ => ?_)
  subst ex
  obtain rfl : u = Value.ref p := rx
  obtain ⟨_, _, _, xs, t, D⟩ := nd_at hw I2 sub hp r
  obtain ⟨b, eb, ki⟩ := nest_key I2 sub rk hk
  subst eb
  obtain rfl : iv = Value.ref b := ry
  obtain ⟨x, b2, u, e1, e2, e3⟩ := (r.look t (k := k)).1 d hl
  exact ⟨D.typeIs, wpAny_getItem_heap (knd := nestedKind X.prog X.w) (show X.A.in1.units + 8 < cLine by rw [Around.in1_units]; omega) ki D e1 ⟨x, H2, I2.tok _, e2, q x e3⟩⟩
theorem op_nin (hw : X.w = TheW.w) (hu : X.A.units + 64 < cLine) : OpR X (compareOp .In) (rNIn X.K false) := by
  intro pins s σ H y x iv u Q I ry rx h
  obtain ⟨G, p, es, kvs, k, sub, ex, hp, r, rk, hk, q⟩ := h
  subst ex
  obtain rfl : u = Value.ref p := rx
  obtain ⟨n1, _, _, xs, t, D⟩ := nd_at hw I sub hp r
  obtain ⟨b, eb, ki⟩ := nest_key I sub rk hk
  subst eb
  obtain rfl : iv = Value.ref b := ry
  refine wpAny_in_heap (knd := nestedKind X.prog X.w) (show X.A.in1.units + 8 < cLine by rw [Around.in1_units]; omega) ki n1 D ?_
  rw [(r.look t (k := k)).2]
  exact ⟨.bl _, H, I.tok _, rfl, q⟩
theorem op_nnin (hw : X.w = TheW.w) (hu : X.A.units + 64 < cLine) : OpR X (compareOp .NotIn) (rNIn X.K true) := by
  intro pins s σ H y x iv u Q I ry rx h
  obtain ⟨G, p, es, kvs, k, sub, ex, hp, r, rk, hk, q⟩ := h
  subst ex
  obtain rfl : u = Value.ref p := rx
  obtain ⟨n1, _, _, xs, t, D⟩ := nd_at hw I sub hp r
  obtain ⟨b, eb, ki⟩ := nest_key I sub rk hk
  subst eb
  obtain rfl : iv = Value.ref b := ry
  show wpAny _ _ (do return Value.bool (!(← contains (Value.ref p) (Value.ref b)))) _ _ s
  refine wpAny_bind (wpAny_contains_heap (knd := nestedKind X.prog X.w) (show X.A.in1.units + 8 < cLine by rw [Around.in1_units]; omega) ki n1 D (wpAny_pure ?_))
  rw [(r.look t (k := k)).2]
  exact ⟨.bl _, H, I.tok _, rfl, q⟩
def gND : Pl → Pl → Option Pl
  | .dicN kvs, .val kd => (keyT kd).bind fun k => (lookN kvs k).map fun d => .val d
  | _, _ => none
theorem keyT_tup {d : PyData} {k : NestedKey} (e : keyT d = some k) : ∃ ds, d = .tuple ds := by
  cases d with
  | tuple ds => exact ⟨ds, rfl⟩
  | none => cases e
  | bool b => cases e
  | int b => cases e
  | str b => cases e
  | list b => cases e
  | dict b => cases e
theorem View.key {K : PySem.W.Frag} {fa : Addr} {H G : Hp} {v : V} {d : PyData} {k : NestedKey} (h : View K fa H G v (.val d)) (e : keyT d = some k) : Rp K G v k.data ∧ keyT k.data = some k := by
  obtain ⟨ds, rfl⟩ := keyT_tup e
  obtain ⟨_, _, e3, e4⟩ := keyT_at e
  exact ⟨by rw [e3]; exact h, e4⟩
theorem od_nd : OpD X (rND X.K) gND := by
  intro Γ σ H G s v w a b r Q S v1 v2 hg hq
  unfold gND at hg
  split at hg
  · rename_i kvs kd
    obtain ⟨p, es, rfl, h1, q1⟩ := v1
    cases ek : keyT kd with
    | none => rw [ek] at hg; cases hg
    | some k =>
      rw [ek, Option.bind_some] at hg
      cases el : lookN kvs k with
      | none => rw [el] at hg; cases hg
      | some d =>
        rw [el] at hg
        cases hg
        obtain ⟨k1, k2⟩ := v2.key ek
        exact ⟨G, p, es, kvs, k, d, S.sub, rfl, h1, q1, k1, k2, el, fun v rv => hq v H G S .refl (.new (fa := Γ.fa) rv)⟩
  · cases hg
def gNIn (neg : Bool) : Pl → Pl → Option Pl
  | .val kd, .dicN kvs => (keyT kd).map fun k => .val (.bool (if neg then !(lookN kvs k).isSome else (lookN kvs k).isSome))
  | _, _ => none
theorem od_nin {neg : Bool} : OpD X (rNIn X.K neg) (gNIn neg) := by
  intro Γ σ H G s v w a b r Q S v1 v2 hg hq
  unfold gNIn at hg
  split at hg
  · rename_i kd kvs
    obtain ⟨p, es, rfl, h1, q1⟩ := v2
    cases ek : keyT kd with
    | none => rw [ek] at hg; cases hg
    | some k =>
      rw [ek] at hg
      cases hg
      obtain ⟨k1, k2⟩ := v1.key ek
      exact ⟨G, p, es, kvs, k, S.sub, rfl, h1, q1, k1, k2, hq _ H G S .refl (.new (fa := Γ.fa) (.bl _))⟩
  · cases hg
theorem pd_subN {a b : Expr} {pos : Pos} {f : DS → Option (Pl × Pl × DS)} (hw : X.w = TheW.w) (hu : X.A.units + 64 < cLine) (h : P2d X Γ a b f) (hn : NoSl b) : PEd X Γ (.Subscript a b pos) (fBin f gND) := by
  obtain ⟨ta, tb, ha, hb, k⟩ := pd_tOp (X := X) h od_nd
  exact ⟨_, pe_nd hw hu ha hb hn, k⟩
theorem c_inN {a b : Expr} {pos : Pos} {f : DS → Option (Pl × Pl × DS)} (hw : X.w = TheW.w) (hu : X.A.units + 64 < cLine) (h : P2d X Γ a b f) (hm : behindInMarks .In b = false := by rfl) : CmpD X Γ (.Compare a [.In] [b] pos) (fBin f (gNIn false)) := cd_cmp h (op_nin hw hu) od_nin hm
theorem c_notInN {a b : Expr} {pos : Pos} {f : DS → Option (Pl × Pl × DS)} (hw : X.w = TheW.w) (hu : X.A.units + 64 < cLine) (h : P2d X Γ a b f) (hm : behindInMarks .NotIn b = false := by rfl) : CmpD X Γ (.Compare a [.NotIn] [b] pos) (fBin f (gNIn true)) := cd_cmp h (op_nnin hw hu) od_nin hm
/-! ### d[k] = v -/
def rSetN (K : PySem.W.Frag) : TSet := fun o i v H Q => ∃ (G : Hp) (p : Addr) (es : List NEnt) (kvs : List (NestedKey × PyData)) (k : NestedKey) (b : Addr), Same G H ∧ o = .ref p ∧ H p = some (NDO p es) ∧ NRp K G es kvs ∧
  i = .ref b ∧ Rp K G i k.data ∧ keyT k.data = some k ∧ kvs.length < sizeLine ∧ Q (upd H p (NDO p (storeE es k b v)))
theorem set_nd (hw : X.w = TheW.w) (hu : X.A.units + 64 < cLine) : PSet X (rSetN X.K) := by
  intro pins s σ H o i v ov iv u Q I ro ri rv h
  obtain ⟨G, p, es, kvs, k, b, sub, rfl, hp, r, rfl, rk, hk, hz, q⟩ := h
  obtain rfl : ov = Value.ref p := ro
  obtain rfl : iv = Value.ref b := ri
  obtain ⟨n1, n2, n3, xs, t, D⟩ := nd_at hw I sub hp r
  obtain ⟨b', eb, ki⟩ := nest_key I sub rk hk
  cases eb
  have hz2 : es.length < sizeLine := by rw [r.length]; exact hz
  have hx : xs.length = es.length := by
    have e := congrArg List.length (EVals.keys t)
    rw [List.length_map, List.length_map] at e
    exact e
  refine wpAny_setItem_heap (knd := nestedKind X.prog X.w) (show X.A.in1.units + 8 < cLine by rw [Around.in1_units]; omega) ki D (fun h' D' sb => ⟨_, I.write (x := p) (e := p) (o := NDO p (storeE es k b v)) (by rw [hp]; exact True.intro) (.inl rfl) (fun c o hc e => (sb.2 c hc).trans e) ?_ ?_, q⟩) (by rw [hx]; omega)
  · obtain ⟨o, _, _, d1, _⟩ := D'
    exact ⟨o, d1⟩
  · exact nd_ok hw n1 (by have := storeE_length es k b v; omega) (storeE_nodup k b v n3) (EVals.put rv t) D'
end
end PD

set_option Elab.async false
set_option linter.all false
set_option maxRecDepth 100000
set_option maxHeartbeats 1000000
/-! PEa: dicts whose keys are tuples: d[k] = v, two at once, {}, {k: v}; d.get(k, x) of dicts with flat keys. -/
namespace PD
open PySem PySem.Spec PyProof.Rows L2
def stepN (i : Nat) (d : PyData) (g : Ef) : DS → Option DS := fun s1 => match s1.env[i]? with
  | some (some (.ownN _)) => (g s1).bind fun (q, s2) => match q, s2.env[i]? with
    | .val kd, some (some (.ownN kvs)) => (keyT kd).bind fun k => if kvs.length < sizeLine then some ⟨s2.env.set i (some (.ownN (putN kvs k d))), s2.fs⟩ else none
    | _, _ => none
  | _ => none
def sSetN (i : Nat) (f g : Ef) : Sf := fun s => (f s).bind fun (r, s1) => match fz r with
  | .val d => (stepN i d g s1).map fun s2 => .nx s2
  | _ => none
def sSet2N (i j : Nat) (f g1 g2 : Ef) : Sf := fun s => (f s).bind fun (r, s1) => match r with
  | .val (.tuple [d1, d2]) => (stepN i d1 g1 s1).bind fun s2 => (stepN j d2 g2 s2).map fun s3 => .nx s3
  | _ => none
def fNewN : Ef := fun s => some (.ownN [], s)
def fDicN (fk fv : Ef) : Ef := fun s => (fk s).bind fun (q, s1) => (fv s1).bind fun (r, s2) => match q, fz r with
  | .val kd, .val d => (keyT kd).map fun k => (.ownN [(k, d)], s2)
  | _, _ => none
@[simp] theorem stepN_ap (i : Nat) (d : PyData) (g : Ef) (s1 : DS) : stepN i d g s1 = match s1.env[i]? with
  | some (some (.ownN _)) => (g s1).bind fun (q, s2) => match q, s2.env[i]? with
    | .val kd, some (some (.ownN kvs)) => (keyT kd).bind fun k => if kvs.length < sizeLine then some ⟨s2.env.set i (some (.ownN (putN kvs k d))), s2.fs⟩ else none
    | _, _ => none
  | _ => none := rfl
@[simp] theorem sSetN_ap (i : Nat) (f g : Ef) (s : DS) : sSetN i f g s = (f s).bind fun (r, s1) => match fz r with
  | .val d => (stepN i d g s1).map fun s2 => .nx s2
  | _ => none := rfl
@[simp] theorem sSet2N_ap (i j : Nat) (f g1 g2 : Ef) (s : DS) : sSet2N i j f g1 g2 s = (f s).bind fun (r, s1) => match r with
  | .val (.tuple [d1, d2]) => (stepN i d1 g1 s1).bind fun s2 => (stepN j d2 g2 s2).map fun s3 => .nx s3
  | _ => none := rfl
@[simp] theorem fNewN_ap (s : DS) : fNewN s = some (.ownN [], s) := rfl
@[simp] theorem fDicN_ap (fk fv : Ef) (s : DS) : fDicN fk fv s = (fk s).bind fun (q, s1) => (fv s1).bind fun (r, s2) => match q, fz r with
  | .val kd, .val d => (keyT kd).map fun k => (.ownN [(k, d)], s2)
  | _, _ => none := rfl
section
variable {X : Cx} {Γ : Gm} {a b e : Expr} {pos : Pos} [TheW]
theorem pg_setN {o ix : Expr} {tpos : Pos} {i : Nat} {g : Ef} (hw : X.w = TheW.w) (hu : X.A.units + 64 < cLine) (ho : PE X o (tVar i)) (hi : PEd X Γ ix g)
    (ha : ∀ v, assign (.Subscript o ix tpos) X.env v = (do
      let ov ← holding [v] (eval o X.env)
      let iv ← holding [v, ov] (eval ix X.env)
      standAt tpos
      holding [v, ov, iv] (setItem ov iv v)
      release [v, ov, iv] [])) :
    ∃ tg : TG, PG X (.Subscript o ix tpos) tg ∧ ∀ (σ : L2.St) (H G : Hp) (s s' : DS) (d : PyData) (y : V) (Q : L2.St → Hp → Prop), Sta X.K Γ σ H G s → Rp X.K G y d → stepN i d g s = some s' →
      (∀ H' G', Sta X.K Γ σ H' G' s' → Same G G' → Q σ H') → tg y σ H Q := by
  obtain ⟨ti, pi, ki⟩ := hi
  refine ⟨_, pg_sub ho pi (set_nd hw hu) ha, fun σ H G s s' d y Q S ry hf hq => ?_⟩
  unfold stepN at hf
  split at hf
  case h_2 => cases hf
  rename_i xs0 e0
  cases h2 : g s with
  | none => rw [h2] at hf; cases hf
  | some w2 =>
    obtain ⟨q, s2⟩ := w2
    simp only [h2, Option.bind_some] at hf
    split at hf
    case h_2 => cases hf
    rename_i kd kvs e2
    cases hk : keyT kd with
    | none => rw [hk] at hf; cases hf
    | some k =>
      simp only [hk, Option.bind_some] at hf
      by_cases hz : kvs.length < sizeLine
      case neg => rw [if_neg hz] at hf; cases hf
      rw [if_pos hz] at hf
      cases hf
      obtain ⟨v, hv, p, es, rfl, hp1, gp1, pf1, hr1⟩ := S.env i _ e0
      refine ⟨.ref p, hv, ki σ H G s s2 _ _ S h2 fun z H3 G3 S3 T3 g3 => ?_⟩
      obtain ⟨v', hv', p', es', rfl, hp', gp', pf', hr'⟩ := S3.env i _ e2
      rw [hv] at hv'
      cases hv'
      obtain ⟨ds, rfl⟩ := keyT_tup hk
      obtain ⟨_, _, k3, k4⟩ := keyT_at hk
      have rz : Rp X.K G3 z (.tuple ds) := g3.rp
      obtain ⟨b, _, rfl, _, _⟩ := Rp.tupI rz
      have rk : Rp X.K G3 (.ref b) k.data := by rw [k3]; exact rz
      obtain ⟨A, B⟩ := S3.ownUpd (o := NDO p (storeE es' k b y)) (a' := .ownN (putN kvs k d)) e2 rfl hv rfl fun g f => ⟨p, _, rfl, upd_same, g, f, hr'.put k4 rk (Rp.mono T3.gg ry)⟩
      exact ⟨G3, p, es', kvs, k, b, S3.sub, rfl, hp', hr', rfl, rk, k4, hz, hq _ _ A (T3.gg.trans B.gg)⟩
theorem ps_setND {o ix : Expr} {tpos : Pos} {i : Nat} {f g : Ef} (hw : X.w = TheW.w) (hu : X.A.units + 64 < cLine) (ho : PE X o (tVar i)) (he : PEd X Γ e f) (hi : PEd X Γ ix g)
    (ha : ∀ v, assign (.Subscript o ix tpos) X.env v = (do
      let ov ← holding [v] (eval o X.env)
      let iv ← holding [v, ov] (eval ix X.env)
      standAt tpos
      holding [v, ov, iv] (setItem ov iv v)
      release [v, ov, iv] []) := by intro _; rfl)
    (hs : swapsWithSole [.Subscript o ix tpos] e pos.line X.env = pure false := by rfl) (hw2 : swappedStores [.Subscript o ix tpos] e X.env = pure none := by rfl)
    (h1 : (assignEach [.Subscript o ix tpos] X.env).map (·.2) = [assign (.Subscript o ix tpos) X.env] := by rfl) : PSd X Γ (.Assign [.Subscript o ix tpos] e pos) (sSetN i f g) := by
  obtain ⟨te, pe, ke⟩ := he
  obtain ⟨tg, pg, kg⟩ := pg_setN (Γ := Γ) hw hu ho hi ha
  refine ⟨_, ps_asg pe pg hs hw2 h1, fun σ H G s o D S hf hp => ?_⟩
  unfold sSetN at hf
  cases h1 : f s with
  | none => rw [h1] at hf; cases hf
  | some w =>
    obtain ⟨r1, s1⟩ := w
    simp only [h1, Option.bind_some] at hf
    split at hf
    case h_2 => cases hf
    rename_i d e1
    cases h2 : stepN i d g s1 with
    | none => rw [h2] at hf; cases hf
    | some s2 =>
      rw [h2] at hf
      cases hf
      refine ke σ H G s s1 r1 _ S h1 fun y H1 G1 S1 T1 g1 => ?_
      obtain ⟨G2, S2, T2, r2⟩ := S.freeze S1 T1 g1
      rw [e1] at r2
      exact kg σ H1 G2 s1 s2 d y _ S2 r2 h2 fun H' G' S' sg => hp σ _ _ S' (T2.gg.trans sg)
theorem ps_set2ND {o1 o2 ix1 ix2 : Expr} {p1 p2 tpos : Pos} {kk i j : Nat} {f g1 g2 : Ef} (hw : X.w = TheW.w) (hu : X.A.units + 64 < cLine) (hc : X.calm = true) (ho1 : PE X o1 (tVar i)) (ho2 : PE X o2 (tVar j)) (he : PEd X Γ e f) (hi1 : PEd X Γ ix1 g1) (hi2 : PEd X Γ ix2 g2)
    (ha1 : ∀ v, assign (.Subscript o1 ix1 p1) X.env v = (do
      let ov ← holding [v] (eval o1 X.env)
      let iv ← holding [v, ov] (eval ix1 X.env)
      standAt p1
      holding [v, ov, iv] (setItem ov iv v)
      release [v, ov, iv] []) := by intro _; rfl)
    (ha2 : ∀ v, assign (.Subscript o2 ix2 p2) X.env v = (do
      let ov ← holding [v] (eval o2 X.env)
      let iv ← holding [v, ov] (eval ix2 X.env)
      standAt p2
      holding [v, ov, iv] (setItem ov iv v)
      release [v, ov, iv] []) := by intro _; rfl)
    (hn : (assignEach [.Subscript o1 ix1 p1, .Subscript o2 ix2 p2] X.env).length = 2 := by rfl) (hst : (assignEach [.Subscript o1 ix1 p1, .Subscript o2 ix2 p2] X.env).findIdx? (·.1) = none := by rfl)
    (hm1 : (assignEach [.Subscript o1 ix1 p1, .Subscript o2 ix2 p2] X.env).map (·.2) = assign (.Subscript o1 ix1 p1) X.env :: (assignEach [.Subscript o2 ix2 p2] X.env).map (·.2) := by rfl)
    (hm2 : (assignEach [.Subscript o2 ix2 p2] X.env).map (·.2) = assign (.Subscript o2 ix2 p2) X.env :: (assignEach [] X.env).map (·.2) := by rfl)
    (hs : swapsWithSole [.Tuple [.Subscript o1 ix1 p1, .Subscript o2 ix2 p2] kk tpos] e pos.line X.env = pure false := by rfl) (hw2 : swappedStores [.Tuple [.Subscript o1 ix1 p1, .Subscript o2 ix2 p2] kk tpos] e X.env = pure none := by rfl)
    (h1 : (assignEach [.Tuple [.Subscript o1 ix1 p1, .Subscript o2 ix2 p2] kk tpos] X.env).map (·.2) = [assign (.Tuple [.Subscript o1 ix1 p1, .Subscript o2 ix2 p2] kk tpos) X.env] := by rfl) :
    PSd X Γ (.Assign [.Tuple [.Subscript o1 ix1 p1, .Subscript o2 ix2 p2] kk tpos] e pos) (sSet2N i j f g1 g2) := by
  obtain ⟨te, pe, ke⟩ := he
  obtain ⟨tg1, pg1, kg1⟩ := pg_setN (Γ := Γ) hw hu ho1 hi1 ha1
  obtain ⟨tg2, pg2, kg2⟩ := pg_setN (Γ := Γ) hw hu ho2 hi2 ha2
  refine ⟨_, ps_asg pe (pg_tup hc (pgs_cons pg1 (pgs_cons pg2 pgs_nil hm2) hm1) hn hst) hs hw2 h1, fun σ H G s o D S hf hp => ?_⟩
  unfold sSet2N at hf
  cases h1 : f s with
  | none => rw [h1] at hf; cases hf
  | some w =>
    obtain ⟨r1, s1⟩ := w
    simp only [h1, Option.bind_some] at hf
    split at hf
    case h_2 => cases hf
    rename_i d1 d2
    cases h2 : stepN i d1 g1 s1 with
    | none => rw [h2] at hf; cases hf
    | some s2 =>
      simp only [h2, Option.bind_some] at hf
      cases h3 : stepN j d2 g2 s2 with
      | none => rw [h3] at hf; cases hf
      | some s3 =>
        rw [h3] at hf
        cases hf
        refine ke σ H G s s1 _ _ S h1 fun y H1 G1 S1 T1 g1 => ?_
        obtain ⟨q, vs, rfl, hk, hr⟩ := Rp.tupI (show Rp X.K G1 y (.tuple [d1, d2]) from g1.rp)
        cases hr with
        | @cons y1 _ _ _ r1 hr =>
          cases hr with
          | @cons y2 _ _ _ r2 hr =>
            cases hr
            refine ⟨q, [y1, y2], rfl, (hk.mono S1.sub).sqt, rfl, y1, [y2], rfl, ?_⟩
            refine kg1 σ H1 G1 s1 s2 d1 y1 _ S1 r1 h2 fun H2 G2 S2 sg2 => ⟨y2, [], rfl, ?_⟩
            exact kg2 σ H2 G2 s2 s3 d2 y2 _ S2 (r2.mono sg2) h3 fun H3 G3 S3 sg3 => ⟨rfl, hp σ _ _ S3 (T1.gg.trans (sg2.trans sg3))⟩
end
end PD

set_option Elab.async false
set_option linter.all false
set_option maxRecDepth 100000
set_option maxHeartbeats 1000000
/-! PEb: {}, {k: v} for keys that are tuples; d.get(k, x). -/
namespace PD
open PySem PySem.Spec PyProof.Rows L2
section
variable {X : Cx} {Γ : Gm} {a b e : Expr} {pos : Pos} [TheW]
def tNewN : TE := fun _ H Q => ∀ p, H p = none → Q (.ref p) (upd H p (NDO p []))
theorem nd_new {P : Program} {H : Hp} {w : World} (h : Heap) (hb : sysModules < h.objs.size) : ObjOk P w H (h.push { cls := .type "dict", data := .dict #[] }) h.objs.size (NDO h.objs.size []) :=
  ⟨⟨beq_eq_false_iff_ne.mpr (Ne.symm (Nat.ne_of_lt hb)), Nat.zero_le _, List.nodup_nil, [], .nil, _, #[], 0, Heap.get?_push_size _ rfl, ⟨rfl, rfl, rfl⟩, rfl, rfl⟩, ⟨_, Heap.get?_push_size _ rfl⟩,
    fun g1 g2 ⟨a1, a2, a3, ys, a4, o2, ds2, ep2, b1, b2, b3, b4⟩ k => ⟨a1, a2, a3, ys, a4, o2, ds2, ep2, k _ b1, b2, b3, b4⟩⟩
theorem pe_newN : PE X (.Dict [] [] pos) tNewN := ⟨fun pins s σ H Q I h =>
  wpAny_Dict_empty ⟨.ref s.heap.objs.size, _, I.laid (a := s.heap.objs.size) (o := NDO s.heap.objs.size []) (t' := s.toks) (fun _ _ q => Heap.get?_push_of_some _ q) (Nat.le_refl _) (nd_new s.heap I.big), rfl, h _ (I.hok.fresh (Nat.le_refl _))⟩⟩
theorem pd_newN : PEd X Γ (.Dict [] [] pos) fNewN := by
  refine ⟨_, pe_newN, fun σ H G s s' r Q S hf hq => ?_⟩
  cases hf
  intro p hn
  obtain ⟨A, B⟩ := S.alloc (o := NDO p []) hn
  obtain ⟨gp, pf⟩ := S.gNone hn
  exact hq _ _ G A B ⟨⟨p, [], rfl, upd_same, gp, pf, .nil⟩, fun _ => ⟨p, rfl, hn⟩⟩
/-- {k: v}: the new dict stands empty while the two are made -/
def tDicN (K : PySem.W.Frag) (ta tb : TE) : TE := fun σ H Q => ∀ p, H p = none → ta σ (upd H p (NDO p [])) fun x H1 => tb σ H1 fun y H2 => H2 p = some (NDO p []) ∧ ∃ (G : Hp) (k : NestedKey) (b : Addr), Same G H2 ∧ x = .ref b ∧ Rp K G x k.data ∧ keyT k.data = some k ∧
  Q (.ref p) (upd H2 p (NDO p [(k, b, y)]))
theorem pe_dicN {ta tb : TE} (hw : X.w = TheW.w) (hu : X.A.units + 64 < cLine) (ha : PE X a ta) (hb : PE X b tb) : PE X (.Dict [some a] [b] pos) (tDicN X.K ta tb) := by
  refine ⟨fun pins s σ H Q I h => ?_⟩
  have hn := I.hok.fresh (Nat.le_refl s.heap.objs.size)
  have I1 := I.laid (a := s.heap.objs.size) (o := NDO s.heap.objs.size []) (t' := s.toks) (fun _ _ q => Heap.get?_push_of_some _ q) (Nat.le_refl _) (nd_new (P := X.prog) s.heap I.big)
  have hsh : (evalEachOpt [some a] X.env).zip ((evalEach [b] X.env).map fun v => do let x ← v; standAt pos; pure x) = [(eval a X.env, (do let x ← eval b X.env; standAt pos; pure x))].map fun p => (some p.1, p.2) := rfl
  rw [arm_eval_Dict, hsh, dictDisplay_pairs _ (by simp) (by simp)]
  refine wpAny_bind (wpAny_standAt (wpAny_bind ?_))
  refine wpAny_subDictH (knd := nestedKind X.prog X.w) (show X.A.units + 8 < cLine by omega) (by simp) ?_
  refine evalPairs_cons (thn (ha.run pins _ σ _ _ I1 (h _ hn)) fun u s1 ⟨x, H1, I2, rx, q1⟩ => wpAny_bind (thn (hb.run pins s1 σ H1 _ I2 q1) fun v s2 ⟨y, H2, I3, ry, hp, G, k, bq, sub, ex, rk, hk, q⟩ => wpAny_bind (wpAny_standAt (wpAny_pure (evalPairs_nil ?_)))))
  subst ex
  obtain rfl : u = Value.ref bq := rx
  obtain ⟨n1, _, _, xs, t, D⟩ := nd_at (kvs := []) hw I3 sub hp .nil
  cases t
  obtain ⟨b', eb, ki⟩ := nest_key I3 sub rk hk
  cases eb
  refine ⟨[(k, bq, v)], ⟨rfl, rfl, ki, trivial⟩, D, fun h' tk D' sb => wpAny_pure ⟨.ref s.heap.objs.size, _, I3.write (x := s.heap.objs.size) (e := s.heap.objs.size) (o := NDO s.heap.objs.size [(k, bq, y)]) (by rw [hp]; exact True.intro) (.inl rfl) (fun c o hc e => (sb.2 c hc).trans e) ?_ ?_, rfl, q⟩⟩
  · obtain ⟨o, _, _, d1, _⟩ := D'
    exact ⟨o, d1⟩
  · exact nd_ok (xs := [(k, bq, v)]) hw n1 (by rw [sizeLine_eq]; simp) (by simp) (.cons ⟨rfl, rfl, ry⟩ .nil) D'
theorem pd_dicN {fk fv : Ef} (hw : X.w = TheW.w) (hu : X.A.units + 64 < cLine) (hk : PEd X Γ a fk) (hv : PEd X Γ b fv) : PEd X Γ (.Dict [some a] [b] pos) (fDicN fk fv) := by
  obtain ⟨tk, pk, kk⟩ := hk
  obtain ⟨tv, pv, kv⟩ := hv
  refine ⟨_, pe_dicN hw hu pk pv, fun σ H G s s' r Q S hf hq => ?_⟩
  unfold fDicN at hf
  cases h1 : fk s with
  | none => rw [h1] at hf; cases hf
  | some w1 =>
    obtain ⟨q, s1⟩ := w1
    simp only [h1, Option.bind_some] at hf
    cases h2 : fv s1 with
    | none => rw [h2] at hf; cases hf
    | some w2 =>
      obtain ⟨r1, s2⟩ := w2
      simp only [h2, Option.bind_some] at hf
      split at hf
      case h_2 => cases hf
      rename_i kd d e1
      cases ek : keyT kd with
      | none => rw [ek] at hf; cases hf
      | some k =>
        rw [ek] at hf
        cases hf
        intro p hn
        obtain ⟨S0, T0⟩ := S.alloc (o := NDO p []) hn
        obtain ⟨gp, pf⟩ := S.gNone hn
        have h0p := S.fresh0 hn
        have no : ∀ {H2 G2 : Hp} {s2 : DS}, Stp Γ σ H G s H2 G2 s2 → ¬ OwnAt σ s2 p := fun T z => by
          obtain ⟨⟨o, q⟩, _⟩ := S.ownThere (T.own p z)
          rw [hn] at q; cases q
        refine kk σ _ G s s1 _ _ S0 h1 fun x H1 G1 S1 T1 g1 => ?_
        refine kv σ H1 G1 s1 _ r1 _ S1 h2 fun y H2 G2 S2 T2 g2 => ?_
        obtain ⟨G3, S3, T3, r3⟩ := S1.freeze S2 T2 g2
        rw [e1] at r3
        have T03 := T1.trans T3
        have TT := T0.trans T03
        have hp2 : H2 p = some (NDO p []) := T03.keep p _ pf (no T0) rfl upd_same
        have gp3 : G3 p = none := by
          cases z : G3 p with
          | none => rfl
          | some o =>
            rcases T03.nw p (by rw [z]; simp) with q | q | q
            · exact absurd gp q
            · rw [upd_same] at q; cases q
            · exact absurd q (no T0)
        obtain ⟨ds, rfl⟩ := keyT_tup ek
        obtain ⟨_, _, k3, k4⟩ := keyT_at ek
        have rz : Rp X.K G3 x (.tuple ds) := Rp.mono T3.gg (show Rp X.K G1 x (.tuple ds) from g1.rp)
        obtain ⟨bq, _, rfl, _, _⟩ := Rp.tupI rz
        have rk : Rp X.K G3 (.ref bq) k.data := by rw [k3]; exact rz
        refine ⟨hp2, G3, k, bq, S3.sub, rfl, rk, k4, ?_⟩
        have S4 := S3.touch (o := NDO p [(k, bq, y)]) gp3 pf (no TT) h0p (some_nt hp2 rfl)
        refine hq _ _ G3 S4 ⟨TT.gg, fun b o n1 n2 nt e => ?_, TT.own, TT.nw, fun b e => ?_, TT.tgr.after (some_nt hp2 rfl)⟩ ⟨⟨p, _, rfl, upd_same, gp3, pf, .cons ⟨rfl, k4, rk, r3⟩ .nil⟩, fun _ => ⟨p, rfl, hn⟩⟩
        · rw [upd_ne (fun z => by rw [z, hn] at e; cases e)]
          exact TT.keep b o n1 n2 nt e
        · by_cases z : b = p
          · rw [z]; show (upd H2 p _) p ≠ none; rw [upd_same]; simp
          · rw [upd_ne z]; exact TT.mo b e
end
end PD

set_option Elab.async false
set_option linter.all false
set_option maxRecDepth 100000
set_option maxHeartbeats 1000000
/-! PEc: d.get(k, x) of a dict with flat keys; for over zip of three tuples. -/
namespace PD
open PySem PySem.Spec PyProof.Rows L2
def fGet2 (f g h : Ef) : Ef := fun s => (f s).bind fun (r, s1) => (g s1).bind fun (q, s2) => (h s2).bind fun (z, s3) => match fz r, q, fz z with
  | .dic kvs, .val kd, .val d => (keyD kd).map fun k => (.val ((lookD kvs k).getD d), s3)
  | _, _, _ => none
@[simp] theorem fGet2_ap (f g h : Ef) (s : DS) : fGet2 f g h s = (f s).bind fun (r, s1) => (g s1).bind fun (q, s2) => (h s2).bind fun (z, s3) => match fz r, q, fz z with
  | .dic kvs, .val kd, .val d => (keyD kd).map fun k => (.val ((lookD kvs k).getD d), s3)
  | _, _, _ => none := rfl
def zip3D : List PyData → List PyData → List PyData → List PyData
  | x :: xs, y :: ys, z :: zs => .tuple [x, y, z] :: zip3D xs ys zs
  | _, _, _ => []
def wZip3 (f g h : Ef) : Wf := fun s => (f s).bind fun (a, s1) => (g s1).bind fun (b, s2) => (h s2).bind fun (c, s3) => match fz a, fz b, fz c with
  | .val (.tuple xs), .val (.tuple ys), .val (.tuple zs) => some (zip3D xs ys zs, s3)
  | _, _, _ => none
@[simp] theorem wZip3_ap (f g h : Ef) (s : DS) : wZip3 f g h s = (f s).bind fun (a, s1) => (g s1).bind fun (b, s2) => (h s2).bind fun (c, s3) => match fz a, fz b, fz c with
  | .val (.tuple xs), .val (.tuple ys), .val (.tuple zs) => some (zip3D xs ys zs, s3)
  | _, _, _ => none := rfl
theorem zip3D_get : ∀ {xs ys zs : List PyData} {i : Nat} {d : PyData}, (zip3D xs ys zs)[i]? = some d → ∃ x y z, xs[i]? = some x ∧ ys[i]? = some y ∧ zs[i]? = some z ∧ d = .tuple [x, y, z]
  | x :: r, y :: t, z :: q, 0, d, h => by
    simp only [zip3D, List.getElem?_cons_zero, Option.some.injEq] at h
    exact ⟨x, y, z, rfl, rfl, rfl, h.symm⟩
  | x :: r, y :: t, z :: q, i + 1, d, h => by
    obtain ⟨a, b, c, h1, h2, h3, h4⟩ := zip3D_get (xs := r) (ys := t) (zs := q) (i := i) (d := d) (by simpa [zip3D] using h)
    exact ⟨a, b, c, by simpa using h1, by simpa using h2, by simpa using h3, h4⟩
  | [], _, _, i, d, h => by simp [zip3D] at h
  | _ :: _, [], _, i, d, h => by simp [zip3D] at h
  | _ :: _, _ :: _, [], i, d, h => by simp [zip3D] at h
theorem zip3D_len : ∀ xs ys zs : List PyData, (zip3D xs ys zs).length = min (min xs.length ys.length) zs.length
  | [], _, _ => by simp [zip3D]
  | _ :: _, [], _ => by simp [zip3D]
  | _ :: _, _ :: _, [] => by simp [zip3D]
  | a :: r, b :: t, c :: q => by simp [zip3D, zip3D_len r t q]
/-! ### the walk -/
def It3 (K : PySem.W.Frag) (a b c : Addr) : It :=
  ⟨fun i H => ∃ (xs ys zs : List V) (x y z : V), SqT K H a xs ∧ SqT K H b ys ∧ SqT K H c zs ∧ xs[i]? = some x ∧ ys[i]? = some y ∧ zs[i]? = some z,
    fun i H v H' => ∃ T x y z, v = .ref T ∧ H T = none ∧ H' = upd H T (.tup [x, y, z]) ∧ (∀ xs, SqT K H a xs → xs[i]? = some x) ∧ (∀ ys, SqT K H b ys → ys[i]? = some y) ∧ ∀ zs, SqT K H c zs → zs[i]? = some z,
    fun i H => ∃ xs ys zs : List V, SqT K H a xs ∧ SqT K H b ys ∧ SqT K H c zs ∧ min (min xs.length ys.length) zs.length = i⟩
theorem turn3 {P : Program} {w : World} {K : PySem.W.Frag} {elts : List Expr} {kk : Nat} {tpos : Pos} {a b c : Addr} {N : Nat} (la : a < N) (lb : b < N) (lc : c < N) :
    Turn P w K (.Tuple elts kk tpos) (It3 K a b c) [N + 5, N + 3, N + 4, N, N + 1, N + 2] (N + 5) (fun i h => IsZip h (N + 5) (N + 3) (N + 4) .none ∧ IsTupOf3 h (N + 3) (.ref N) (.ref (N + 1)) (.ref (N + 2)) ∧ (∃ x y z, IsTupOf3 h (N + 4) x y z) ∧
      h.IsTupleIter N a i ∧ h.IsTupleIter (N + 1) b i ∧ h.IsTupleIter (N + 2) c i) := by
  have sep : ZipSep3 (N + 5) (N + 3) (N + 4) N (N + 1) (N + 2) [N, a] [N + 1, b] [N + 2, c] := zip_sep3 (fun x hx => by rw [List.mem_singleton.mp hx]; exact la) (fun x hx => by rw [List.mem_singleton.mp hx]; exact lb) (fun x hx => by rw [List.mem_singleton.mp hx]; exact lc)
  have six : ∀ {x : Addr}, x ∈ [N + 5, N + 3, N + 4, N, N + 1, N + 2] → x = N + 5 ∨ x = N + 3 ∨ x = N + 4 ∨ x = N ∨ x = N + 1 ∨ x = N + 2 := fun hx => by simpa using hx
  have na : a ≠ N := Nat.ne_of_lt la
  have nb : b ≠ N + 1 := Nat.ne_of_lt (Nat.lt_succ_of_lt lb)
  have nc : c ≠ N + 2 := Nat.ne_of_lt (Nat.lt_succ_of_lt (Nat.lt_succ_of_lt lc))
  refine { mem := by simp, obj := fun i h st x hx => ?_, keep := fun i h h' st k => ?_, item := ?_, done := ?_, self := fun A i s Q E st h => wpAny_pyIter_zip st.1 h }
  · obtain ⟨hz, hTI, ⟨x1, x2, x3, hTO⟩, ⟨o1, e1, _, d1⟩, ⟨o2, e2, _, d2⟩, ⟨o3, e3, _, d3⟩⟩ := st
    rcases six hx with q | q | q | q | q | q
    · rw [q]; exact ⟨_, hz, fun v q => nomatch q⟩
    · rw [q]; exact ⟨_, hTI, fun v q => nomatch q⟩
    · rw [q]; exact ⟨_, hTO, fun v q => nomatch q⟩
    · rw [q]; exact ⟨o1, e1, fun v q => by rw [d1] at q; cases q⟩
    · rw [q]; exact ⟨o2, e2, fun v q => by rw [d2] at q; cases q⟩
    · rw [q]; exact ⟨o3, e3, fun v q => by rw [d3] at q; cases q⟩
  · obtain ⟨hz, hTI, ⟨x1, x2, x3, hTO⟩, h1, h2, h3⟩ := st
    exact ⟨k _ (by simp) _ hz, k _ (by simp) _ hTI, ⟨x1, x2, x3, k _ (by simp) _ hTO⟩, h1.at fun o q => k N (by simp) o q, h2.at fun o q => k (N + 1) (by simp) o q, h3.at fun o q => k (N + 2) (by simp) o q⟩
  · intro X hP hw hK hcalm i pins s σ H E I hf st hg
    subst hP hw hK
    obtain ⟨hz, hTI, ⟨x1, x2, x3, hTO⟩, h1, h2, h3⟩ := st
    obtain ⟨xs, ys, zs, x, y, z, hqx, hqy, hqz, hx, hy, hzz⟩ := hg
    obtain ⟨its, rv, p, _⟩ := I.tuple hqx
    obtain ⟨its2, rv2, p2, _⟩ := I.tuple hqy
    obtain ⟨its3, rv3, p3, _⟩ := I.tuple hqz
    obtain ⟨u, hu, ru⟩ := rv.get hx
    obtain ⟨u2, hu2, ru2⟩ := rv2.get hy
    obtain ⟨u3, hu3, ru3⟩ := rv3.get hzz
    have hh : X.A.in1.handled = none := I.ok.hd hcalm
    have i1 : i < its.toArray.size := by rw [List.size_toArray]; exact (List.getElem?_eq_some_iff.mp hu).1
    have i2 : i < its2.toArray.size := by rw [List.size_toArray]; exact (List.getElem?_eq_some_iff.mp hu2).1
    have i3 : i < its3.toArray.size := by rw [List.size_toArray]; exact (List.getElem?_eq_some_iff.mp hu3).1
    refine wpAny_pyNext_zipD3_item sep (Draws.tuple hh N a na its.toArray) (Draws.tuple hh (N + 1) b nb its2.toArray) (Draws.tuple hh (N + 2) c nc its3.toArray) hz hTI hTO ⟨h1, p⟩ ⟨h2, p2⟩ ⟨h3, p3⟩ i1 i2 i3 fun v1 v2 v3 h' tk y1 y2 y3 hz' hTO' s1 s2 s3 hT hsz hk => ?_
    have y1 : its.toArray[i]? = some v1 := y1
    have y2 : its2.toArray[i]? = some v2 := y2
    have y3 : its3.toArray[i]? = some v3 := y3
    rw [List.getElem?_toArray, hu] at y1
    rw [List.getElem?_toArray, hu2] at y2
    rw [List.getElem?_toArray, hu3] at y3
    cases y1
    cases y2
    cases y3
    refine ⟨_, rfl, wpAny_letOwnedTupleGo_zip (s := { s with heap := h', toks := tk }) hz' fun h'' z'' sb => ?_⟩
    have hzl : (N + 5 : Nat) < s.heap.objs.size := Heap.lt_size hz
    have hT2 : h''.get? s.heap.objs.size = some { cls := .type "tuple", data := .seq #[u, u2, u3] } := (sb.2 _ (Nat.ne_of_gt hzl)).trans hT
    have new : ObjOk X.prog X.w (upd H s.heap.objs.size (.tup [x, y, z])) h'' s.heap.objs.size (.tup [x, y, z]) :=
      ⟨by show 3 ≤ sizeLine; rw [sizeLine_eq]; decide, [u, u2, u3], .cons ru (.cons ru2 (.cons ru3 .nil)), ⟨_, hT2, rfl, _, rfl⟩⟩
    have I1 : Inv X pins σ (upd H s.heap.objs.size (.tup [x, y, z])) { s with heap := h'', toks := tk } :=
      I.turnedNew (t' := tk) (ch := [N + 5, N + 3, N + 4, N, N + 1, N + 2]) (fun c o hb q => (sb.2 c (fun q' => hb (by simp [q']))).trans (hk c o (fun q' => hb (by simp [q'])) (fun q' => hb (by simp [q'])) (fun q' => hb (by simp [q'])) (fun q' => hb (by simp [q'])) (fun q' => hb (by simp [q'])) q)) hf (Nat.le_refl _) new
    have n35 : (N + 3 : Nat) ≠ N + 5 := by omega
    have n34 : (N + 3 : Nat) ≠ N + 4 := by omega
    have n30 : (N + 3 : Nat) ≠ N := by omega
    have n31 : (N + 3 : Nat) ≠ N + 1 := by omega
    have n32 : (N + 3 : Nat) ≠ N + 2 := by omega
    have n45 : (N + 4 : Nat) ≠ N + 5 := by omega
    have n05 : (N : Nat) ≠ N + 5 := by omega
    have n15 : (N + 1 : Nat) ≠ N + 5 := by omega
    have n25 : (N + 2 : Nat) ≠ N + 5 := by omega
    refine ⟨.ref s.heap.objs.size, _, I1, rfl, ⟨_, x, y, z, rfl, I.hok.fresh (Nat.le_refl _), rfl, fun l hl => by rw [I.tuple_inj hl hqx]; exact hx, fun l hl => by rw [I.tuple_inj hl hqy]; exact hy, fun l hl => by rw [I.tuple_inj hl hqz]; exact hzz⟩, ⟨z'', ?_, ⟨u, u2, u3, ?_⟩, ?_, ?_, ?_⟩, fun d hdm => ?_⟩
    · exact (sb.2 _ n35).trans (hk _ _ n35 n34 n30 n31 n32 hTI)
    · exact (sb.2 _ n45).trans hTO'
    · exact s1.1.at fun o q => (sb.2 _ n05).trans q
    · exact s2.1.at fun o q => (sb.2 _ n15).trans q
    · exact s3.1.at fun o q => (sb.2 _ n25).trans q
    · have hlt : d < s.heap.objs.size := by
        rcases six hdm with q | q | q | q | q | q
        · rw [q]; exact hzl
        · rw [q]; exact Heap.lt_size hTI
        · rw [q]; exact Heap.lt_size hTO
        · rw [q]; obtain ⟨_, e1, _⟩ := h1; exact Heap.lt_size e1
        · rw [q]; obtain ⟨_, e2, _⟩ := h2; exact Heap.lt_size e2
        · rw [q]; obtain ⟨_, e3, _⟩ := h3; exact Heap.lt_size e3
      rw [upd_ne (Nat.ne_of_lt hlt)]
      exact (hf d hdm).1
  · intro X hP hw hK hcalm i pins s σ H E I hf st hg
    subst hP hw hK
    obtain ⟨hz, hTI, ⟨x1, x2, x3, hTO⟩, h1, h2, h3⟩ := st
    obtain ⟨xs, ys, zs, hqx, hqy, hqz, hend⟩ := hg
    obtain ⟨its, rv, p, _⟩ := I.tuple hqx
    obtain ⟨its2, rv2, p2, _⟩ := I.tuple hqy
    obtain ⟨its3, rv3, p3, _⟩ := I.tuple hqz
    have hh : X.A.in1.handled = none := I.ok.hd hcalm
    have l1 := rv.length
    have l2 := rv2.length
    have l3 := rv3.length
    have e1 : its.toArray.size = its.length := List.size_toArray
    have e2 : its2.toArray.size = its2.length := List.size_toArray
    have e3 : its3.toArray.size = its3.length := List.size_toArray
    exact wpAny_pyNext_zipD3_end sep (Draws.tuple hh N a na its.toArray) (Draws.tuple hh (N + 1) b nb its2.toArray) (Draws.tuple hh (N + 2) c nc its3.toArray) hz hTI hTO ⟨h1, p⟩ ⟨h2, p2⟩ ⟨h3, p3⟩ (by omega) (by omega) (by omega) (by omega) fun h' tk hk => ⟨rfl, I.turnedL (t' := tk) (ch := [N + 5, N + 3, N + 4, N, N + 1, N + 2]) (fun c o hb q =>
      hk c o (fun q' => hb (by simp [q'])) (fun q' => hb (by simp [q'])) (fun q' => hb (by simp [q'])) (fun q' => hb (by simp [q'])) (fun q' => hb (by simp [q'])) q) hf⟩
def iZip3 (K : PySem.W.Frag) (ta : TA) : TI := fun σ H R => ta σ H fun vs H1 => ∃ a b c xs ys zs, vs = [.ref a, .ref b, .ref c] ∧ SqT K H1 a xs ∧ SqT K H1 b ys ∧ SqT K H1 c zs ∧ R (It3 K a b c) H1
theorem pi_zip3 {X : Cx} {e e2 e3 : Expr} {ta : TA} {p pos tpos : Pos} {elts : List Expr} {kk : Nat} (hg : Gl X "zip") (hm : X.mg "zip" = none) (ha : PA X [e, e2, e3] ta)
    (hs : starEach [e, e2, e3] X.env = (false, eval e X.env) :: starEach [e2, e3] X.env := by rfl) (hpl : (backTo pos (starEach [e2, e3] X.env)).any (·.1) = false := by rfl) :
    PI X (.Tuple elts kk tpos) (.Call (.Name "zip" p) [e, e2, e3] [] pos) (iZip3 X.K ta) := by
  refine ⟨fun pins s σ H R I h => ?_⟩
  refine Call_ (ld_blt I hg hm PyProof.Rows.boot_zip (PyProof.Rows.callWith_type1 (thn (ha.run pos pins s σ H _ I h) fun us s1 ⟨vs, H1, I1, r1, q1⟩ => ?_) hs hpl))
  obtain ⟨a, b, c, xs, ys, zs, ex, hqx, hqy, hqz, q⟩ := q1
  subst ex
  cases r1 with
  | cons r rr =>
    cases rr with
    | cons r' rr =>
      cases rr with
      | cons r'' rr =>
        cases rr
        cases r
        cases r'
        cases r''
        obtain ⟨its, rv, p1, _⟩ := I1.tuple hqx
        obtain ⟨its2, rv2, p2, _⟩ := I1.tuple hqy
        obtain ⟨its3, rv3, p3, _⟩ := I1.tuple hqz
        have q1 : s1.heap.IsTuple a its.toArray := p1
        have q2 : s1.heap.IsTuple b its2.toArray := p2
        have q3 : s1.heap.IsTuple c its3.toArray := p3
        refine zip_begins3 (begins_tuple a its.toArray) (begins_tuple b its2.toArray) (begins_tuple c its3.toArray) q1 q2 q3 fun h' hz hTI hTO g1 g2 g3 hsz hk => wpAny_pyIter_zip hz ?_
        have I2 : Inv X pins σ H1 { s1 with heap := h' } := I1.kept (t' := s1.toks) hk
        refine ⟨s1.heap.objs.size + 5, _, _, _, H1, rfl, I2, turn3 (N := s1.heap.objs.size) p1.lt p2.lt p3.lt, ⟨hz, hTI, ⟨_, _, _, hTO⟩, ⟨_, g1, rfl, rfl⟩, ⟨_, g2, rfl, rfl⟩, ⟨_, g3, rfl, rfl⟩⟩, fun d hd => ?_, q⟩
        have hle : s1.heap.objs.size ≤ d := by
          have e' : d = s1.heap.objs.size + 5 ∨ d = s1.heap.objs.size + 3 ∨ d = s1.heap.objs.size + 4 ∨ d = s1.heap.objs.size ∨ d = s1.heap.objs.size + 1 ∨ d = s1.heap.objs.size + 2 := by simpa using hd
          rcases e' with z | z | z | z | z | z
          · rw [z]; exact Nat.le_add_right _ _
          · rw [z]; exact Nat.le_add_right _ _
          · rw [z]; exact Nat.le_add_right _ _
          · rw [z]; exact Nat.le_refl _
          · rw [z]; exact Nat.le_add_right _ _
          · rw [z]; exact Nat.le_add_right _ _
        exact I1.fpOk hle (I1.hok.fresh hle)
section
variable {X : Cx} {Γ : Gm} [TheW]
theorem pid_zip3 {a b c : Expr} {l : List Tg} {f g h : Ef} {p pos tpos : Pos} {elts : List Expr} {kk : Nat} (ha : PEd X Γ a f) (hb : PEd X Γ b g) (hc : PEd X Γ c h) (hg : Gl X "zip") (hm : X.mg "zip" = none)
    (hs : starEach [a, b, c] X.env = (false, eval a X.env) :: starEach [b, c] X.env := by rfl) (hs2 : starEach [b, c] X.env = (false, eval b X.env) :: starEach [c] X.env := by rfl) (hs3 : starEach [c] X.env = (false, eval c X.env) :: starEach [] X.env := by rfl)
    (hpl : (backTo pos (starEach [b, c] X.env)).any (·.1) = false := by rfl) :
    PId X Γ (.Tuple elts kk tpos) (.Call (.Name "zip" p) [a, b, c] [] pos) (.tp l) (wZip3 f g h) := by
  obtain ⟨te, pe, k⟩ := ha
  obtain ⟨tb, pb, kb⟩ := hb
  obtain ⟨tc, pc, kc⟩ := hc
  refine ⟨_, pi_zip3 hg hm (pa_cons pe (pa_cons pb (pa_cons pc pa_nil hs3) hs2) hs) hs hpl, fun σ H G s s' ds R S hf hq => ?_⟩
  unfold wZip3 at hf
  cases h1 : f s with
  | none => rw [h1] at hf; cases hf
  | some w =>
    obtain ⟨x, s1⟩ := w
    simp only [h1, Option.bind_some] at hf
    cases h2 : g s1 with
    | none => simp only [h2, Option.bind_none] at hf; cases hf
    | some w2 =>
      obtain ⟨y, s2⟩ := w2
      simp only [h2, Option.bind_some] at hf
      cases h3 : h s2 with
      | none => simp only [h3, Option.bind_none] at hf; cases hf
      | some w3 =>
        obtain ⟨z, s3⟩ := w3
        simp only [h3, Option.bind_some] at hf
        refine k σ H G s s1 x _ S h1 fun v H1 G1 S1 T1 g1 => ?_
        obtain ⟨G1', S1', T1', r1⟩ := S.freeze S1 T1 g1
        refine kb σ H1 G1' s1 s2 y _ S1' h2 fun w H2 G2 S2 T2 g2 => ?_
        obtain ⟨G2', S2', T2', r2⟩ := S1'.freeze S2 T2 g2
        refine kc σ H2 G2' s2 s3 z _ S2' h3 fun u H3 G3 S3 T3 g3 => ?_
        obtain ⟨G3', S3', T3', r3⟩ := S2'.freeze S3 T3 g3
        have T := T1'.trans (T2'.trans T3')
        split at hf
        case h_2 => cases hf
        rename_i xs ys zs e1 e2 e3
        cases hf
        rw [e1] at r1
        rw [e2] at r2
        rw [e3] at r3
        obtain ⟨p1, vs1, rfl, a1, a2⟩ := Rp.tupI r1
        obtain ⟨p2, vs2, rfl, b1, b2⟩ := Rp.tupI r2
        obtain ⟨p3, vs3, rfl, c1, c2⟩ := Rp.tupI r3
        have gg := T2'.gg.trans T3'.gg
        have a1 := a1.mono gg
        have a2 := a2.mono gg
        have b1 := b1.mono T3'.gg
        have b2 := b2.mono T3'.gg
        refine ⟨p1, p2, p3, vs1, vs2, vs3, rfl, (a1.mono S3'.sub).sqt, (b1.mono S3'.sub).sqt, (c1.mono S3'.sub).sqt, hq _ H3 G3' S3' T ?_⟩
        intro σ4 H4 G4 s4 S4 g4
        have q1 : SqT X.K H4 p1 vs1 := ((a1.mono g4).mono S4.sub).sqt
        have q2 : SqT X.K H4 p2 vs2 := ((b1.mono g4).mono S4.sub).sqt
        have q3 : SqT X.K H4 p3 vs3 := ((c1.mono g4).mono S4.sub).sqt
        refine ⟨fun i d hd => ?_, fun i hi => ⟨vs1, vs2, vs3, q1, q2, q3, by rw [zip3D_len] at hi; rw [a2.length, b2.length, c2.length]; exact hi.symm⟩⟩
        obtain ⟨d1, d2, d3, m1, m2, m3, rfl⟩ := zip3D_get hd
        obtain ⟨v1, f1, f2⟩ := a2.get m1
        obtain ⟨v2, f3, f4⟩ := b2.get m2
        obtain ⟨v3, f5, f6⟩ := c2.get m3
        refine ⟨⟨vs1, vs2, vs3, v1, v2, v3, q1, q2, q3, f1, f3, f5⟩, fun x H' hy => ?_⟩
        obtain ⟨TT, x1, x2, x3, rfl, hT, rfl, y1, y2, y3⟩ := hy
        have e1 := (y1 vs1 q1).symm.trans f1
        have e2 := (y2 vs2 q2).symm.trans f3
        have e3 := (y3 vs3 q3).symm.trans f5
        cases e1
        cases e2
        cases e3
        obtain ⟨A, B⟩ := S4.alloc (o := .tup [v1, v2, v3]) hT
        exact ⟨G4, A, B, fun _ => ⟨[d1, d2, d3], TT, [v1, v2, v3], rfl, rfl, .inl (.inl upd_same), .cons (f2.mono g4) (.cons (f4.mono g4) (.cons (f6.mono g4) .nil))⟩⟩
/-! ### d.get(k, x) -/
theorem pd_get2 {o e d : Expr} {apos cpos : Pos} {f g h : Ef} (hu : X.A.units + 1 < cLine) (ho : PEd X Γ o f) (he : PEd X Γ e g) (hd : PEd X Γ d h) (m : M2 X o "get" apos e d cpos) :
    PEd X Γ (.Call (.Attribute o "get" apos) [e, d] [] cpos) (fGet2 f g h) := by
  obtain ⟨t1, p1, k1⟩ := ho
  obtain ⟨t2, p2, k2⟩ := he
  obtain ⟨t3, p3, k3⟩ := hd
  refine ⟨_, pe_dget2 hu p1 p2 p3 m, fun σ H G s s' r Q S hf hq => ?_⟩
  unfold fGet2 at hf
  cases h1 : f s with
  | none => rw [h1] at hf; cases hf
  | some w1 =>
    obtain ⟨r1, s1⟩ := w1
    simp only [h1, Option.bind_some] at hf
    cases h2 : g s1 with
    | none => rw [h2] at hf; cases hf
    | some w2 =>
      obtain ⟨r2, s2⟩ := w2
      simp only [h2, Option.bind_some] at hf
      cases h3 : h s2 with
      | none => rw [h3] at hf; cases hf
      | some w3 =>
        obtain ⟨r3, s3⟩ := w3
        simp only [h3, Option.bind_some] at hf
        split at hf
        case h_2 => cases hf
        rename_i kvs kd dd e1 e3
        cases ek : keyD kd with
        | none => rw [ek] at hf; cases hf
        | some k =>
          rw [ek] at hf
          cases hf
          refine k1 σ H G s s1 r1 _ S h1 fun v H1 G1 S1 T1 g1 => ?_
          obtain ⟨G1', S1', T1', q1⟩ := S.freeze S1 T1 g1
          rw [e1] at q1
          obtain ⟨p, kv, rfl, hp, hk⟩ := q1
          refine ⟨p, rfl, .inl ⟨kv, .inl (S1'.sub _ _ hp)⟩, ?_⟩
          refine k2 σ H1 G1' s1 s2 _ _ S1' h2 fun y H2 G2 S2 T2 g2 => ?_
          refine k3 σ H2 G2 s2 _ _ _ S2 h3 fun z H3 G3 S3 T3 g3 => ?_
          obtain ⟨G3', S3', T3', q3⟩ := S2.freeze S3 T3 g3
          rw [e3] at q3
          have ey : y = kV k := Rp.keyI (show Rp X.K G2 y kd from g2.rp) ek
          subst ey
          have gg := T2.gg.trans T3'.gg
          have hk3 : KVRp X.K G3' kv kvs := hk.mono gg
          have hp3 : H3 p = some (.dK kv) := S3'.sub _ _ (gg _ _ hp)
          refine ⟨_, DGet.k hp3, ?_⟩
          have T := T1'.trans (T2.trans T3')
          cases el : lookD kvs k with
          | none =>
            have l2 := hk3.look (k := k)
            rw [el] at l2
            have hn : valV kv k = none := by
              cases q : valV kv k with
              | none => rfl
              | some x => rw [q] at l2; exact absurd l2.2 (by simp)
            rw [el] at hq
            rw [hn]
            exact hq z H3 G3' S3' T (.new (fa := Γ.fa) q3)
          | some d1 =>
            obtain ⟨x, hx, rx⟩ := (hk3.look (k := k)).1 d1 el
            rw [el] at hq
            rw [hx]
            exact hq x H3 G3' S3' T (.new (fa := Γ.fa) rx)
end
end PD

set_option Elab.async false
set_option linter.all false
set_option maxRecDepth 100000
set_option maxHeartbeats 1000000
/-! PEd: a < b of tuples. -/
namespace PD
open PySem PySem.Spec PyProof.Rows L2
def rLtT (K : PySem.W.Frag) : R2 := fun x y H Q => ∃ ds es, Dp K H x (.tuple ds) ∧ Dp K H y (.tuple es) ∧ PySem.W.alike (.tuple ds) (.tuple es) = true ∧ SeqAt.shaped (.tuple ds) = true ∧ Q (.bl (PySem.W.dataLt (.tuple ds) (.tuple es))) H
def gLtT : Pl → Pl → Option Pl
  | .val (.tuple ds), .val (.tuple es) => if PySem.W.alike (.tuple ds) (.tuple es) && SeqAt.shaped (.tuple ds) then some (.val (.bool (PySem.W.dataLt (.tuple ds) (.tuple es)))) else none
  | _, _ => none
section
variable {X : Cx} {Γ : Gm} {a b : Expr} {pos : Pos} {f : DS → Option (Pl × Pl × DS)} [TheW]
theorem op_ltT (hu : X.A.units + 65 < cLine) : OpR X (compareOp .Lt) (rLtT X.K) := by
  intro pins s σ H x y v u Q I rx ry h
  obtain ⟨ds, es, hd, he, al, sd, q⟩ := h
  obtain ⟨as, r1⟩ := Dp.reads I (.tuple ds) x v hd rx
  obtain ⟨bs, r2⟩ := Dp.reads I (.tuple es) y u he ry
  have dp : (PyData.tuple ds).depth ≤ 64 := by
    have z := sd
    unfold SeqAt.shaped at z
    simp only [Bool.and_eq_true, decide_eq_true_eq] at z
    omega
  exact PySem.W.lt_data r1 r2 al (fun z => nomatch z) (by omega) ⟨.bl _, H, I, rfl, q⟩
theorem od_ltT : OpD X (rLtT X.K) gLtT := by
  intro Γ σ H G s v w a b r Q S v1 v2 hg hq
  unfold gLtT at hg
  split at hg
  · rename_i ds es
    by_cases hx : (PySem.W.alike (.tuple ds) (.tuple es) && SeqAt.shaped (.tuple ds)) = true
    · rw [if_pos hx] at hg
      cases hg
      obtain ⟨s1, s2⟩ := Bool.and_eq_true_iff.mp hx
      exact ⟨ds, es, v1.dp S.sub, v2.dp S.sub, s1, s2, hq _ H G S .refl (.new (fa := Γ.fa) (.bl _))⟩
    · rw [if_neg hx] at hg; cases hg
  · cases hg
theorem c_ltT (hu : X.A.units + 65 < cLine) (h : P2d X Γ a b f) : CmpD X Γ (.Compare a [.Lt] [b] pos) (fBin f gLtT) := cd_cmp h (op_ltT hu) od_ltT (nomark _)
end
end PD

set_option Elab.async false
set_option linter.all false
set_option maxRecDepth 100000
set_option maxHeartbeats 1000000
/-! PEe: list(zip(a, b)): the zip's turns behind its first tuple; the list's loop. -/
namespace ZL
open PySem
open PySem.Sem (wp)
section
variable {prog : Program} {w : World} {A : Around} {E : Value → Shared → Prop} {s : Shared} {z TI TO i1 i2 : Addr} {fp1 fp2 : List Addr} {n1 n2 i : Nat} {P1 P2 : Nat → Value → Prop} {St1 St2 : Nat → Heap → Prop}
theorem wpAny_alive {M : Model} {a : Addr} {Q : Option Obj → Shared → Prop} (h : Q (s.heap.get? a) s) : wpAny M A (loadIfAlive a) Q E s := fun Γ p hΓ => by
  show wp M Γ (.loadIfAlive a .pure) _ _ p s
  rw [Sem.wp_loadIfAlive]
  exact wpAny_pure (E := E) h Γ p hΓ
abbrev IsZ (h : Heap) (z TI TO : Addr) (f0 : Value) (b1 : Bool) : Prop := h.get? z = some { cls := .type "zip", dict := none, data := .fields #[f0, .bool b1, .bool false, .ref TI, .ref TO], slots := #[] }
theorem isFree_no {T : Addr} {oT : Obj} {b1 : Bool} {Q : Bool → Shared → Prop} (hz : IsZ s.heap z TI TO (rawInt T) b1) (hT : s.heap.get? T = some oT) (h : ∀ h', IsZ h' z TI TO (rawInt T) true → Heap.SameBut z s.heap h' → Q false { s with heap := h' }) :
    wpAny (model prog w) A (Builtin.SmallTypes.ownedTupleIsFree (.ref z)) Q E s := by
  unfold Builtin.SmallTypes.ownedTupleIsFree
  refine wpAny_bind (wpAny_field hz rfl (x := rawInt T) rfl ?_)
  show wpAny _ _ (loadIfAlive ((T : Int).toNat) >>= _) _ _ s
  refine wpAny_bind (wpAny_alive ?_)
  rw [Int.toNat_natCast, hT]
  simp only [Option.isNone_some, Bool.false_eq_true, if_false]
  refine wpAny_bind (wpAny_field hz rfl (x := .bool b1) rfl ?_)
  cases b1 with
  | true =>
    rw [if_neg (by decide)]
    have e : s = { s with heap := s.heap } := by cases s; rfl
    rw [e]
    exact wpAny_bind (wpAny_pure (wpAny_pure (h s.heap hz (Heap.SameBut.refl _ _))))
  | false =>
    rw [if_pos (by decide)]
    exact wpAny_bind (wpAny_setField_rec hz (by simp) fun h1 hz1 hs1 => wpAny_pure (h h1 hz1 hs1))
theorem zip_later {T : Addr} {oT : Obj} {b1 : Bool} {Q : Value → Shared → Prop} (S : ZipSep2 z TI TO i1 i2 fp1 fp2) (D1 : Draws prog w A i1 fp1 n1 P1 St1) (D2 : Draws prog w A i2 fp2 n2 P2 St2)
    (hz : IsZ s.heap z TI TO (rawInt T) b1) (hT : s.heap.get? T = some oT) (hTI : IsTupOf2 s.heap TI (.ref i1) (.ref i2)) (st1 : St1 i s.heap) (st2 : St2 i s.heap) (hlt1 : i < n1) (hlt2 : i < n2)
    (hQ : ∀ x1 x2 h' tk, P1 i x1 → P2 i x2 → IsZ h' z TI TO (rawInt T) true → St1 (i + 1) h' → St2 (i + 1) h' → IsTupOf2 h' s.heap.objs.size x1 x2 → h'.objs.size = s.heap.objs.size + 1 →
      (∀ c o, c ≠ z → c ≠ i1 → c ≠ i2 → s.heap.get? c = some o → h'.get? c = some o) → Q (.ref s.heap.objs.size) { s with heap := h', toks := tk }) :
    wpAny (model prog w) A (Builtin.«zip.__next__» ⟨[.ref z], []⟩) (fun fin s' => ∃ v, fin = .done (.ret v) ∧ Q v s') E s := by
  obtain ⟨hp, g, d, tk0, os⟩ := s
  show wpAny _ _ (field (.ref z) 2 >>= _) _ _ _
  refine wpAny_bind (wpAny_field hz rfl (x := .bool false) rfl ?_)
  show wpAny _ _ (field (.ref z) 3 >>= _) _ _ _
  refine wpAny_bind (wpAny_field hz rfl (x := .ref TI) rfl ?_)
  refine wpAny_bind (wpAny_seqItems hTI rfl ?_)
  show wpAny _ _ (Builtin.SmallTypes.ownedTupleIsFree (.ref z) >>= _) _ _ _
  refine wpAny_bind (isFree_no hz hT fun g0 hz0 hs0 => ?_)
  replace hs0 : Heap.SameBut z hp g0 := hs0
  simp only [Bool.false_eq_true, if_false]
  refine wpAny_bind ?_
  rw [← Array.forIn_toList]
  simp only [List.forIn_cons, List.forIn_nil]
  refine wpAny_bind (wpAny_bind (wpAny_holding ?_))
  show wpAny _ _ (Builtin.SmallTypes.nextOf (.ref i1) >>= _) _ _ ⟨g0, g, d, tk0, os⟩
  refine wpAny_bind (D1.item i _ _ _ hlt1 (D1.over st1 hs0 S.zf1) fun x1 p1 tk1 hx1 sn1 hp1 => wpAny_pure ?_)
  replace hp1 : Heap.SameBut i1 g0 p1 := hp1
  refine wpAny_pure ?_
  refine wpAny_bind (wpAny_bind (wpAny_holding ?_))
  show wpAny _ _ (Builtin.SmallTypes.nextOf (.ref i2) >>= _) _ _ ⟨p1, g, d, tk1, os⟩
  refine wpAny_bind (D2.item i _ _ _ hlt2 (D2.over (D2.over st2 hs0 S.zf2) hp1 S.sep1_2) fun x2 p2 tk2 hx2 sn2 hp2 => wpAny_pure ?_)
  replace hp2 : Heap.SameBut i2 p1 p2 := hp2
  refine wpAny_pure ?_
  refine wpAny_pure ?_
  show wpAny _ _ (newTuple [x1, x2] >>= fun v => ret v) _ _ _
  refine wpAny_bind (wpAny_newTuple (wpAny_pure ⟨_, rfl, ?_⟩))
  have hsz : p2.objs.size = hp.objs.size := by rw [hp2.1, hp1.1, hs0.1]
  have hz2 : IsZ p2 z TI TO (rawInt T) true := hp2.extBut _ _ S.zi2 (hp1.extBut _ _ S.zi1 hz0)
  have hkk : ∀ c o, c ≠ z → c ≠ i1 → c ≠ i2 → hp.get? c = some o → p2.get? c = some o := fun c o cz c1 c2 e => hp2.extBut _ _ c2 (hp1.extBut _ _ c1 (hs0.extBut _ _ cz e))
  show Q (.ref p2.objs.size) ⟨p2.push { cls := .type "tuple", data := .seq #[x1, x2] }, g, d, tk2, os⟩
  have hnew : (p2.push { cls := .type "tuple", data := .seq #[x1, x2] }).get? p2.objs.size = some { cls := .type "tuple", data := .seq #[x1, x2] } := Heap.get?_push_size _ rfl
  rw [hsz] at hnew ⊢
  exact hQ x1 x2 _ tk2 hx1 hx2 (Heap.get?_push_of_some _ hz2) (D1.frame _ _ _ (D1.over sn1 hp2 S.sep2_1) fun b hb o e => Heap.get?_push_of_some _ e) (D2.frame _ _ _ sn2 fun b hb o e => Heap.get?_push_of_some _ e) hnew (by rw [Heap.size_push, hsz])
    fun c o cz c1 c2 e => Heap.get?_push_of_some _ (hkk c o cz c1 c2 e)
theorem zip_later_end {T : Addr} {oT : Obj} {b1 : Bool} {Q : Fin → Shared → Prop} (S : ZipSep2 z TI TO i1 i2 fp1 fp2) (D1 : Draws prog w A i1 fp1 n1 P1 St1) (D2 : Draws prog w A i2 fp2 n2 P2 St2)
    (hz : IsZ s.heap z TI TO (rawInt T) b1) (hT : s.heap.get? T = some oT) (hTI : IsTupOf2 s.heap TI (.ref i1) (.ref i2)) (st1 : St1 i s.heap) (st2 : St2 i s.heap) (hle1 : i ≤ n1) (hle2 : i ≤ n2) (hend : i = n1 ∨ i = n2)
    (hE : ∀ h' tk e, (∀ c o, c ≠ z → c ≠ i1 → c ≠ i2 → s.heap.get? c = some o → h'.get? c = some o) → (∃ o, h'.get? e = some o ∧ o.cls = .type "StopIteration") → E (.ref e) { s with heap := h', toks := tk }) :
    wpAny (model prog w) A (Builtin.«zip.__next__» ⟨[.ref z], []⟩) Q E s := by
  obtain ⟨hp, g, d, tk0, os⟩ := s
  show wpAny _ _ (field (.ref z) 2 >>= _) _ _ _
  refine wpAny_bind (wpAny_field hz rfl (x := .bool false) rfl ?_)
  show wpAny _ _ (field (.ref z) 3 >>= _) _ _ _
  refine wpAny_bind (wpAny_field hz rfl (x := .ref TI) rfl ?_)
  refine wpAny_bind (wpAny_seqItems hTI rfl ?_)
  show wpAny _ _ (Builtin.SmallTypes.ownedTupleIsFree (.ref z) >>= _) _ _ _
  refine wpAny_bind (isFree_no hz hT fun g0 hz0 hs0 => ?_)
  replace hs0 : Heap.SameBut z hp g0 := hs0
  simp only [Bool.false_eq_true, if_false]
  refine wpAny_bind ?_
  rw [← Array.forIn_toList]
  simp only [List.forIn_cons, List.forIn_nil]
  refine wpAny_bind (wpAny_bind (wpAny_holding ?_))
  show wpAny _ _ (Builtin.SmallTypes.nextOf (.ref i1) >>= _) _ _ ⟨g0, g, d, tk0, os⟩
  by_cases h1 : i = n1
  · subst h1
    exact wpAny_bind (D1.done ⟨g0, g, d, tk0, os⟩ _ _ (D1.over st1 hs0 S.zf1) fun h' e k he => hE h' tk0 e (fun c o cz c1 c2 x => k c o c1 (hs0.extBut _ _ cz x)) he)
  · have h2 : i = n2 := by rcases hend with q | q; exact absurd q h1; exact q
    refine wpAny_bind (D1.item i _ _ _ (by omega) (D1.over st1 hs0 S.zf1) fun x1 p1 tk1 hx1 sn1 hp1 => wpAny_pure ?_)
    replace hp1 : Heap.SameBut i1 g0 p1 := hp1
    refine wpAny_pure ?_
    refine wpAny_bind (wpAny_bind (wpAny_holding ?_))
    show wpAny _ _ (Builtin.SmallTypes.nextOf (.ref i2) >>= _) _ _ ⟨p1, g, d, tk1, os⟩
    subst h2
    exact wpAny_bind (D2.done ⟨p1, g, d, tk1, os⟩ _ _ (D2.over (D2.over st2 hs0 S.zf2) hp1 S.sep1_2) fun h' e k he => hE h' tk1 e (fun c o cz c1 c2 x => k c o c2 (hp1.extBut _ _ c1 (hs0.extBut _ _ cz x))) he)
/-- the zip, before or behind its first tuple -/
def ZSt (N : Nat) (h : Heap) (z TI TO : Addr) : Prop := IsZip h z TI TO .none ∨ ∃ (T : Addr) (oT : Obj) (b1 : Bool), N ≤ T ∧ IsZ h z TI TO (rawInt T) b1 ∧ h.get? T = some oT
theorem ZSt.typeIs {N : Nat} (h : ZSt N s.heap z TI TO) : s.TypeIs (.ref z) "zip" := by
  rcases h with h | ⟨T, oT, b1, _, h, _⟩
  · exact ⟨_, h, rfl⟩
  · exact ⟨_, h, rfl⟩
theorem ne_low {N T z : Nat} (h : N ≤ T) (hz : z < N) : T ≠ z := fun e => by omega
theorem next_item {N : Nat} {Q : Option Value → Shared → Prop} (S : ZipSep2 z TI TO i1 i2 fp1 fp2) (D1 : Draws prog w A.in1 i1 fp1 n1 P1 St1) (D2 : Draws prog w A.in1 i2 fp2 n2 P2 St2)
    (hz : ZSt N s.heap z TI TO) (hTI : IsTupOf2 s.heap TI (.ref i1) (.ref i2)) (hTO : ∃ a1 a2, IsTupOf2 s.heap TO a1 a2) (st1 : St1 i s.heap) (st2 : St2 i s.heap) (hlt1 : i < n1) (hlt2 : i < n2) (hN : N ≤ s.heap.objs.size) (hzN : z < N) (h1N : i1 < N) (h2N : i2 < N)
    (hQ : ∀ x1 x2 h' tk, P1 i x1 → P2 i x2 → ZSt N h' z TI TO → (∃ a1 a2, IsTupOf2 h' TO a1 a2) → St1 (i + 1) h' → St2 (i + 1) h' → IsTupOf2 h' s.heap.objs.size x1 x2 → h'.objs.size = s.heap.objs.size + 1 →
      (∀ c o, c ≠ z → c ≠ TO → c ≠ i1 → c ≠ i2 → s.heap.get? c = some o → h'.get? c = some o) → Q (some (.ref s.heap.objs.size)) { s with heap := h', toks := tk }) :
    wpAny (model prog w) A (pyNext (.ref z)) Q E s := by
  obtain ⟨a1, a2, hTO⟩ := hTO
  rcases hz with hz | ⟨T, oT, b1, hNT, hz, hT⟩
  · refine wpAny_pyNext_zipD2_item S D1 D2 hz hTI hTO st1 st2 hlt1 hlt2 fun x1 x2 h' tk y1 y2 b1 b2 d1 d2 b5 b6 b7 => hQ x1 x2 h' tk y1 y2 (.inr ⟨s.heap.objs.size, _, false, hN, b1, b5⟩) ⟨_, _, b2⟩ d1 d2 b5 b6 b7
  · have hT2 : s.TypeIs (.ref z) "zip" := ⟨_, hz, rfl⟩
    unfold pyNext
    refine wpAny_bind (wpAny_attempt (wpAny_callSpecial?_slot (name := Str.ofString "__next__") hT2 F.slot_zip_next
      (wpAny_call_entry F.slot_zip_next hT2 F.entry_zip_next
        (zip_later S D1 D2 hz hT hTI st1 st2 hlt1 hlt2 fun x1 x2 h' tk y1 y2 b1 d1 d2 b5 b6 b7 => wpAny_pure (hQ x1 x2 h' tk y1 y2 (.inr ⟨T, oT, true, hNT, b1, b7 _ _ (ne_low hNT hzN) (ne_low hNT h1N) (ne_low hNT h2N) hT⟩) ⟨a1, a2, b7 _ _ S.TOz S.Ti1 S.Ti2 hTO⟩ d1 d2 b5 b6 fun c o cz _ c1 c2 e => b7 c o cz c1 c2 e)) (F.args_zip_next_1 _))))
theorem next_end {N : Nat} {Q : Option Value → Shared → Prop} (S : ZipSep2 z TI TO i1 i2 fp1 fp2) (D1 : Draws prog w A.in1 i1 fp1 n1 P1 St1) (D2 : Draws prog w A.in1 i2 fp2 n2 P2 St2)
    (hz : ZSt N s.heap z TI TO) (hTI : IsTupOf2 s.heap TI (.ref i1) (.ref i2)) (hTO : ∃ a1 a2, IsTupOf2 s.heap TO a1 a2) (st1 : St1 i s.heap) (st2 : St2 i s.heap) (hle1 : i ≤ n1) (hle2 : i ≤ n2) (hend : i = n1 ∨ i = n2)
    (hQ : ∀ h' tk, (∀ c o, c ≠ z → c ≠ TO → c ≠ i1 → c ≠ i2 → s.heap.get? c = some o → h'.get? c = some o) → Q none { s with heap := h', toks := tk }) : wpAny (model prog w) A (pyNext (.ref z)) Q E s := by
  obtain ⟨a1, a2, hTO⟩ := hTO
  rcases hz with hz | ⟨T, oT, b1, hNT, hz, hT⟩
  · exact wpAny_pyNext_zipD2_end S D1 D2 hz hTI hTO st1 st2 hle1 hle2 hend hQ
  · have hT2 : s.TypeIs (.ref z) "zip" := ⟨_, hz, rfl⟩
    unfold pyNext
    refine wpAny_bind (wpAny_attempt (wpAny_callSpecial?_slot (name := Str.ofString "__next__") hT2 F.slot_zip_next
      (wpAny_call_entry F.slot_zip_next hT2 F.entry_zip_next (zip_later_end S D1 D2 hz hT hTI st1 st2 hle1 hle2 hend fun h' tk e hk he => ?_) (F.args_zip_next_1 _))))
    obtain ⟨o, ho, hc⟩ := he
    refine wpAny_bind (wpAny_isInstance (T := "StopIteration") (b := true) ⟨o, ho, hc⟩ isSubtype_stop ?_)
    exact wpAny_pure (hQ _ _ fun c o cz _ c1 c2 e => hk c o cz c1 c2 e)
/-- the list's loop: what stands at turn i. M: what stood before; N: below it all that the loop writes -/
structure LS (h0 : Heap) (M N : Nat) (P1 P2 : Nat → Value → Prop) (St1 St2 : Nat → Heap → Prop) (S z TI TO i1 i2 : Addr) (i : Nat) (acc : List (Addr × Value × Value)) (h : Heap) : Prop where
  zip : ZSt N h z TI TO
  ti : IsTupOf2 h TI (.ref i1) (.ref i2)
  to : ∃ a1 a2, IsTupOf2 h TO a1 a2
  s1 : St1 i h
  s2 : St2 i h
  lst : ∃ c, h.get? S = some { cls := .type "list", dict := none, data := .seq (acc.map fun p => Value.ref p.1).toArray c, slots := #[] }
  len : acc.length = i
  new : ∀ p ∈ acc, N ≤ p.1 ∧ IsTupOf2 h p.1 p.2.1 p.2.2
  nod : (acc.map (·.1)).Nodup
  val : ∀ j p, acc[j]? = some p → P1 j p.2.1 ∧ P2 j p.2.2
  old : ∀ b o, b < M → h0.get? b = some o → h.get? b = some o
  big : N ≤ h.objs.size
/-- .. and when it is done -/
structure LD (h0 : Heap) (M N : Nat) (P1 P2 : Nat → Value → Prop) (S : Addr) (n : Nat) (acc : List (Addr × Value × Value)) (h : Heap) : Prop where
  lst : ∃ c, h.get? S = some { cls := .type "list", dict := none, data := .seq (acc.map fun p => Value.ref p.1).toArray c, slots := #[] }
  len : acc.length = n
  new : ∀ p ∈ acc, N ≤ p.1 ∧ IsTupOf2 h p.1 p.2.1 p.2.2
  nod : (acc.map (·.1)).Nodup
  val : ∀ j p, acc[j]? = some p → P1 j p.2.1 ∧ P2 j p.2.2
  old : ∀ b o, b < M → h0.get? b = some o → h.get? b = some o
theorem low_ne {b M z : Nat} (h : b < M) (hz : M ≤ z) : b ≠ z := fun e => by omega
theorem list_loop {h0 : Heap} {M N : Nat} {R : Result → Shared → Prop} {res : Value} {Sa : Addr} (S : ZipSep2 z TI TO i1 i2 fp1 fp2) (D1 : Draws prog w A.in1.in1 i1 fp1 n1 P1 St1) (D2 : Draws prog w A.in1.in1 i2 fp2 n2 P2 St2)
    (hz : z < N ∧ M ≤ z) (hTO : TO < N ∧ M ≤ TO) (h1 : i1 < N ∧ M ≤ i1) (h2 : i2 < N ∧ M ≤ i2) (hS : Sa < N ∧ M ≤ Sa) (hTI : TI ≠ Sa) (nz : Sa ≠ z) (nT : Sa ≠ TO) (n1' : Sa ≠ i1) (n2' : Sa ≠ i2) (hf1 : Sa ∉ fp1) (hf2 : Sa ∉ fp2) (hn : min n1 n2 ≤ sizeLine)
    (hR : ∀ h tk acc, LD h0 M N P1 P2 Sa (min n1 n2) acc h → R (.ok (.ret res)) { s with heap := h, toks := tk }) :
    ∀ (k i : Nat) (h : Heap) (tk : Nat) (acc : List (Addr × Value × Value)), min n1 n2 - i = k → i ≤ min n1 n2 → LS h0 M N P1 P2 St1 St2 Sa z TI TO i1 i2 i acc h →
      codeAny (model prog w) A (.builtin "list.extend.loop" ⟨[.ref Sa, .ref z, res], []⟩) R { s with heap := h, toks := tk } := by
  intro k
  induction k with
  | zero =>
    intro i h tk acc hk hi L
    have hin : i = min n1 n2 := by omega
    subst hin
    refine codeAny_builtin F.entry_extend_loop ?_
    rw [Around.under_plainId F.plain_extend_loop _]
    show wpAny _ A.in1 (pyNext (.ref z) >>= _) _ _ _
    refine wpAny_bind (next_end (s := { s with heap := h, toks := tk }) S D1 D2 L.zip L.ti L.to L.s1 L.s2 (by omega) (by omega) (by omega) fun h' tk' kp => ?_)
    refine wpAny_pure (hR h' tk' acc ⟨?_, L.len, fun p hp => ?_, L.nod, L.val, fun b o hb e => kp b o (low_ne hb hz.2) (low_ne hb hTO.2) (low_ne hb h1.2) (low_ne hb h2.2) (L.old b o hb e)⟩)
    · obtain ⟨c, e⟩ := L.lst
      exact ⟨c, kp _ _ nz nT n1' n2' e⟩
    · obtain ⟨q1, q2⟩ := L.new p hp
      exact ⟨q1, kp _ _ (ne_low q1 hz.1) (ne_low q1 hTO.1) (ne_low q1 h1.1) (ne_low q1 h2.1) q2⟩
  | succ k ih =>
    intro i h tk acc hk hi L
    refine codeAny_builtin F.entry_extend_loop ?_
    rw [Around.under_plainId F.plain_extend_loop _]
    show wpAny _ A.in1 (pyNext (.ref z) >>= _) _ _ _
    refine wpAny_bind (next_item (s := { s with heap := h, toks := tk }) S D1 D2 L.zip L.ti L.to L.s1 L.s2 (by omega) (by omega) L.big hz.1 h1.1 h2.1 fun x1 x2 h' tk' y1 y2 zz to' t1 t2 tu hsz kp => ?_)
    obtain ⟨c, e⟩ := L.lst
    have e' := kp _ _ nz nT n1' n2' e
    have tu' : IsTupOf2 h' h.objs.size x1 x2 := tu
    have hsz' : h'.objs.size = h.objs.size + 1 := hsz
    show wpAny _ A.in1 (updateSeq Sa (·.push (.ref h.objs.size)) >>= _) _ _ _
    have hlen : (acc.map fun p => Value.ref p.1).toArray.size = i := by rw [List.size_toArray, List.length_map, L.len]
    have sb : Heap.SameBut Sa h' (h'.update Sa (Obj.mapSeq (·.push (.ref h.objs.size)))) := Heap.SameBut.update ..
    have hSn : Sa < h.objs.size := Nat.lt_of_lt_of_le hS.1 L.big
    refine wpAny_bind ?_
    refine wpAny_updateSeq e' rfl (wpAny_pure ⟨plainId_quiet F.plain_extend_loop _, ih (i + 1) _ tk' (acc ++ [(h.objs.size, x1, x2)]) (by omega) (by omega) ?_⟩) (by rw [hlen]; omega) (by rw [Array.size_push, hlen]; omega)
    have up : ∀ b o, b ≠ Sa → h'.get? b = some o → (h'.update Sa (Obj.mapSeq (·.push (.ref h.objs.size)))).get? b = some o := fun b o hb e => (sb.2 b hb).trans e
    have hz' : Sa ≠ z := nz
    refine ⟨?_, up _ _ hTI (kp _ _ S.TIz S.TITO S.TIi1 S.TIi2 L.ti), ?_, D1.frame _ _ _ t1 fun b hb o e => up b o (fun q => hf1 (q ▸ hb)) e, D2.frame _ _ _ t2 fun b hb o e => up b o (fun q => hf2 (q ▸ hb)) e, ?_, ?_, fun p hp => ?_, ?_, fun j p hj => ?_, fun b o hb q => ?_, ?_⟩
    · rcases zz with q | ⟨T, oT, b1, q1, q2, q3⟩
      · exact .inl (up _ _ nz.symm q)
      · exact .inr ⟨T, oT, b1, q1, up _ _ nz.symm q2, up _ _ (ne_low q1 hS.1) q3⟩
    · obtain ⟨a1, a2, q⟩ := to'
      exact ⟨a1, a2, up _ _ nT.symm q⟩
    · have g := Heap.get?_update_self (Obj.mapSeq (·.push (.ref h.objs.size))) e' rfl
      rw [List.map_append, List.map_cons, List.map_nil]
      have e9 : ((acc.map fun p => Value.ref p.1) ++ [Value.ref h.objs.size]).toArray = (acc.map fun p => Value.ref p.1).toArray.push (.ref h.objs.size) := by simp
      rw [e9]
      exact ⟨_, g⟩
    · rw [List.length_append, L.len]; rfl
    · rcases List.mem_append.mp hp with q | q
      · obtain ⟨q1, q2⟩ := L.new p q
        exact ⟨q1, up _ _ (ne_low q1 hS.1) (kp _ _ (ne_low q1 hz.1) (ne_low q1 hTO.1) (ne_low q1 h1.1) (ne_low q1 h2.1) q2)⟩
      · rw [List.mem_singleton.mp q]
        exact ⟨L.big, up _ _ (Nat.ne_of_gt hSn) tu'⟩
    · rw [List.map_append, List.map_cons, List.map_nil]
      refine List.nodup_append.mpr ⟨L.nod, by simp, fun a ha b hb => ?_⟩
      rw [List.mem_singleton.mp hb]
      obtain ⟨p, hp, rfl⟩ := List.mem_map.mp ha
      exact Nat.ne_of_lt (Heap.lt_size (L.new p hp).2)
    · by_cases hji : j < i
      · rw [List.getElem?_append_left (by rw [L.len]; exact hji)] at hj
        exact L.val j p hj
      · rw [List.getElem?_append_right (by rw [L.len]; omega), L.len] at hj
        have : j - i = 0 := by
          rcases Nat.eq_zero_or_pos (j - i) with q | q
          · exact q
          · rw [List.getElem?_eq_none (by simp; omega)] at hj; cases hj
        have hji2 : j = i := by omega
        subst hji2
        rw [this] at hj
        cases hj
        exact ⟨y1, y2⟩
    · exact up _ _ (low_ne hb hS.2) (kp b o (low_ne hb hz.2) (low_ne hb hTO.2) (low_ne hb h1.2) (low_ne hb h2.2) (L.old b o hb q))
    · have := sb.1
      rw [this, hsz']
      exact Nat.le_succ_of_le L.big
end
end ZL

set_option Elab.async false
set_option linter.all false
set_option maxRecDepth 100000
set_option maxHeartbeats 1000000
/-! PEf: list(zip(a, b)): the call. -/
namespace ZL
open PySem
open PySem.Sem (wp)
theorem zip_no_len : typeLookup (.type "zip") "__len__" = pure none := by rw [typeLookup_type, builtinLookup_eq_fast]; kernel_rfl
theorem zip_no_hint : typeLookup (.type "zip") "__length_hint__" = pure none := by rw [typeLookup_type, builtinLookup_eq_fast]; kernel_rfl
section
variable {prog : Program} {w : World} {A : Around} {E : Value → Shared → Prop} {s : Shared} {z TI TO i1 i2 Sa : Addr} {fp1 fp2 : List Addr} {n1 n2 i : Nat} {P1 P2 : Nat → Value → Prop} {St1 St2 : Nat → Heap → Prop} {h0 h h' : Heap} {M N : Nat}
theorem LS.same {A' : Around} (L : LS h0 M N P1 P2 St1 St2 Sa z TI TO i1 i2 0 [] h) (D1 : Draws prog w A' i1 fp1 n1 P1 St1) (D2 : Draws prog w A' i2 fp2 n2 P2 St2) (sb : Heap.SameBut Sa h h') (hl : ∃ c, h'.get? Sa = some { cls := .type "list", dict := none, data := .seq #[] c, slots := #[] })
    (hS : Sa < N ∧ M ≤ Sa) (hTI : TI ≠ Sa) (nz : Sa ≠ z) (nT : Sa ≠ TO) (hf1 : Sa ∉ fp1) (hf2 : Sa ∉ fp2) : LS h0 M N P1 P2 St1 St2 Sa z TI TO i1 i2 0 [] h' := by
  have up : ∀ b o, b ≠ Sa → h.get? b = some o → h'.get? b = some o := fun b o hb e => (sb.2 b hb).trans e
  refine ⟨?_, up _ _ hTI L.ti, ?_, D1.frame _ _ _ L.s1 fun b hb o e => up b o (fun q => hf1 (q ▸ hb)) e, D2.frame _ _ _ L.s2 fun b hb o e => up b o (fun q => hf2 (q ▸ hb)) e, hl, rfl, fun p hp => (by cases hp), List.nodup_nil, fun j p hj => (by simp at hj), fun b o hb q => up _ _ (low_ne hb hS.2) (L.old b o hb q), by rw [sb.1]; exact L.big⟩
  · rcases L.zip with q | ⟨T, oT, b1, q1, q2, q3⟩
    · exact .inl (up _ _ nz.symm q)
    · exact .inr ⟨T, oT, b1, q1, up _ _ nz.symm q2, up _ _ (ne_low q1 hS.1) q3⟩
  · obtain ⟨a1, a2, q⟩ := L.to
    exact ⟨a1, a2, up _ _ nT.symm q⟩
theorem zl_init {R : Result → Shared → Prop} (S : ZipSep2 z TI TO i1 i2 fp1 fp2) (D1 : Draws prog w A.in1.in1 i1 fp1 n1 P1 St1) (D2 : Draws prog w A.in1.in1 i2 fp2 n2 P2 St2) (hz0 : IsZip s.heap z TI TO .none)
    (hz : z < N ∧ M ≤ z) (hTO : TO < N ∧ M ≤ TO) (h1 : i1 < N ∧ M ≤ i1) (h2 : i2 < N ∧ M ≤ i2) (hS : Sa < N ∧ M ≤ Sa) (hTI : TI ≠ Sa) (nz : Sa ≠ z) (nT : Sa ≠ TO) (n1' : Sa ≠ i1) (n2' : Sa ≠ i2) (hf1 : Sa ∉ fp1) (hf2 : Sa ∉ fp2) (hn : min n1 n2 ≤ sizeLine)
    (L : LS h0 M N P1 P2 St1 St2 Sa z TI TO i1 i2 0 [] s.heap) (hl0 : s.heap.get? Sa = some { cls := .type "list", data := .seq #[] })
    (hR : ∀ h tk acc, LD h0 M N P1 P2 Sa (min n1 n2) acc h → R (.ok (.ret .none)) { s with heap := h, toks := tk }) :
    wpAny (model prog w) A.in1 (Builtin.«list.__init__» ⟨[.ref Sa, .ref z], []⟩)
      (fun fin s' => match fin with | .done f => R (.ok f) s' | .again c' => c'.quiet = true ∧ codeAny (model prog w) A c' R s') (fun e s' => R (.error e) s') s := by
  obtain ⟨hp, g, d, tk0, os⟩ := s
  show wpAny _ _ (do let old ← Builtin.List.listItems (.ref Sa); Builtin.List.listUpdate (.ref Sa) (fun _ => #[]); letGo old.toList.reverse; Builtin.List.listExtendWith (.ref Sa) (.ref z) .none) _ _ _
  refine wpAny_bind ?_
  unfold Builtin.List.listItems
  refine wpAny_bind (wpAny_seqItems hl0 rfl (wpAny_pure ?_))
  show wpAny _ _ (updateSeq Sa (fun _ => #[]) >>= fun _ => letGo (#[] : Array Value).toList.reverse >>= fun _ => Builtin.List.listExtendWith (.ref Sa) (.ref z) .none) _ _ _
  refine wpAny_bind (wpAny_updateSeq hl0 rfl ?_)
  have g1 := Heap.get?_update_self (Obj.mapSeq (fun _ => (#[] : Array Value))) hl0 rfl
  have sb1 : Heap.SameBut Sa hp (hp.update Sa (Obj.mapSeq (fun _ => (#[] : Array Value)))) := Heap.SameBut.update ..
  have L1 := L.same D1 D2 sb1 ⟨_, g1⟩ hS hTI nz nT hf1 hf2
  have hz1 : IsZip (hp.update Sa (Obj.mapSeq (fun _ => (#[] : Array Value)))) z TI TO .none := (sb1.2 z nz.symm).trans hz0
  generalize hp.update Sa (Obj.mapSeq (fun _ => (#[] : Array Value))) = hp1 at *
  refine wpAny_bind (wpAny_letGo ?_)
  unfold Builtin.List.listExtendWith
  have hty : (⟨hp1, g, d, tk0, os⟩ : Shared).TypeIs (.ref z) "zip" := ⟨_, hz1, rfl⟩
  refine wpAny_bind (wpAny_typeOf (T := "zip") hty ?_)
  have q1 : Builtin.List.listSameRef (.ref Sa) (.ref z) = false := by simp [Builtin.List.listSameRef, nz]
  have q2 : (Value.type "zip" == Value.type "list") = false := by decide
  have q3 : (Value.type "zip" == Value.type "tuple") = false := by decide
  simp only [q1, q2, q3, Bool.or_false, Bool.false_eq_true, if_false]
  refine wpAny_bind (wpAny_pyIter_zip hz1 ?_)
  refine wpAny_bind ?_
  refine wpAny_holding ?_
  unfold Builtin.List.listLengthHint
  refine wpAny_bind ?_
  refine wpAny_specialOf hty zip_no_len ?_
  show wpAny _ A.in1 (specialOf (Value.ref z) (Str.ofString "__length_hint__") >>= _) _ _ _
  refine wpAny_bind ?_
  refine wpAny_specialOf hty zip_no_hint ?_
  refine wpAny_pure ?_
  show wpAny _ A.in1 (rule "list.extend.makes-room" >>= fun _ => Builtin.List.listTouch (.ref Sa) >>= fun _ =>
    again (.builtin "list.extend.loop" ⟨[.ref Sa, .ref z, .none], []⟩)) _ _ _
  refine wpAny_bind (wpAny_rule ?_)
  refine wpAny_bind ?_
  show wpAny _ A.in1 (updateSeq Sa (·.push .none) >>= fun _ => updateSeq Sa (·.pop)) _ _ _
  refine wpAny_bind ?_
  refine wpAny_updateSeq g1 rfl ?_
  have g2 := Heap.get?_update_self (Obj.mapSeq (·.push Value.none)) g1 rfl
  have sb2 : Heap.SameBut Sa hp1 (hp1.update Sa (Obj.mapSeq (·.push Value.none))) := Heap.SameBut.update ..
  generalize hp1.update Sa (Obj.mapSeq (·.push Value.none)) = hp2 at *
  refine wpAny_updateSeq g2 rfl ?_
  have g3 := Heap.get?_update_self (Obj.mapSeq (·.pop)) g2 rfl
  have sb3 : Heap.SameBut Sa hp2 (hp2.update Sa (Obj.mapSeq (·.pop))) := Heap.SameBut.update ..
  generalize hp2.update Sa (Obj.mapSeq (·.pop)) = hp3 at *
  have L3 := L1.same D1 D2 (sb2.trans sb3) ⟨_, g3⟩ hS hTI nz nT hf1 hf2
  refine wpAny_pure ⟨plainId_quiet F.plain_extend_loop _, ?_⟩
  exact list_loop (s := ⟨hp3, g, d, tk0, os⟩) S D1 D2 hz hTO h1 h2 hS hTI nz nT n1' n2' hf1 hf2 hn hR _ 0 hp3 tk0 [] rfl (Nat.zero_le _) L3
end
end ZL
namespace ZL
open PySem
open PySem.Sem (wp)
section
variable {prog : Program} {w : World} {A : Around} {E : Value → Shared → Prop} {s : Shared} {z TI TO i1 i2 : Addr} {fp1 fp2 : List Addr} {n1 n2 : Nat} {P1 P2 : Nat → Value → Prop} {St1 St2 : Nat → Heap → Prop} {h0 : Heap} {M : Nat}
theorem zl_call {Q : Value → Shared → Prop} (S : ZipSep2 z TI TO i1 i2 fp1 fp2) (D1 : Draws prog w A.in1.in1.in1 i1 fp1 n1 P1 St1) (D2 : Draws prog w A.in1.in1.in1 i2 fp2 n2 P2 St2) (hz0 : IsZip s.heap z TI TO .none) (hTI : IsTupOf2 s.heap TI (.ref i1) (.ref i2))
    (hTO : ∃ a1 a2, IsTupOf2 s.heap TO a1 a2) (st1 : St1 0 s.heap) (st2 : St2 0 s.heap) (old : ∀ b o, b < M → h0.get? b = some o → s.heap.get? b = some o) (hM : M ≤ s.heap.objs.size) (mz : M ≤ z) (mT : M ≤ TO) (m1 : M ≤ i1) (m2 : M ≤ i2)
    (l1 : i1 < s.heap.objs.size) (l2 : i2 < s.heap.objs.size) (hf1 : ∀ b ∈ fp1, b < s.heap.objs.size) (hf2 : ∀ b ∈ fp2, b < s.heap.objs.size) (hn : min n1 n2 ≤ sizeLine)
    (hQ : ∀ h tk acc, LD h0 M (s.heap.objs.size + 1) P1 P2 s.heap.objs.size (min n1 n2) acc h → Q (.ref s.heap.objs.size) { s with heap := h, toks := tk }) : wpAny (model prog w) A (call (.type "list") [.ref z]) Q E s := by
  have lz : z < s.heap.objs.size := Heap.lt_size hz0
  have lT : TO < s.heap.objs.size := by
    obtain ⟨_, _, q⟩ := hTO
    exact Heap.lt_size q
  have lI : TI < s.heap.objs.size := Heap.lt_size hTI
  have low : ∀ {x : Nat}, x < s.heap.objs.size → x < s.heap.objs.size + 1 := fun h => Nat.lt_succ_of_lt h
  refine callType_codes (Q₁ := fun obj s₁ => obj = .ref s.heap.objs.size ∧ s₁ = { s with heap := s.heap.push { cls := .type "list", data := .seq #[] } }) F.called_list (F.typeCall_list_1 _) F.entry_list_init (code_list_new _ ⟨rfl, rfl⟩) fun obj s₁ h₁ => ?_
  obtain ⟨rfl, rfl⟩ := h₁
  have hl : (s.heap.push { cls := .type "list", data := .seq #[] }).get? s.heap.objs.size = some { cls := .type "list", data := .seq #[] } := Heap.get?_push_size _ rfl
  have up : ∀ b o, s.heap.get? b = some o → (s.heap.push { cls := .type "list", data := .seq #[] }).get? b = some o := fun b o e => Heap.get?_push_of_some _ e
  refine ⟨⟨_, hl, rfl⟩, F.args_list_init_2 _ _, zl_init (A := A.in1) (h0 := h0) (M := M) (N := s.heap.objs.size + 1) S D1 D2 (up _ _ hz0) ⟨low lz, mz⟩ ⟨low lT, mT⟩ ⟨low l1, m1⟩ ⟨low l2, m2⟩ ⟨Nat.lt_succ_self _, hM⟩ (Nat.ne_of_lt lI) (Nat.ne_of_gt lz) (Nat.ne_of_gt lT) (Nat.ne_of_gt l1) (Nat.ne_of_gt l2)
    (fun q => Nat.lt_irrefl _ (hf1 _ q)) (fun q => Nat.lt_irrefl _ (hf2 _ q)) hn ?_ hl fun h tk acc L => ⟨rfl, hQ h tk acc L⟩⟩
  obtain ⟨a1, a2, hTO⟩ := hTO
  exact ⟨.inl (up _ _ hz0), up _ _ hTI, ⟨a1, a2, up _ _ hTO⟩, D1.frame _ _ _ st1 fun b _ o e => up b o e, D2.frame _ _ _ st2 fun b _ o e => up b o e, ⟨_, hl⟩, rfl, fun p hp => (by cases hp), List.nodup_nil, fun j p hj => (by simp at hj), fun b o hb e => up _ _ (old b o hb e), by rw [Heap.size_push]; exact Nat.le_refl _⟩
end
end ZL

set_option Elab.async false
set_option linter.all false
set_option maxRecDepth 100000
set_option maxHeartbeats 1000000
/-! PEg: list(zip(a, b)) as data. -/
namespace PD
open PySem PySem.Spec PyProof.Rows L2
def updL : Hp → List (Addr × HO) → Hp
  | H, [] => H
  | H, (a, o) :: r => updL (upd H a o) r
theorem updL_out : ∀ (ts : List (Addr × HO)) (H : Hp) {b : Addr}, b ∉ ts.map (·.1) → updL H ts b = H b
  | [], H, b, _ => rfl
  | (a, o) :: r, H, b, h => by
    rw [List.map_cons, List.mem_cons, not_or] at h
    show updL (upd H a o) r b = H b
    rw [updL_out r _ h.2, upd_ne h.1]
theorem updL_in : ∀ (ts : List (Addr × HO)) (H : Hp), (ts.map (·.1)).Nodup → ∀ p ∈ ts, updL H ts p.1 = some p.2
  | (a, o) :: r, H, hn, p, hp => by
    rw [List.map_cons, List.nodup_cons] at hn
    show updL (upd H a o) r p.1 = some p.2
    rcases List.mem_cons.mp hp with z | z
    · rw [z, updL_out r _ hn.1, upd_same]
    · exact updL_in r _ hn.2 p z
theorem inv_many {X : Cx} {pins : List (Addr × Obj)} {σ : L2.St} {H : Hp} {s : Shared} {h' : Heap} {t' : Nat} (ts : List (Addr × HO)) (I : Inv X pins σ H s) (k : ∀ b u, s.heap.get? b = some u → h'.get? b = some u) (hp : ∀ p ∈ ts, s.heap.objs.size ≤ p.1) (hn : (ts.map (·.1)).Nodup)
    (new : ∀ p ∈ ts, ObjOk X.prog X.w (updL H ts) h' p.1 p.2) : Inv X pins σ (updL H ts) { s with heap := h', toks := t' } := by
  have out : ∀ b, b < s.heap.objs.size → updL H ts b = H b := fun b hb => updL_out ts H fun z => by
    obtain ⟨p, h1, rfl⟩ := List.mem_map.mp z
    exact absurd (hp p h1) (Nat.not_le.mpr hb)
  have inn : ∀ b u, H b = some u → updL H ts b = some u := fun b u e => by rw [out b (I.hok.lt e)]; exact e
  refine I.un ⟨fun b o e _ _ _ => k b o e, fun b o e _ _ _ => ⟨o.slots, k b o e⟩, fun b o e n _ => ?_, fun b o e _ => ⟨o, k b o e⟩, fun b xs e => inn b _ e, fun b o u e => inn b _ e, fun b ps e => ⟨#[], by rw [inn b _ e]; simp⟩⟩ fun b u e => ?_
  · rw [out b (Heap.lt_size e)]
    exact n
  · by_cases hb : b ∈ ts.map (·.1)
    · obtain ⟨p, h1, rfl⟩ := List.mem_map.mp hb
      rw [updL_in ts H hn p h1] at e
      cases e
      exact new p h1
    · rw [updL_out ts H hb] at e
      exact (I.hok b u e).stay (fun c v _ q => k c v q) (fun c q => inn c _ q) fun c xs q => inn c _ q
/-- the new tuples with what they hold -/
def pairsO : List (Addr × Obj) → List V → List V → List (Addr × HO)
  | (a, o) :: r, x :: xs, y :: ys => (a, .frz o (.tup [x, y])) :: pairsO r xs ys
  | _, _, _ => []
theorem pairsO_keys : ∀ (ts : List (Addr × Obj)) (xs ys : List V), ts.length = min xs.length ys.length → (pairsO ts xs ys).map (·.1) = ts.map (·.1)
  | [], _, _, _ => by simp [pairsO]
  | (a, o) :: r, [], _, h => by simp at h
  | (a, o) :: r, _ :: _, [], h => by simp at h
  | (a, o) :: r, x :: xs, y :: ys, h => by
    rw [pairsO, List.map_cons, List.map_cons, pairsO_keys r xs ys (by simpa using h)]
theorem pairsO_get : ∀ (ts : List (Addr × Obj)) (xs ys : List V) (p : Addr × HO), p ∈ pairsO ts xs ys → ∃ (j : Nat) (a : Addr) (o : Obj) (x y : V), ts[j]? = some (a, o) ∧ xs[j]? = some x ∧ ys[j]? = some y ∧ p = (a, .frz o (.tup [x, y]))
  | [], _, _, p, h => by simp [pairsO] at h
  | (a, o) :: r, [], _, p, h => by simp [pairsO] at h
  | (a, o) :: r, _ :: _, [], p, h => by simp [pairsO] at h
  | (a, o) :: r, x :: xs, y :: ys, p, h => by
    rw [pairsO] at h
    rcases List.mem_cons.mp h with z | z
    · exact ⟨0, a, o, x, y, rfl, rfl, rfl, z⟩
    · obtain ⟨j, b, u, x', y', h1, h2, h3, h4⟩ := pairsO_get r xs ys p z
      exact ⟨j + 1, b, u, x', y', by simpa using h1, by simpa using h2, by simpa using h3, h4⟩
abbrev SqA (K : PySem.W.Frag) (H : Hp) (a : Addr) (xs : List V) : Prop := SqT K H a xs ∨ SqL K H a xs
def tZL (K : PySem.W.Frag) (ta : TA) : TE := fun σ H Q => ta σ H fun vs H1 => ∃ a b xs ys, vs = [.ref a, .ref b] ∧ SqA K H1 a xs ∧ SqA K H1 b ys ∧ min xs.length ys.length ≤ sizeLine ∧
  ∀ (ts : List (Addr × Obj)) (D : Addr), ts.length = min xs.length ys.length → (∀ p ∈ ts, H1 p.1 = none ∧ p.2.dict = none) → (ts.map (·.1)).Nodup → H1 D = none → D ∉ ts.map (·.1) → Q (.ref D) (upd (updL H1 (pairsO ts xs ys)) D (.lst (ts.map fun p => V.ref p.1)))
/-- what an iterator over a list or a tuple is -/
structure Src (P : Program) (w : World) (h : Heap) (a : Addr) (its : Array Value) (o : Obj) (Hb : Heap → Prop) (St : Addr → Nat → Heap → Prop) : Prop where
  beg : Begins (.ref a) o Hb
  here : Hb h
  start : ∀ (N : Addr) (h' : Heap), h'.get? N = some o → (∀ c u, h.get? c = some u → h'.get? c = some u) → St N 0 h'
  dr : ∀ (A : Around) (N : Addr), A.handled = none → a ≠ N → Draws P w A N [N, a] its.size (fun i v => its[i]? = some v) (St N)
theorem src_of {X : Cx} {pins : List (Addr × Obj)} {σ : L2.St} {H : Hp} {s : Shared} {a : Addr} {xs : List V} (I : Inv X pins σ H s) (h : SqA X.K H a xs) :
    ∃ (its : List Value) (o : Obj) (Hb : Heap → Prop) (St : Addr → Nat → Heap → Prop), Vals xs its ∧ Src X.prog X.w s.heap a its.toArray o Hb St ∧ a < s.heap.objs.size := by
  rcases h with h | h
  · obtain ⟨its, rv, p, _⟩ := I.tuple h
    have q : s.heap.IsTuple a its.toArray := p
    exact ⟨its, _, _, fun N i h => h.IsTupleIter N a i ∧ h.IsTuple a its.toArray, rv, ⟨begins_tuple a its.toArray, q, fun N h' e k => ⟨⟨_, e, rfl, rfl⟩, (by obtain ⟨u, e1, e2⟩ := q; exact ⟨u, k _ _ e1, e2⟩)⟩, fun A N hh ne => Draws.tuple hh N a ne its.toArray⟩, p.lt⟩
  · obtain ⟨its, rv, p, _⟩ := I.list h
    have q : s.heap.IsList a its.toArray := p.isList
    exact ⟨its, _, _, fun N i h => h.IsListIter N a i ∧ h.IsList a its.toArray, rv, ⟨begins_list a its.toArray, q, fun N h' e k => ⟨⟨_, e, rfl, rfl⟩, (by obtain ⟨u, e1, e2⟩ := q; exact ⟨u, k _ _ e1, e2⟩)⟩, fun A N hh ne => Draws.list hh N a ne its.toArray⟩, p.lt⟩
theorem updL_snoc : ∀ (l : List (Addr × HO)) (H : Hp) (a : Addr) (o : HO), updL H (l ++ [(a, o)]) = upd (updL H l) a o
  | [], H, a, o => rfl
  | (b, u) :: r, H, a, o => updL_snoc r (upd H b u) a o
theorem refs_vals : ∀ l : List (Addr × Value × Value), Vals (l.map fun p => V.ref p.1) (l.map fun p => Value.ref p.1)
  | [] => .nil
  | _ :: r => .cons rfl (refs_vals r)
theorem pe_zl {X : Cx} {e e2 : Expr} {ta : TA} {p p2 pos pos2 : Pos} (hc : X.calm = true) (hgl : Gl X "list") (hml : X.mg "list" = none) (hg : Gl X "zip") (hm : X.mg "zip" = none) (ha : PA X [e, e2] ta)
    (hs : starEach [e, e2] X.env = (false, eval e X.env) :: starEach [e2] X.env := by rfl) (hpl : (backTo pos (starEach [e2] X.env)).any (·.1) = false := by rfl)
    (hst : starEach [.Call (.Name "zip" p) [e, e2] [] pos] X.env = (false, eval (.Call (.Name "zip" p) [e, e2] [] pos) X.env) :: starEach [] X.env := by rfl) :
    PE X (.Call (.Name "list" p2) [.Call (.Name "zip" p) [e, e2] [] pos] [] pos2) (tZL X.K ta) := by
  refine ⟨fun pins s σ H Q I h => ?_⟩
  refine wpAny_Call_Name_kw (ld_blt I hgl hml boot_list ?_ (by decide) (by decide))
  refine PyProof.Rows.callWith_type1 ?_ hst rfl
  rw [hst]
  show wpAny _ _ (spliced ((false, eval (.Call (.Name "zip" p) [e, e2] [] pos) X.env) :: backTo pos2 (starEach [] X.env))) _ _ s
  refine Calls.spliced_cons (Call_ (ld_blt I hg hm PyProof.Rows.boot_zip (PyProof.Rows.callWith_type1 (thn (ha.run pos pins s σ H _ I h) fun us s1 ⟨vs, H1, I1, r1, q1⟩ => ?_) hs hpl)))
  obtain ⟨a, b, xs, ys, ex, hx, hy, hz, q⟩ := q1
  subst ex
  cases r1 with
  | cons r rr =>
    cases rr with
    | cons r' rr =>
      cases rr
      cases r
      cases r'
      obtain ⟨its, o1, Hb1, St1, rv1, src1, la⟩ := src_of I1 hx
      obtain ⟨its2, o2, Hb2, St2, rv2, src2, lb⟩ := src_of I1 hy
      have hh : X.A.handled = none := I1.ok.hd hc
      refine zip_begins2 src1.beg src2.beg src1.here src2.here fun h' hz' hTI hTO g1 g2 hsz hk => ?_
      refine Calls.spliced_nil ?_
      have sep : ZipSep2 (s1.heap.objs.size + 4) (s1.heap.objs.size + 2) (s1.heap.objs.size + 3) s1.heap.objs.size (s1.heap.objs.size + 1) [s1.heap.objs.size, a] [s1.heap.objs.size + 1, b] := zip_sep2 (fun x hx => by rw [List.mem_singleton.mp hx]; exact la) (fun x hx => by rw [List.mem_singleton.mp hx]; exact lb)
      have l1 := rv1.length
      have l2 := rv2.length
      have e1 : its.toArray.size = its.length := List.size_toArray
      have e2 : its2.toArray.size = its2.length := List.size_toArray
      refine ZL.zl_call (s := { s1 with heap := h' }) (h0 := s1.heap) (M := s1.heap.objs.size) sep (src1.dr X.A.in1.in1.in1 _ hh (Nat.ne_of_lt la)) (src2.dr X.A.in1.in1.in1 _ hh (Nat.ne_of_lt (Nat.lt_succ_of_lt lb))) hz' hTI ⟨_, _, hTO⟩ (src1.start _ _ g1 hk) (src2.start _ _ g2 hk) (fun b o _ e => hk b o e)
        (show s1.heap.objs.size ≤ h'.objs.size by omega) (Nat.le_add_right _ _) (Nat.le_add_right _ _) (Nat.le_refl _) (Nat.le_add_right _ _) (show s1.heap.objs.size < h'.objs.size by omega) (show s1.heap.objs.size + 1 < h'.objs.size by omega) (fun x hx => ?_) (fun x hx => ?_) (by rw [e1, e2, ← l1, ← l2]; exact hz) fun h tk acc L => ?_
      · have e' : x = s1.heap.objs.size ∨ x = a := by simpa using hx
        rcases e' with z | z
        · rw [z]; show s1.heap.objs.size < h'.objs.size; omega
        · rw [z]; show a < h'.objs.size; exact Nat.lt_of_lt_of_le la (by omega)
      · have e' : x = s1.heap.objs.size + 1 ∨ x = b := by simpa using hx
        rcases e' with z | z
        · rw [z]; show s1.heap.objs.size + 1 < h'.objs.size; omega
        · rw [z]; show b < h'.objs.size; exact Nat.lt_of_lt_of_le lb (by omega)
      · have hlen : acc.length = min xs.length ys.length := by rw [L.len, e1, e2, l1, l2]
        let ts : List (Addr × Obj) := acc.map fun p => (p.1, { cls := .type "tuple", data := .seq #[p.2.1, p.2.2] })
        have tk1 : ts.map (·.1) = acc.map (·.1) := by rw [List.map_map]; rfl
        have tlen : ts.length = min xs.length ys.length := by rw [List.length_map]; exact hlen
        have keys : (pairsO ts xs ys).map (·.1) = acc.map (·.1) := by rw [pairsO_keys ts xs ys tlen, tk1]
        have hge : ∀ x ∈ acc.map (·.1), h'.objs.size + 1 ≤ x := fun x hx => by
          obtain ⟨p, hp, rfl⟩ := List.mem_map.mp hx
          exact (L.new p hp).1
        have hD : h'.objs.size ∉ acc.map (·.1) := fun z => Nat.not_succ_le_self _ (hge _ z)
        have kept : ∀ b u, s1.heap.get? b = some u → h.get? b = some u := fun b u e => L.old b u (Heap.lt_size e) e
        have fresh : ∀ x, s1.heap.objs.size ≤ x → H1 x = none := fun x hx => I1.hok.fresh hx
        obtain ⟨cc, hl⟩ := L.lst
        have J : Inv X pins σ (updL H1 (pairsO ts xs ys ++ [(h'.objs.size, .lst (ts.map fun p => V.ref p.1))])) { s1 with heap := h, toks := tk } := by
          refine inv_many _ I1 kept (fun p hp => ?_) ?_ (fun p hp => ?_)
          · rcases List.mem_append.mp hp with z | z
            · have := hge p.1 (by rw [← keys]; exact List.mem_map.mpr ⟨p, z, rfl⟩)
              omega
            · rw [List.mem_singleton.mp z]
              show s1.heap.objs.size ≤ h'.objs.size
              omega
          · rw [List.map_append, keys]
            exact List.nodup_append.mpr ⟨L.nod, by simp, fun x hx y hy => by
              have e : y = h'.objs.size := by simpa using hy
              rw [e]
              exact fun z => hD (z ▸ hx)⟩
          · rcases List.mem_append.mp hp with z | z
            · obtain ⟨j, x, o, v, w, h1, h2, h3, rfl⟩ := pairsO_get ts xs ys p z
              have h1' : (acc[j]?).map (fun p => (p.1, ({ cls := .type "tuple", data := .seq #[p.2.1, p.2.2] } : Obj))) = some (x, o) := by rw [← List.getElem?_map]; exact h1
              obtain ⟨q, hq, e⟩ := Option.map_eq_some_iff.mp h1'
              cases e
              obtain ⟨v1, v2⟩ := L.val j q hq
              have v1 : its.toArray[j]? = some q.2.1 := v1
              have v2 : its2.toArray[j]? = some q.2.2 := v2
              rw [List.getElem?_toArray] at v1 v2
              obtain ⟨u1, f1, f2⟩ := rv1.get h2
              obtain ⟨u2, f3, f4⟩ := rv2.get h3
              rw [f1] at v1
              rw [f3] at v2
              have tu := (L.new q (List.mem_of_getElem? hq)).2
              refine ⟨tu, by show 2 ≤ sizeLine; rw [sizeLine_eq]; decide, [q.2.1, q.2.2], ?_, ⟨_, tu, rfl, _, rfl⟩⟩
              rw [← Option.some.inj v1, ← Option.some.inj v2]
              exact .cons f2 (.cons f4 .nil)
            · rw [List.mem_singleton.mp z]
              refine ⟨by rw [List.length_map, tlen]; exact hz, acc.map fun p => Value.ref p.1, cc, ?_, hl⟩
              have e : (ts.map fun p => V.ref p.1) = acc.map fun p => V.ref p.1 := by rw [List.map_map]; rfl
              rw [e]
              exact refs_vals acc
        rw [updL_snoc] at J
        refine ⟨.ref h'.objs.size, _, J, rfl, q ts h'.objs.size tlen (fun p hp => ?_) (by rw [tk1]; exact L.nod) (fresh _ (by omega)) (by rw [tk1]; exact hD)⟩
        have hp1 : p.1 ∈ acc.map (·.1) := by rw [← tk1]; exact List.mem_map.mpr ⟨p, hp, rfl⟩
        obtain ⟨q', _, rfl⟩ := List.mem_map.mp hp
        exact ⟨fresh _ (by have := hge _ hp1; omega), rfl⟩
end PD

set_option Elab.async false
set_option linter.all false
set_option maxRecDepth 100000
set_option maxHeartbeats 1000000
/-! PEh: list(zip(a, b)) as a function of data. -/
namespace PD
open PySem PySem.Spec PyProof.Rows L2
def seqOf : Pl → Option (List PyData)
  | .val (.list xs) => some xs
  | .val (.tuple xs) => some xs
  | _ => none
def fZipL (f g : Ef) : Ef := fun s => (f s).bind fun (a, s1) => (g s1).bind fun (b, s2) => match seqOf (fz a), seqOf (fz b) with
  | some xs, some ys => if min xs.length ys.length ≤ sizeLine then some (.ownL (zipD xs ys), s2) else none
  | _, _ => none
@[simp] theorem fZipL_ap (f g : Ef) (s : DS) : fZipL f g s = (f s).bind fun (a, s1) => (g s1).bind fun (b, s2) => match seqOf (fz a), seqOf (fz b) with
  | some xs, some ys => if min xs.length ys.length ≤ sizeLine then some (.ownL (zipD xs ys), s2) else none
  | _, _ => none := rfl
section
variable [TheW]
theorem SRp.seq {K : PySem.W.Frag} {fa : Addr} {H G : Hp} {v : V} {r : Pl} {xs : List PyData} (h : SRp K fa H G v r) (e : seqOf r = some xs) : ∃ p vs, v = .ref p ∧ SqA K G p vs ∧ RpAll K G vs xs := by
  cases r with
  | val d =>
    cases d with
    | list ds =>
      cases e
      cases (show Rp K G v (.list xs) from h) with
      | lst q r => exact ⟨_, _, rfl, .inr (.inl (.inl q)), r⟩
    | tuple ds =>
      cases e
      obtain ⟨p, vs, rfl, hk, hr⟩ := Rp.tupI (show Rp K G v (.tuple xs) from h)
      exact ⟨p, vs, rfl, .inl hk.sqt, hr⟩
    | none => cases e
    | bool b => cases e
    | int b => cases e
    | str b => cases e
    | dict b => cases e
  | fd => cases e
  | dic k => cases e
  | dicN k => cases e
  | ownL k => cases e
  | ownK k => cases e
  | ownN k => cases e
omit [TheW] in
theorem SqA.mono {K : PySem.W.Frag} {G H : Hp} {p : Addr} {vs : List V} (h : SqA K G p vs) (g : Same G H) : SqA K H p vs := by
  rcases h with h | h
  · rcases h with (h | ⟨o, h⟩) | h
    · exact .inl (.inl (.inl (g _ _ h)))
    · exact .inl (.inl (.inr ⟨o, g _ _ h⟩))
    · exact .inl (.inr h)
  · exact .inr (g.seq h)
theorem alloc_pairs {K : PySem.W.Frag} {Γ : Gm} {σ : L2.St} {s : DS} : ∀ (ts : List (Addr × Obj)) (vs ws : List V) (ds es : List PyData) (H G : Hp), Sta K Γ σ H G s → RpAll K G vs ds → RpAll K G ws es → ts.length = min vs.length ws.length →
    (∀ p ∈ ts, H p.1 = none ∧ p.2.dict = none) → (ts.map (·.1)).Nodup →
    ∃ G', Sta K Γ σ (updL H (pairsO ts vs ws)) G' s ∧ Stp Γ σ H G s (updL H (pairsO ts vs ws)) G' s ∧ RpAll K G' (ts.map fun p => V.ref p.1) (zipD ds es)
  | [], vs, ws, ds, es, H, G, S, r1, r2, hl, _, _ => by
    have h0 : min vs.length ws.length = 0 := hl.symm
    have e : zipD ds es = [] := by
      have := zipD_len ds es
      rw [← r1.length, ← r2.length, h0] at this
      exact List.eq_nil_of_length_eq_zero this
    rw [e]
    exact ⟨G, by simpa [pairsO, updL] using S, by simpa [pairsO, updL] using Stp.refl, .nil⟩
  | (a, o) :: r, [], ws, ds, es, H, G, S, r1, r2, hl, _, _ => by simp at hl
  | (a, o) :: r, _ :: _, [], ds, es, H, G, S, r1, r2, hl, _, _ => by simp at hl
  | (a, o) :: r, v :: vs, w :: ws, _, _, H, G, S, .cons q1 r1, .cons q2 r2, hl, hf, hn => by
    obtain ⟨ha, hd⟩ := hf (a, o) List.mem_cons_self
    rw [List.map_cons, List.nodup_cons] at hn
    obtain ⟨A, B⟩ := S.allocG (o := .frz o (.tup [v, w])) ha
    have rT : Rp K (upd G a (.frz o (.tup [v, w]))) (.ref a) (.tuple [_, _]) := .tup (.inl ⟨o, upd_same, hd⟩) (.cons (q1.mono B.gg) (.cons (q2.mono B.gg) .nil))
    obtain ⟨G', A2, B2, R⟩ := alloc_pairs r vs ws _ _ _ _ A (r1.mono B.gg) (r2.mono B.gg) (by simpa using hl) (fun p hp => ⟨by
      rw [upd_ne (fun z => hn.1 (List.mem_map.mpr ⟨p, hp, z⟩))]
      exact (hf p (List.mem_cons_of_mem _ hp)).1, (hf p (List.mem_cons_of_mem _ hp)).2⟩) hn.2
    exact ⟨G', A2, B.trans B2, .cons (rT.mono B2.gg) R⟩
variable {X : Cx} {Γ : Gm}
theorem pd_zipL {a b : Expr} {f g : Ef} {p p2 pos pos2 : Pos} (hc : X.calm = true) (ha : PEd X Γ a f) (hb : PEd X Γ b g) (hgl : Gl X "list") (hml : X.mg "list" = none) (hg : Gl X "zip") (hm : X.mg "zip" = none)
    (hs : starEach [a, b] X.env = (false, eval a X.env) :: starEach [b] X.env := by rfl) (hs2 : starEach [b] X.env = (false, eval b X.env) :: starEach [] X.env := by rfl) (hpl : (backTo pos (starEach [b] X.env)).any (·.1) = false := by rfl)
    (hst : starEach [.Call (.Name "zip" p) [a, b] [] pos] X.env = (false, eval (.Call (.Name "zip" p) [a, b] [] pos) X.env) :: starEach [] X.env := by rfl) :
    PEd X Γ (.Call (.Name "list" p2) [.Call (.Name "zip" p) [a, b] [] pos] [] pos2) (fZipL f g) := by
  obtain ⟨te, pe, k⟩ := ha
  obtain ⟨tb, pb, kb⟩ := hb
  refine ⟨_, pe_zl hc hgl hml hg hm (pa_cons pe (pa_cons pb pa_nil hs2) hs) hs hpl hst, fun σ H G s s' r Q S hf hq => ?_⟩
  unfold fZipL at hf
  cases h1 : f s with
  | none => rw [h1] at hf; cases hf
  | some w =>
    obtain ⟨x, s1⟩ := w
    simp only [h1, Option.bind_some] at hf
    cases h2 : g s1 with
    | none => rw [h2] at hf; cases hf
    | some w2 =>
      obtain ⟨y, s2⟩ := w2
      simp only [h2, Option.bind_some] at hf
      split at hf
      case h_2 => cases hf
      rename_i xs ys e1 e2
      by_cases hz : min xs.length ys.length ≤ sizeLine
      case neg => rw [if_neg hz] at hf; cases hf
      rw [if_pos hz] at hf
      cases hf
      refine k σ H G s s1 x _ S h1 fun v H1 G1 S1 T1 g1 => ?_
      obtain ⟨G1', S1', T1', r1⟩ := S.freeze S1 T1 g1
      refine kb σ H1 G1' s1 _ y _ S1' h2 fun w H2 G2 S2 T2 g2 => ?_
      obtain ⟨G2', S2', T2', r2⟩ := S1'.freeze S2 T2 g2
      obtain ⟨p1, vs1, rfl, a1, b1⟩ := r1.seq e1
      obtain ⟨p2, vs2, rfl, a2, b2⟩ := r2.seq e2
      have b1 := b1.mono T2'.gg
      refine ⟨p1, p2, vs1, vs2, rfl, (a1.mono T2'.gg).mono S2'.sub, a2.mono S2'.sub, by rw [b1.length, b2.length]; exact hz, fun ts D hl hf hn hD nD => ?_⟩
      obtain ⟨G3, S3, T3, r3⟩ := alloc_pairs ts vs1 vs2 xs ys H2 G2' S2' b1 b2 hl hf hn
      have hD3 : updL H2 (pairsO ts vs1 vs2) D = none := by rw [updL_out _ _ (by rw [pairsO_keys ts vs1 vs2 hl]; exact nD)]; exact hD
      exact newL S3 r3 (fun v H' G' S' T' g' => hq v H' G' S' (T1'.trans (T2'.trans (T3.trans T'))) (g'.later (T1'.trans (T2'.trans T3)))) D hD3
end
end PD

set_option Elab.async false
set_option linter.all false
set_option maxRecDepth 100000
set_option maxHeartbeats 2000000
/-! PDv: tuple(e for x in xs if t): the generator's frame, its turns, what is made of it. -/
namespace GxD
open PySem PySem.Spec PyProof.Rows L2 GenW GxR
theorem over_gx {A : Around} {elt tg iter : Expr} {ifs : List Expr} {scope : Scope} {pos : Pos} {d : Nat} {it acc : Value} {env : Env} : A.over (.compLoop (.GeneratorExp elt [⟨tg, iter, ifs, 0⟩] scope pos) 0 it acc env) [] = A.deeper env := by
  first
    | rfl
    | (obtain ⟨hd, d, fr, gs, u⟩ := A
       simp [Around.over, Around.deeper, marksOver, frameCount, unitsOf, envsOf, guardsOf, pushEnvs, pushGuards, Code.envs, Code.env?, Code.isFrame, Code.guards, Code.isGuard, Code.weight, Code.frames, Code.isCreation, Code.isCaller, Code.cUnits])
theorem over_gs {A : Around} {elt tg iter : Expr} {ifs : List Expr} {scope : Scope} {pos : Pos} {d : Nat} {it acc : Value} {env : Env} : A.over (.compStart (.GeneratorExp elt [⟨tg, iter, ifs, 0⟩] scope pos) 0 it acc env) [] = A.deeper env := by
  first
    | rfl
    | (obtain ⟨hd, d, fr, gs, u⟩ := A
       simp [Around.over, Around.deeper, marksOver, frameCount, unitsOf, envsOf, guardsOf, pushEnvs, pushGuards, Code.envs, Code.env?, Code.isFrame, Code.guards, Code.isGuard, Code.weight, Code.frames, Code.isCreation, Code.isCaller, Code.cUnits])
/-- the context of a generator expression's frame -/
abbrev gxC (X : Cx) (A : Around) (s : Shared) (H : Hp) (env : Env) (fp : List Addr) (pn : List (Addr × Obj)) : Cx :=
  { X with A := A.deeper env, s_0 := s, H_0 := H, env := env, outer := X.stack, stack := env :: X.stack, ex := fp, fn := fun _ => false, pn := pn, xe := fun _ _ => False, calm := true }
/-- what a turn is to reach -/
abbrev TurnG (J : It) (g : TG) (tt : TT) (te : TE) (σ : L2.St) (vs : List Nat) (W : Nat → Nat → List V → Hp → Prop) (Q : List V → Hp → Prop) : Prop := ∀ i m ys H, W i m ys H →
  (J.stop i H ∧ Q ys H) ∨ (J.go i H ∧ ∃ Nx : List V → Hp → Prop, (∀ zs H', Nx zs H' → ∃ m', m' < m ∧ W (i + 1) m' zs H') ∧ ∀ x H', J.yld i H x H' → g x (wipe σ vs) H' fun σ2 H2 => wipe σ2 vs = wipe σ vs ∧ tt σ2 H2 fun b H3 =>
    if b = true then te σ2 H3 fun y H4 => ys.length < sizeLine ∧ Nx (ys ++ [y]) H4 else Nx ys H3)
abbrev E9 : XK := fun _ _ _ => False
section
variable {X : Cx} {A : Around} {s4 : Shared} {H4 : Hp} {env : Env} {fp : List Addr} {S a : Addr} {gi : Nat} {go : Obj} {elt tg iter : Expr} {ifs : List Expr} {scope : Scope} {pos : Pos} {it : Addr} {tn : Nat → Heap → Prop} {J : It} {g : TG} {tt : TT} {te : TE} {σ : L2.St} {vs : List Nat}
  {W : Nat → Nat → List V → Hp → Prop} {Q : List V → Hp → Prop}
theorem seg_gxLoop (T : Turn X.prog X.w X.K tg J fp it tn) (pg : PG (gxC X A s4 H4 env fp [(a, go)]) tg g) (pt : PTs (gxC X A s4 H4 env fp [(a, go)]) ifs tt) (pe : PE (gxC X A s4 H4 env fp [(a, go)]) elt te)
    (hco : env.scope.isCoroutine = false) (hW : TurnG J g tt te σ vs W Q) (hfa : ∀ b ∈ fp, b ≠ a ∧ b ≠ S) (haS : a ≠ S) (hA : Apart (gxC X A s4 H4 env fp [(a, go)]) S) (hgo : ∀ h : Heap, h.get? a = some go → h.IsGen a gi) :
    ∀ (m i : Nat) (ys : List V) (H : Hp) (n : Nat) (s₀ s : Shared), W i m ys H → n + ys.length = sizeLine → GI (gxC X A s4 H4 env fp [(a, go)]) S [] ys (wipe σ vs) H s → tn i s.heap → (∀ b ∈ fp, H b = none) →
      Seg (model X.prog X.w) A (REnd X.prog X.w X.stack H4 s4 fp S a gi Q E9) (YItem s4 S a gi) n s₀ (.compLoop (.GeneratorExp elt [⟨tg, iter, ifs, 0⟩] scope pos) 0 (.ref it) .none env)
        ((model X.prog X.w).den (.compLoop (.GeneratorExp elt [⟨tg, iter, ifs, 0⟩] scope pos) 0 (.ref it) .none env)) [] s := by
  have hpn : ∀ p ∈ (gxC X A s4 H4 env fp [(a, go)]).pn, p.1 ≠ S := fun p hp => by
    rw [List.mem_singleton.mp hp]
    exact haS
  intro m
  induction m using Nat.strongRecOn with
  | _ m ih =>
  intro i ys H n s₀ s w hn hI st nfp
  obtain ⟨acc, cc, r, I⟩ := hI
  have stat : ∀ {σ' : L2.St} {H' : Hp} {s' : Shared}, Inv (gxC X A s4 H4 env fp [(a, go)]) [(S, lstObj acc cc)] σ' H' s' → (∀ b ∈ fp, H' b = none) → ∀ b ∈ fp, FpOk (gxC X A s4 H4 env fp [(a, go)]) [(S, lstObj acc cc)] H' b := fun {σ' H' s'} I' hn b hb =>
    ⟨hn b hb, (I'.ok.exf b hb).1, I'.ok.exfs b hb, .inl hb, fun x c e => (I'.ok.exf b hb).2 x c e, fun p hp => by
      rcases List.mem_append.mp hp with z | z
      · rw [List.mem_singleton.mp z]
        exact fun y => (hfa b hb).1 y.symm
      · rw [List.mem_singleton.mp z]
        exact fun y => (hfa b hb).2 y.symm⟩
  show Seg _ A _ _ n s₀ _ ((compTurn (.GeneratorExp elt [⟨tg, iter, ifs, 0⟩] scope pos) 0 (.ref it) .none env).onRaise (leaving env)) [] s
  rw [compTurn_gen, Sem.onRaise_eq_wrap]
  refine seg_bind_wrap (wpAny_standAt ?_)
  refine seg_bind_wrap ?_
  rw [over_gx (d := 0)]
  rcases hW i m ys H w with ⟨stop, qq⟩ | ⟨go', Nx, hNx, step⟩
  · refine wpAny_mono (T.done (gxC X A s4 H4 env fp [(a, go)]) rfl rfl rfl rfl i _ s _ H (fun _ _ => False) I (stat I nfp) st stop) (fun r6 s6 ⟨hr, I6⟩ => ?_) fun _ _ z => z.elim
    subst hr
    have GI6 : GI (gxC X A s4 H4 env fp [(a, go)]) S [] ys (wipe σ vs) H s6 := ⟨acc, cc, r, I6⟩
    obtain ⟨k1, _, _, acc', cc', r', k2⟩ := GI6.at
    exact seg_end (.ok .next) (.inl ⟨.inr rfl, H, ys, acc', cc', I6.os, I6.bare, I6.base, I6.hok, k1, k2, r', by omega, qq⟩)
  · refine wpAny_mono (T.item (gxC X A s4 H4 env fp [(a, go)]) rfl rfl rfl rfl i _ s _ H (fun _ _ => False) I (stat I nfp) st go') (fun r6 s6 ⟨u, hr, h6⟩ => ?_) fun _ _ z => z.elim
    subst hr
    refine seg_bind_wrap ?_
    rw [over_gx (d := 0)]
    refine wpAny_mono h6 (fun _ s7 ⟨x, H7, I7, r7, y7, st7, n7⟩ => ?_) fun _ _ z => z.elim
    have I7' := I7.pinned (stat I7 n7) (T.obj _ _ st7)
    refine seg_bind_wrap ?_
    rw [over_gx (d := 0)]
    refine wpAny_mono (pg.run _ s7 _ H7 x u _ I7' r7 (step x H7 y7)) (fun _ s8 ⟨σ8, H8, I8, hw8, q8⟩ => ?_) fun _ _ z => z.elim
    refine seg_bind_wrap ?_
    rw [over_gx (d := 0)]
    refine wpAny_mono (pt.run _ s8 σ8 H8 _ I8 q8) (fun b s9 ⟨H9, I9, q9⟩ => ?_) fun _ _ z => z.elim
    have hl : (wipe σ vs).length = σ8.length := by rw [← hw8, wipe_length]
    have fin : ∀ {s' : Shared} {H' : Hp} {zs : List V} {acc' : Array Value} {cc' : Nat} {n' : Nat} {s₀' : Shared}, Vals zs acc'.toList → Inv (gxC X A s4 H4 env fp [(a, go)]) ((S, lstObj acc' cc') :: pinsAt fp s7.heap) σ8 H' s' → Nx zs H' → n' + zs.length = sizeLine →
        Seg (model X.prog X.w) A (REnd X.prog X.w X.stack H4 s4 fp S a gi Q E9) (YItem s4 S a gi) n' s₀' (.compLoop (.GeneratorExp elt [⟨tg, iter, ifs, 0⟩] scope pos) 0 (.ref it) .none env)
          ((model X.prog X.w).den (.compLoop (.GeneratorExp elt [⟨tg, iter, ifs, 0⟩] scope pos) 0 (.ref it) .none env)) [] s' := fun {s' H' zs acc' cc' n' s₀'} rz I' nx hn' => by
      obtain ⟨m', hm, w'⟩ := hNx zs H' nx
      have pin' : ∀ b ∈ fp, ∀ o, s7.heap.get? b = some o → s'.heap.get? b = some o ∧ H' b = none := fun b hb o e =>
        let z := I'.pin (b, o) (List.mem_append_right _ (List.mem_cons_of_mem _ (mem_pinsAt hb e)))
        ⟨z.1, z.2.1⟩
      have I2 : Inv (gxC X A s4 H4 env fp [(a, go)]) [(S, lstObj acc' cc')] σ8 H' s' := Inv.unpinned (pins := [(S, lstObj acc' cc')]) (pl := pinsAt fp s7.heap) I'
      refine ih m' hm (i + 1) zs H' n' s₀' s' w' hn' ⟨acc', cc', rz, I2.weak hl (fun j v e => ?_)⟩ (T.keep _ _ _ st7 fun b hb o e => (pin' b hb o e).1) fun b hb => ?_
      · rw [← hw8] at e
        exact (wipe_some e).1
      · obtain ⟨o, e, _⟩ := T.obj _ _ st7 b hb
        exact (pin' b hb o e).2
    cases b with
    | false =>
      simp only [Bool.false_eq_true, if_false] at q9 ⊢
      exact seg_again rfl (fin r I9 q9 hn)
    | true =>
      simp only [if_true] at q9 ⊢
      have hy : ∀ v, yieldOut env v = yieldValue v := fun v => by simp only [yieldOut, hco, Bool.false_eq_true, if_false]
      simp only [hy]
      rw [Sem.bind_eq_wrap', Sem.bind_eq_wrap', Sem.wrap_wrap, Sem.wrap_wrap]
      refine seg_wrap ?_
      rw [over_gx (d := 0)]
      refine wpAny_mono (pe.run _ s9 σ8 H9 _ I9 q9) (fun z s10 ⟨yv, H10, I10, r10, hlt, nx⟩ => ?_) fun _ _ z => z.elim
      obtain ⟨n, rfl⟩ : ∃ k, n = k + 1 := ⟨n - 1, by omega⟩
      have I10' : Inv (gxC X A s4 H4 env fp [(a, go)]) ((S, lstObj acc cc) :: pinsAt fp s7.heap) σ8 H10 s10 := I10
      have G10 : GI (gxC X A s4 H4 env fp [(a, go)]) S (pinsAt fp s7.heap) ys σ8 H10 s10 := ⟨acc, cc, r, I10'⟩
      have hga := hgo s10.heap (I10'.pin (a, go) (List.mem_append_left _ (List.mem_singleton.mpr rfl))).1
      have hsz : acc.size = ys.length := by
        have e1 := r.length
        have e2 : acc.toList.length = acc.size := by simp
        omega
      have hSs := (I10'.pin (S, lstObj acc cc) (List.mem_append_right _ List.mem_cons_self)).1
      refine seg_at (seg_yield rfl rfl rfl ⟨I10'.os, I10'.bare, I10'.nolimit, hga, ⟨acc, cc, hSs, by omega⟩, fun s'' zz => ?_⟩)
      obtain ⟨acc', cc', rz, I11⟩ := G10.woken hpn (fun p hp => (hfa p.1 (of_pinsAt hp).1).2) hA r10 zz
      exact seg_again rfl (fin rz I11 nx (by rw [List.length_append, List.length_singleton]; omega))
end
end GxD

set_option Elab.async false
set_option linter.all false
set_option maxRecDepth 100000
set_option maxHeartbeats 2000000
/-! PDw: the generator made. -/
namespace GxD
open PySem PySem.Spec PyProof.Rows L2 GenW GxR
section
variable {X : Cx} {pins : List (Addr × Obj)} {σ : L2.St} {H4 : Hp} {s4 : Shared}
theorem gx_start {scope : Scope} {own : List (Str × Nat)} {A : Around} {code : Value} {fp : List Addr} {s2 : Shared} {go : Obj} {a S : Addr} {c : Nat} {m : Str → Option Value} (I : Inv X pins σ H4 s4) (ok : BlkOk X.N X.env.scope scope own) (hN : X.N.Nodup) (hcell : ∀ y ∈ scope.names, y.2 ≠ .cell)
    (hA : A.frames = some X.stack) (hh : A.handled = none) (hfp : ∀ b ∈ fp, FpOk X pins H4 b ∧ b < s4.heap.objs.size) (kp : ∀ b o, s4.heap.get? b = some o → s2.heap.get? b = some o) (hns : s2.heap.Ns s4.heap.objs.size m) (hos : s2.os = s4.os) (hb : AllBare s2.gens)
    (ha : s2.heap.get? a = some go) (hS : s2.heap.get? S = some (lstObj #[] c)) (hCa : s4.heap.objs.size < a) (haS : a < S) (hgd : ∀ v, go.data ≠ .cell v) :
    Inv (gxC X A s4 H4 (genEnv scope (cloFrom X.env.cells scope.names []) s4.heap.objs.size code builtinsNs X.env) fp [(a, go)]) [(S, lstObj #[] c)] (wipe σ (own.map (·.2))) H4 s2 := by
  have hfree : ∀ y ∈ scope.names, y.2 = .free → ∃ c, X.env.cells.lookup y.1 = some c := fun y hy e => by
    rcases ok.free y hy e with z | z
    · exact I.ok.has _ (.inl z)
    · exact I.ok.has _ (.inr z)
  have cm : ∀ {y c}, (y, c) ∈ cloFrom X.env.cells scope.names [] → X.env.cells.lookup y = some c ∧ c < s4.heap.objs.size := fun {y c} hm => by
    rcases cloFrom_mem hm with hm | ⟨h1, rfl⟩
    · cases hm
    · obtain ⟨d, hd⟩ := hfree _ h1 rfl
      rw [hd]
      obtain ⟨w, z⟩ := I.cell _ _ hd
      exact ⟨rfl, z.lt⟩
  have lk : ∀ {y c}, (cloFrom X.env.cells scope.names []).lookup y = some c → X.env.cells.lookup y = some c ∧ c < s4.heap.objs.size := fun {y c} e => cm (PySem.mem_of_lookup e)
  have hasF : ∀ {y}, scope.names.lookup y = some .free → ∃ c, (cloFrom X.env.cells scope.names []).lookup y = some c ∧ X.env.cells.lookup y = some c := fun {y} hl => by
    obtain ⟨c', e'⟩ := mem_lookup (cloFrom_has (cells := X.env.cells) (acc := []) (PySem.mem_of_lookup hl))
    exact ⟨c', e', (lk e').1⟩
  have noC : ∀ {y}, scope.names.lookup y ≠ some .cell := fun {y} z => hcell _ (PySem.mem_of_lookup z) rfl
  have fsub : ∀ b ∈ frs X.stack, b < s4.heap.objs.size := fun b hb => by
    rcases List.mem_cons.mp (I.stkSub b hb) with z | z
    · rw [z]
      exact I.lt
    · exact Nat.lt_of_not_le fun y => I.nofs y z
  have young : ∀ b, s4.heap.objs.size ≤ b → H4 b = none ∧ b ∉ frs X.stack := fun b hb => ⟨I.hok.fresh hb, fun z => absurd (Nat.lt_of_lt_of_le (fsub b z) hb) (Nat.lt_irrefl _)⟩
  refine ⟨⟨I.ok.mod, ok.kind, I.ok.glob, rfl, Nat.le_refl _, fun y z c e1 e2 => I.ok.inj y z c (lk e1).1 (lk e2).1, fun y hy => ?_, fun y c z => ?_, fun _ => hh, Around.frames_deeper hA, .inr ⟨rfl, rfl⟩, fun b hb => ⟨Nat.ne_of_lt (hfp b hb).2, fun y c e z => (hfp b hb).1.2.2.2.2.1 y c (lk e).1 z⟩,
    I.bs, Nat.le_trans I.ok.bsz I.sz, fun b o e hb => ?_, fun b hb z => ?_, I.stack, I.stkFree⟩, hos, hb, Un.kept kp, ⟨m, hns, fun i y v e1 e2 e3 => ?_⟩, fun y c e => ?_, I.hok.fresh (Nat.le_refl _), fun y c e => ?_, fun p hp => ?_, I.hok.kept kp, by rw [wipe_length]; exact I.len⟩
  · rcases hy with hy | hy
    · exact absurd hy noC
    · obtain ⟨c, h1, _⟩ := hasF hy
      exact ⟨c, h1⟩
  · cases z
  · rcases (hfp b hb).1.2.2.2.1 with z | z
    · exact I.ok.noex b o e z
    · exact absurd (Nat.lt_of_lt_of_le (Heap.lt_size e) (Nat.le_trans I.ok.bsz z)) (Nat.lt_irrefl _)
  · rcases List.mem_cons.mp (I.stkSub b z) with z | z
    · exact (hfp b hb).1.2.1 z
    · exact (hfp b hb).1.2.2.1 z
  · obtain ⟨e2, hne⟩ := wipe_some e2
    have no : ∀ k, scope.names.lookup y = some k → ¬ (k = .local ∨ k = .cell) := fun k hk hc => by
      rcases ok.own _ (PySem.mem_of_lookup hk) hc with e' | e'
      · obtain ⟨p, hp, hpy⟩ := List.mem_map.mp e'
        have e4 := ok.ix p hp
        rw [show p.1 = y from hpy] at e4
        exact hne (List.mem_map.mpr ⟨p, hp, nodup_ix hN e4 e1⟩)
      · exact e' (List.mem_of_getElem? e1)
    have hfr : scope.names.lookup y = some .free := by
      rcases (e3 : Vis scope y) with e3 | e3 | e3
      · exact absurd (.inl rfl) (no _ e3)
      · exact absurd (.inr rfl) (no _ e3)
      · exact e3
    obtain ⟨m0, _, hl⟩ := I.loc
    have hk := ok.free _ (PySem.mem_of_lookup hfr) rfl
    obtain ⟨w, r, q⟩ := hl i y v e1 e2 (hk.elim (fun z => .inr (.inl z)) fun z => .inr (.inr z))
    obtain ⟨c, h1, h2⟩ := hasF hfr
    refine ⟨w, r, .inr ⟨.inr hfr, c, h1, ?_⟩⟩
    rcases q with ⟨z, _⟩ | ⟨_, c', e', z⟩
    · have z2 : X.env.scope.names.lookup y = some .local := z
      rcases hk with y2 | y2 <;> rw [show X.env.scope.names.lookup y = _ from y2] at z2 <;> cases z2
    · rw [h2] at e'
      cases e'
      exact z.keeps kp
  · obtain ⟨w, z⟩ := I.cell y c (lk e).1
    exact ⟨w, z.keeps kp⟩
  · exact I.freeC y c (lk e).1
  · rcases List.mem_append.mp hp with z | z
    · rw [List.mem_singleton.mp z]
      obtain ⟨y1, y2⟩ := young a (Nat.le_of_lt hCa)
      exact ⟨ha, y1, Nat.ne_of_gt hCa, y2, hgd⟩
    · rw [List.mem_singleton.mp z]
      obtain ⟨y1, y2⟩ := young S (Nat.le_of_lt (Nat.lt_trans hCa haS))
      exact ⟨hS, y1, Nat.ne_of_gt (Nat.lt_trans hCa haS), y2, fun v q => by cases q⟩
/-- a generator that has not begun, and what the tuple of all that it hands out is to be -/
def GxMade (X : Cx) (pins : List (Addr × Obj)) (σ : L2.St) (k : Nat) (Q : VK) (u : Value) (s5 : Shared) : Prop :=
  ∃ (a gi : Nat) (c : Code) (H4 : Hp) (s4 : Shared) (fp : List Addr) (QL : List V → Hp → Prop), u = .ref a ∧ Inv X pins σ H4 s4 ∧ ExOk X pins fp ∧ s4.heap.objs.size < a ∧ a < s5.heap.objs.size ∧ s5.heap.IsGen a gi ∧ s5.gens[gi]? = some (.fresh c) ∧ s5.os = s4.os ∧ AllBare s5.gens ∧ s5.heap.NoLimit ∧
    (∀ b o, s4.heap.get? b = some o → s5.heap.get? b = some o) ∧ (∀ zs H, QL zs H → PD.NT zs H Q) ∧
    ∀ (A : Around) (S : Addr) (s2 : Shared), Room k A → A.frames = some X.stack → A.guards = X.A.guards → s5.heap.objs.size ≤ S → (∀ b o, s5.heap.get? b = some o → s2.heap.get? b = some o) → (∃ c, s2.heap.get? S = some (lstObj #[] c)) → s2.os = s4.os → AllBare s2.gens →
      Seg (model X.prog X.w) A (REnd X.prog X.w X.stack H4 s4 fp S a gi QL E9) (YItem s4 S a gi) sizeLine s2 c ((model X.prog X.w).den c) [] s2
/-- tuple(elt for tg in iter if ..): the def's table at P may grow -/
def tGx (P : Addr) (wi : TI) (g : TG) (tt : TT) (te : TE) (vs : List Nat) : TE := fun σ H Q => wi σ H fun J H1 => ∃ ps : Array Value, H1 P = some (.tbl ps) ∧ TriplesOk ps.toList ∧ ∀ more : Array Value, TriplesOk (ps ++ more).toList →
  ∃ (W : Nat → Nat → List V → Hp → Prop) (QL : List V → Hp → Prop), (∃ m, W 0 m [] (upd H1 P (.tbl (ps ++ more)))) ∧ TurnG J g tt te σ vs W QL ∧ ∀ zs H, QL zs H → PD.NT zs H Q
/-- what holds in each frame that the generator may run in -/
abbrev GxB (X : Cx) (scope : Scope) (k : Nat) (F : Cx → Prop) : Prop := ∀ (A : Around) (s : Shared) (H : Hp) (C : Addr) (code : Value) (cl : List (Str × Addr)) (fp : List Addr) (pn : List (Addr × Obj)), Room k (A.deeper (genEnv scope cl C code builtinsNs X.env)) → (A.deeper (genEnv scope cl C code builtinsNs X.env)).guards = X.A.guards →
  F (gxC X A s H (genEnv scope cl C code builtinsNs X.env) fp pn)
theorem gx_make {elt tg iter : Expr} {ifs : List Expr} {scope : Scope} {own : List (Str × Nat)} {gpos : Pos} {wi : TI} {g : TG} {tt : TT} {te : TE} {k : Nat} {c P : Addr} {H : Hp} {s : Shared} {Q : VK} {Q' : Value → Shared → Prop} (hr : Room k X.A) (TB : TabB X.base X.mg c P) (hcode : X.env.code = .ref c)
    (hN : X.N.Nodup) (hi : PI X tg iter wi) (ok : BlkOk X.N X.env.scope scope own) (hco : scope.isCoroutine = false) (hcell : ∀ y ∈ scope.names, y.2 ≠ .cell) (h0 : scope.names.lookup (".0" : Str) = some NameKind.local)
    (hg : GxB X scope k fun Y => PG Y tg g) (ht : GxB X scope k fun Y => PTs Y ifs tt) (he : GxB X scope k fun Y => PE Y elt te) (hs : ∀ v, genFold iter X.env v = pure v) (I : Inv X pins σ H s) (h : tGx P wi g tt te (own.map (·.2)) σ H Q)
    (hQ : ∀ u s5, GxMade X pins σ (k + 1) Q u s5 → Q' u s5) : wpAny (model X.prog X.w) X.A (eval (.GeneratorExp elt [⟨tg, iter, ifs, 0⟩] scope gpos) X.env) Q' X.xe s := by
  have hfree : ∀ y ∈ scope.names, y.2 = .free → ∃ c, X.env.cells.lookup y.1 = some c := fun y hy e => by
    rcases ok.free y hy e with z | z
    · exact I.ok.has _ (.inl z)
    · exact I.ok.has _ (.inr z)
  refine wpAny_GeneratorExp_make hco (closure_ok hfree) hcell h0 ok.kind (by have := hr.dp; omega) ?_ hs
  refine thn (hi.run pins s σ H _ I h) fun xv s1 hx => thn hx fun itv s2 h2 => ?_
  obtain ⟨it, fp, tn, J, H2, e, I2, T, st2, f2, ps, hP, htr, hmore⟩ := h2
  subst e
  refine ⟨I2.nolimit, ?_⟩
  have hPs : s2.heap.get? P = some { cls := .none, data := .fields ps } := I2.hok P _ hP
  have cd : PySem.W.CodeHd s2.heap c P := TB.code.keeps fun b u e => I2.bk b u e
  have rest : ∀ (code : Value) (h3 : Heap) (tk : Nat) (more : Array Value), Heap.ExtBut P s2.heap h3 → s2.heap.objs.size ≤ h3.objs.size → h3.get? P = some { cls := .none, data := .fields (ps ++ more) } → TriplesOk (ps ++ more).toList →
      wpAny (model X.prog X.w) X.A (builtinsFor X.env.globals X.env.builtins) (fun bi s₄ => ∀ h', h'.Ns s₄.heap.objs.size (fun y => if y = ".0" then some (.ref it) else none) → Heap.SameBut s₄.heap.objs.size (s₄.heap.push { cls := .type "frame", data := .dict #[] }) h' →
          Q' (.ref h'.objs.size) { s₄ with
            gens := s₄.gens.push (.fresh (.compStart (.GeneratorExp elt [⟨tg, iter, ifs, 0⟩] scope gpos) 0 (.ref it) .none (genEnv scope (cloFrom X.env.cells scope.names []) s₄.heap.objs.size code bi X.env))),
            toks := s₄.toks + 1 + 1 + 1,
            heap := h'.push { cls := .type "generator", data := .fields #[.int s₄.gens.size 0, .str "<genexpr>" (s₄.toks + 1), .str (X.env.qual ++ "<genexpr>") (s₄.toks + 1 + 1)] } }) X.xe { s2 with heap := h3, toks := tk } := by
    intro code h3 tk more hx hsz hP3 ht3
    obtain ⟨bm, ob, e1, e2, e3, e4, e5, e6, e7, e8⟩ := TB.bm
    have k3 : ∀ b u, b ≠ P → s2.heap.get? b = some u → h3.get? b = some u := fun b u hb e => hx b u hb e
    have gl : h3.Ns X.env.globals X.mg := by
      rw [I2.ok.glob]
      exact ((I2.mod.glob.keeps I2.bk)).extBut hx TB.gP
    refine wpAny_builtinsFor (m := X.mg) gl e1 e2 (k3 _ _ e4 (I2.bk _ _ e5)) e6 e7 e8 ?_
    intro h' hn' hs'
    generalize hgo : ({ cls := .type "generator", data := .fields #[.int s2.gens.size 0, .str "<genexpr>" (tk + 1), .str (X.env.qual ++ "<genexpr>") (tk + 1 + 1)] } : Obj) = go
    have I4 : Inv X pins σ (upd H2 P (.tbl (ps ++ more))) { s2 with heap := h3, toks := tk } := inv_tab (g' := s2.gens) (d' := s2.drawn) (t' := tk) I2 hP k3 hP3 I2.bare
    obtain ⟨W, QL, ⟨m0, w0⟩, hW, hQL⟩ := hmore more ht3
    have nP : ∀ b ∈ fp, b ≠ P := fun b hb z => by
      have q := (f2 b hb).1
      rw [z, hP] at q
      cases q
    have lt2 : ∀ b ∈ fp, b < s2.heap.objs.size := fun b hb => by
      obtain ⟨o, e, _⟩ := T.obj _ _ st2 b hb
      exact Heap.lt_size e
    have f4 : ∀ b ∈ fp, FpOk X pins (upd H2 P (.tbl (ps ++ more))) b ∧ b < h3.objs.size := fun b hb => ⟨⟨by rw [upd_ne (nP b hb)]; exact (f2 b hb).1, (f2 b hb).2⟩, Nat.lt_of_lt_of_le (lt2 b hb) hsz⟩
    have st3 : tn 0 h3 := T.keep _ _ _ st2 fun b hb o e => k3 b o (nP b hb) e
    have nfp : ∀ b ∈ fp, (upd H2 P (.tbl (ps ++ more))) b = none := fun b hb => (f4 b hb).1.1
    have szF : h'.objs.size = h3.objs.size + 1 := by
      rw [hs'.1]
      exact Heap.size_push ..
    have kF : ∀ b o, h3.get? b = some o → h'.get? b = some o := fun b o e => hs'.extBut b o (Nat.ne_of_lt (Heap.lt_size e)) (Heap.get?_push_of_some _ e)
    have k5 : ∀ b o, h3.get? b = some o → (h'.push go).get? b = some o := fun b o e => Heap.get?_push_of_some _ (kF b o e)
    have gd : ∀ h : Heap, h.get? h'.objs.size = some go → h.IsGen h'.objs.size s2.gens.size := fun h e => by
      subst hgo
      exact ⟨_, _, _, e, rfl, rfl, rfl⟩
    have ngd : ∀ v, go.data ≠ .cell v := fun v q => by
      subst hgo
      cases q
    have at5 : (h'.push go).get? h'.objs.size = some go := by
      subst hgo
      exact Heap.get?_push_size _ rfl
    refine hQ _ _ ⟨h'.objs.size, s2.gens.size, _, upd H2 P (.tbl (ps ++ more)), { s2 with heap := h3, toks := tk }, fp, QL, rfl, I4, fun b hb => ⟨(f4 b hb).1.2.2.2.1, (f4 b hb).1.2.1, (f4 b hb).1.2.2.2.2.1, (f4 b hb).1.2.2.2.2.2⟩, ?_, ?_, gd _ at5, Array.getElem?_push_size .., rfl, ?_, I4.nolimit.keeps k5, k5, hQL, ?_⟩
    · show h3.objs.size < h'.objs.size
      omega
    · show h'.objs.size < (h'.push go).objs.size
      rw [Heap.size_push]
      exact Nat.lt_succ_self _
    · exact AllBare.push I2.bare rfl
    intro A S s9 hrA hfr hgu hSz hk9 hS hos hba
    obtain ⟨cS, hS⟩ := hS
    have hSz' : h'.objs.size < S := by
      have z : (h'.push go).objs.size ≤ S := hSz
      rw [Heap.size_push] at z
      exact z
    have hCS : h3.objs.size < S := Nat.lt_trans (by rw [szF]; exact Nat.lt_succ_self _) hSz'
    have k9 : ∀ b o, h3.get? b = some o → s9.heap.get? b = some o := fun b o e => hk9 b o (k5 b o e)
    have hn9 : s9.heap.Ns h3.objs.size (fun y => if y = ".0" then some (.ref it) else none) := (hn'.push go).keeps hk9
    have rmA : Room k (A.deeper (genEnv scope (cloFrom X.env.cells scope.names []) h3.objs.size code builtinsNs X.env)) := hrA.deeper _
    have guA : (A.deeper (genEnv scope (cloFrom X.env.cells scope.names []) h3.objs.size code builtinsNs X.env)).guards = X.A.guards := hgu
    have I9 := gx_start (A := A) (code := code) (S := S) I4 ok hN hcell hfr hrA.hd f4 k9 hn9 hos hba (hk9 _ _ at5) hS (by show h3.objs.size < h'.objs.size; omega) hSz' ngd
    have hap : Apart (gxC X A { s2 with heap := h3, toks := tk } (upd H2 P (.tbl (ps ++ more))) (genEnv scope (cloFrom X.env.cells scope.names []) h3.objs.size code builtinsNs X.env) fp [(h'.objs.size, go)]) S := by
      refine ⟨?_, ?_, fun y d e z => ?_⟩
      · exact Nat.le_of_lt hCS
      · exact Nat.ne_of_gt hCS
      · obtain ⟨v, o, ho, hd⟩ := I9.cell y d e
        rw [z, hS] at ho
        cases ho
        cases hd
    have loop := seg_gxLoop (X := X) (A := A) (s4 := { s2 with heap := h3, toks := tk }) (H4 := upd H2 P (.tbl (ps ++ more))) (env := genEnv scope (cloFrom X.env.cells scope.names []) h3.objs.size code builtinsNs X.env) (fp := fp) (S := S) (a := h'.objs.size) (gi := s2.gens.size) (go := go) (iter := iter) (scope := scope) (pos := gpos) (σ := σ) (vs := own.map (·.2)) (Q := QL)
      T (hg _ _ _ _ _ _ _ _ rmA guA) (ht _ _ _ _ _ _ _ _ rmA guA) (he _ _ _ _ _ _ _ _ rmA guA) hco hW (fun b hb => ⟨Nat.ne_of_lt (Nat.lt_trans (f4 b hb).2 (by rw [szF]; exact Nat.lt_succ_self _)), Nat.ne_of_lt (Nat.lt_trans (f4 b hb).2 hCS)⟩) (Nat.ne_of_lt hSz') hap gd m0 0 [] (upd H2 P (.tbl (ps ++ more))) sizeLine s9 s9 w0 (Nat.add_zero _) ⟨#[], cS, .nil, I9⟩
      (T.keep _ _ _ st3 fun b _ o e => k9 b o e) nfp
    show Seg _ A _ _ _ s9 _ ((compStart (.GeneratorExp elt [⟨tg, iter, ifs, 0⟩] scope gpos) 0 (.ref it) .none (genEnv scope (cloFrom X.env.cells scope.names []) h3.objs.size code builtinsNs X.env)).onRaise (leaving (genEnv scope (cloFrom X.env.cells scope.names []) h3.objs.size code builtinsNs X.env))) [] s9
    unfold compStart
    rw [Sem.onRaise_eq_wrap]
    show Seg _ A _ _ _ s9 _ ((ask >>= _).wrap _ _ _ _) [] s9
    have st9 : tn 0 s9.heap := T.keep _ _ _ st3 fun b _ o e => k9 b o e
    refine seg_bind_wrap (wpAny_askSetting ?_)
    split
    · exact seg_again rfl loop
    · refine seg_bind_wrap (wpAny_rule ?_)
      show Seg _ A _ _ _ s9 _ ((standAt iter.pos >>= _).wrap _ _ _ _) [] s9
      refine seg_bind_wrap (wpAny_standAt ?_)
      exact seg_bind_wrap (T.self _ 0 s9 _ _ st9 (seg_again rfl loop))
  cases hf : codeAmong gpos ps.toList with
  | none =>
    refine wpAny_genexprCodeX hcode (cd.code hPs htr) (cd.tab hPs) hf fun c' h' tk hx hge hlt hco' _ htab' _ => ?_
    obtain ⟨o1, vs, f1, tf, fl, tg1, inF, tx, tt1, op, _, _, _, _, _, _, _, _, _, htr2, _⟩ := hco'
    exact rest _ h' tk _ hx (Nat.le_trans hge (Nat.le_of_lt hlt)) htab'.2 htr2
  | some cv =>
    refine wpAny_genexprCode_hit hcode (cd.code hPs htr) hf ?_
    exact rest cv s2.heap s2.toks #[] (Heap.ExtBut.refl _ _) (Nat.le_refl _) (by rw [hPs]; simp) (by simpa using htr)
end
end GxD

set_option Elab.async false
set_option linter.all false
set_option maxRecDepth 100000
set_option maxHeartbeats 2000000
/-! PDx: the tuple of all that the generator hands out. -/
namespace GxD
open PySem PySem.Spec PyProof.Rows L2 GenW GxR
open AutoSeq1 (wpAny_loadPart')
section
variable {P : Program} {w : World} {outer : List Env} {H : Hp} {sc s : Shared} {ex : List Addr} {QL : List V → Hp → Prop} {A : Around} {a gi : Nat} {c : Code}
/-- drained: the list at S holds all items -/
def Drained (P : Program) (w : World) (outer : List Env) (H : Hp) (sc : Shared) (ex : List Addr) (QL : List V → Hp → Prop) (acc : Array Value) (s' : Shared) : Prop :=
  ∃ (H' : Hp) (ys : List V), Vals ys acc.toList ∧ ys.length ≤ sizeLine ∧ s'.os = sc.os ∧ AllBare s'.gens ∧ Un (frs outer) ex H H' sc.heap s'.heap ∧ HOk P w H' s'.heap ∧ QL ys H'
theorem collect_gx {Q : List Value → Shared → Prop} {E : Value → Shared → Prop} (hh : A.handled = none) (hd : A.depth < recursionLimit) (has : a < s.heap.objs.size) (hg : s.heap.IsGen a gi) (hgs : s.gens[gi]? = some (.fresh c)) (hos : s.os = sc.os) (hb : AllBare s.gens) (hl : s.heap.NoLimit)
    (wake : ∀ (S : Addr) (s2 : Shared), s.heap.objs.size ≤ S → (∀ b o, s.heap.get? b = some o → s2.heap.get? b = some o) → (∃ c, s2.heap.get? S = some (lstObj #[] c)) → s2.os = sc.os → AllBare s2.gens →
      Seg (model P w) A.in1.in1 (REnd P w outer H sc ex S a gi QL E9) (YItem sc S a gi) sizeLine s2 c ((model P w).den c) [] s2)
    (hQ : ∀ s' acc, Drained P w outer H sc ex QL acc s' → Q acc.toList s') : wpAny (model P w) A (collect (.ref a)) Q E s := by
  have nSa : s.heap.objs.size ≠ a := Nat.ne_of_gt has
  have cS : cStatics < s.heap.objs.size := let ⟨_, hn, _⟩ := hl; hn.lt
  have nSc : s.heap.objs.size ≠ cStatics := Nat.ne_of_gt cS
  unfold collect
  refine wpAny_bind (wpAny_runValue ?_)
  refine codeAny_builtin F.entry_proto_collect ?_
  rw [Around.under_plainId F.plain_proto_collect _]
  show wpAny _ A.in1 (newList [] >>= fun l => again (.builtin "list.__iadd__" ⟨[l, .ref a], []⟩)) _ _ s
  refine wpAny_bind ?_
  refine wpAny_newObj_type ?_
  refine wpAny_pure ⟨plainId_quiet F.plain_list_iadd _, ?_⟩
  refine codeAny_builtin F.entry_list_iadd ?_
  rw [Around.under_plainId F.plain_list_iadd _]
  show wpAny _ A.in1 (Builtin.List.listExtendWith (.ref s.heap.objs.size) (.ref a) (.ref s.heap.objs.size)) _ _ _
  unfold Builtin.List.listExtendWith
  have up : ∀ (h : Heap) (f : Obj → Obj), (∀ b o, s.heap.get? b = some o → h.get? b = some o) → ∀ b o, s.heap.get? b = some o → (h.update s.heap.objs.size f).get? b = some o := fun h f q b o e =>
    (Heap.get?_update_other _ _ (Nat.ne_of_gt (Heap.lt_size e))).trans (q b o e)
  have k1 : ∀ b o, s.heap.get? b = some o → (s.heap.push { cls := .type "list", data := .seq ([] : List Value).toArray }).get? b = some o := fun b o e => Heap.get?_push_of_some _ e
  have gy : ∀ {h : Heap}, (∀ b o, s.heap.get? b = some o → h.get? b = some o) → h.IsGen a gi := fun {h} q => hg.keeps q
  refine wpAny_bind ?_
  refine wpAny_typeOf (Heap.IsGen.typeIs (s := { s with heap := _ }) (gy k1)) ?_
  have q1 : Builtin.List.listSameRef (.ref s.heap.objs.size) (.ref a) = false := by simp [Builtin.List.listSameRef, nSa]
  have q2 : (Value.type "generator" == Value.type "list") = false := by decide
  have q3 : (Value.type "generator" == Value.type "tuple") = false := by decide
  simp only [q1, q2, q3, Bool.or_false, Bool.false_eq_true, if_false]
  refine wpAny_bind ?_
  refine wpAny_pyIter_gen (s := { s with heap := _ }) (gy k1) ?_
  refine wpAny_bind ?_
  refine wpAny_holding ?_
  unfold Builtin.List.listLengthHint
  refine wpAny_bind ?_
  refine wpAny_specialOf (Heap.IsGen.typeIs (s := { s with heap := _ }) (gy k1)) F.gen_no_len ?_
  show wpAny _ A.in1 (specialOf (Value.ref a) (Str.ofString "__length_hint__") >>= _) _ _ _
  refine wpAny_bind ?_
  refine wpAny_specialOf (Heap.IsGen.typeIs (s := { s with heap := _ }) (gy k1)) F.gen_no_hint ?_
  refine wpAny_pure ?_
  show wpAny _ A.in1 (rule "list.extend.makes-room" >>= fun _ => Builtin.List.listTouch (.ref s.heap.objs.size) >>= fun _ =>
    again (.builtin "list.extend.loop" ⟨[.ref s.heap.objs.size, .ref a, .ref s.heap.objs.size], []⟩)) _ _ _
  refine wpAny_bind ?_
  refine wpAny_rule ?_
  have S1 : (s.heap.push { cls := .type "list", data := .seq ([] : List Value).toArray }).get? s.heap.objs.size = some { cls := .type "list", data := .seq ([] : List Value).toArray } := Heap.get?_push_size _ rfl
  refine wpAny_bind ?_
  show wpAny _ A.in1 (updateSeq s.heap.objs.size (·.push .none) >>= fun _ => updateSeq s.heap.objs.size (·.pop)) _ _ _
  refine wpAny_bind ?_
  refine wpAny_updateSeq S1 rfl ?_
  have S2 := Heap.get?_update_self (Obj.mapSeq (·.push Value.none)) S1 rfl
  refine wpAny_updateSeq S2 rfl ?_
  have S3 := Heap.get?_update_self (Obj.mapSeq (·.pop)) S2 rfl
  have k3 := up _ (Obj.mapSeq (·.pop)) (up _ (Obj.mapSeq (·.push Value.none)) k1)
  refine wpAny_pure ⟨plainId_quiet F.plain_extend_loop _, ?_⟩
  refine drain (P := P) (w := w) (outer := outer) (H := H) (sc := sc) (ex := ex) (Q := QL) (EX := E9) (A := A) (g := gi) hh hd nSa nSc ?_ ?_ sizeLine _ (gy k3) (hl.keeps k3) ⟨_, hgs, rfl, ?_⟩
  · intro s' acc c1 H' ys e1 e2 e3 e4 e5 e6 e7 e8 e9
    show wpAny _ A (load s.heap.objs.size >>= _) _ _ s'
    refine wpAny_bind ?_
    refine wpAny_load e1 ?_
    refine wpAny_pure ?_
    exact hQ s' acc ⟨H', ys, e2, e3, e4, e5, e6, e7, e9⟩
  · intro e s' hc
    obtain ⟨_, _, _, _, _, _, _, _, _, _, _, _, z⟩ := hc
    exact False.elim z
  · exact wake _ _ (Nat.le_refl _) k3 ⟨_, S3⟩ hos (allBare_setGen (s := { s with heap := _ }) hb rfl)
theorem tuple_new_gx {Q₁ : Value → Shared → Prop} {E : Value → Shared → Prop} (hT : s.TypeIs (.ref a) "generator")
    (hcol : ∀ (Q : List Value → Shared → Prop) (E : Value → Shared → Prop), (∀ s' acc, Drained P w outer H sc ex QL acc s' → Q acc.toList s') → wpAny (model P w) A.in1 (collect (.ref a)) Q E s)
    (h : ∀ s' acc, Drained P w outer H sc ex QL acc s' → Q₁ (.ref s'.heap.objs.size) { s' with heap := s'.heap.push { cls := .type "tuple", data := .seq acc } }) :
    codeAny (model P w) A (.call (.builtin "tuple.__new__") ⟨[.type "tuple", .ref a], []⟩) (wants Q₁ E) s := by
  refine codeAny_of_tree ?_
  show wpAny _ A.in1 (do checkBuiltinCall "tuple.__new__" ⟨[.type "tuple", .ref a], []⟩; again (.builtin "tuple.__new__" ⟨[.type "tuple", .ref a], []⟩)) _ _ s
  refine wpAny_bind ?_
  refine wpAny_of_eq (F.newCall_tuple_1 _) ?_
  refine wpAny_pure ⟨plainId_quiet F.plain_tuple_new _, ?_⟩
  refine codeAny_builtin F.entry_tuple_new ?_
  rw [Around.under_plainId F.plain_tuple_new _]
  have hsub := sub_tuple_self
  have hinit := init_tuple_lookup
  have hmh := madeHere_tuple
  wp_walk using wpAny_typeOf hT, hcol
  intro s' acc hD
  show wpAny _ _ (Builtin.Tuple.tupleExact acc.toList.toArray >>= fun v => ret v) _ _ _
  have e : acc.toList.toArray = acc := by simp
  rw [e]
  unfold Builtin.Tuple.tupleExact
  refine wpAny_bind ?_
  have hz : acc.size ≤ sizeLine := by
    obtain ⟨H', ys, v, hl, _⟩ := hD
    have e1 := v.length
    have e2 : acc.toList.length = acc.size := by simp
    omega
  refine wpAny_newObj_type ?_ hz
  refine wpAny_pure ?_
  exact h s' acc hD
end
section
variable {X : Cx}
/-- tuple(elt for tg in iter if ..) -/
theorem pe_tupGx {elt tg iter : Expr} {ifs : List Expr} {scope : Scope} {own : List (Str × Nat)} {gpos p pos : Pos} {wi : TI} {g : TG} {tt : TT} {te : TE} {k : Nat} {c P : Addr} (hr : Room (k + 2) X.A) (hgl : Gl X "tuple") (hm : X.mg "tuple" = none) (TB : TabB X.base X.mg c P) (hcode : X.env.code = .ref c)
    (hN : X.N.Nodup) (hi : PI X tg iter wi) (ok : BlkOk X.N X.env.scope scope own) (hg : GxB X scope k fun Y => PG Y tg g) (ht : GxB X scope k fun Y => PTs Y ifs tt) (he : GxB X scope k fun Y => PE Y elt te) (hcell : ∀ y ∈ scope.names, y.2 ≠ .cell) (hco : scope.isCoroutine = false := by rfl)
    (h0 : scope.names.lookup (".0" : Str) = some NameKind.local := by rfl) (hs : ∀ v, genFold iter X.env v = pure v := by intro _; rfl)
    (hst : starEach [.GeneratorExp elt [⟨tg, iter, ifs, 0⟩] scope gpos] X.env = (false, eval (.GeneratorExp elt [⟨tg, iter, ifs, 0⟩] scope gpos) X.env) :: starEach [] X.env := by rfl) :
    PE X (.Call (.Name "tuple" p) [.GeneratorExp elt [⟨tg, iter, ifs, 0⟩] scope gpos] [] pos) (tGx P wi g tt te (own.map (·.2))) := by
  refine ⟨fun pins s σ H Q I h => ?_⟩
  refine wpAny_Call_Name_kw (ld_blt I hgl hm boot_tuple ?_ (by decide) (by decide))
  refine PyProof.Rows.callWith_type1 ?_ hst rfl
  rw [hst]
  show wpAny _ _ (spliced ((false, eval (.GeneratorExp elt [⟨tg, iter, ifs, 0⟩] scope gpos) X.env) :: backTo pos (starEach [] X.env))) _ _ s
  refine Calls.spliced_cons ?_
  refine gx_make (hr.mono (by omega)) TB hcode hN hi ok hco hcell h0 hg ht he hs I h fun u s5 hM => ?_
  refine Calls.spliced_nil ?_
  obtain ⟨a, gi, cd, H4, s4, fp, QL, rfl, I4, hex, ha4, ha5, hgn, hgs, hos, hb, hl, k5, hQL, wake⟩ := hM
  refine callType_codes (Q₁ := fun obj s₁ => s₁.TypeIs obj "tuple" ∧ EP X pins σ Q obj s₁) F.called_tuple (F.typeCall_tuple_1 _) F.entry_object_init ?_ fun obj s₁ h₁ => ?_
  · refine tuple_new_gx (P := X.prog) (w := X.w) (outer := X.stack) (H := H4) (sc := s4) (ex := fp) (QL := QL) (hgn.typeIs) (fun Q' E' hQ' => ?_) fun s' acc hD => ⟨⟨_, Heap.get?_push_size _ rfl, rfl⟩, ?_⟩
    · refine collect_gx hr.hd (by have := hr.dp; show X.A.depth < _; omega) ha5 hgn hgs hos hb hl (fun S s2 q1 q2 q3 q4 q5 => ?_) hQ'
      refine wake _ S s2 ⟨hr.hd, ?_, ?_⟩ I4.ok.frames rfl q1 q2 q3 q4 q5
      · have := hr.dp
        show X.A.depth + 3 * (k + 1) + 5 < _
        omega
      · have := hr.un
        show X.A.units + 1 + 1 + 1 + 1 + 16 * (k + 1) + 200 < _
        omega
    · obtain ⟨H', ys, rv, hlen, e1, e2, e3, e4, e5⟩ := hD
      have J : Inv X pins σ H' s' := I4.call' (ch := fp) e1 e3 e4 e2 hex
      have e9 : acc.toList.toArray = acc := by simp
      have J2 := PD.laidT (tk := s'.toks) J hlen rv (hQL ys H' e5)
      rw [e9] at J2
      exact J2
  · exact ⟨h₁.1, F.args_object_init_2 obj _, object_init_meets F.called_tuple.init.lookup F.called_tuple.made (by decide) X.prog X.w X.A.in1 _ s₁ ⟨h₁.1, rfl, h₁.2⟩⟩
end
end GxD

set_option Elab.async false
set_option linter.all false
set_option maxRecDepth 100000
set_option maxHeartbeats 1000000
/-! PDy: tuple(e for x in xs if t) as a function of data. -/
namespace PD
open PySem PySem.Spec PyProof.Rows L2 GxR
section
variable [TheW]
theorem Sta.grow {K : PySem.W.Frag} {Γ : Gm} {σ : L2.St} {H G : Hp} {s : DS} (S : Sta K Γ σ H G s) {P : Addr} {ps more : Array Value} (hP : H P = some (.tbl ps)) (ok : TriplesOk (ps ++ more).toList) :
    Sta K Γ σ (upd H P (.tbl (ps ++ more))) G s ∧ Stp Γ σ H G s (upd H P (.tbl (ps ++ more))) G s := by
  have nG : ∀ b o, G b = some o → b ≠ P := fun b o e z => by
    have h := S.sub b o e
    rw [z, hP] at h
    cases h
    exact S.gnt b ps e
  have nt : ∀ b o, isT o = false → H b = some o → b ≠ P := fun b o n e z => by
    rw [z, hP] at e
    cases e
    cases n
  have pf : Γ.fa ≠ P := fun z => by
    obtain ⟨c, h1, _⟩ := S.fd
    rw [z, hP] at h1
    cases h1
  have tg : TGr H (upd H P (.tbl (ps ++ more))) := fun b qs e => by
    by_cases z : b = P
    · rw [z, hP] at e
      cases e
      exact ⟨more, by rw [z, upd_same]⟩
    · exact ⟨#[], by rw [upd_ne z, e]; simp⟩
  refine ⟨⟨fun b x e => ?_, S.g0, S.fr, fun b x h1 n2 h2 => ?_, S.len, fun i sl e => ?_, S.dis, S.new, ?_, fun b qs e => ?_, S.tgr.trans tg, S.gnt⟩, ⟨Same.refl _, fun b x _ _ n2 e => ?_, fun _ e => e, fun b e => .inl e, fun b e => ?_, tg⟩⟩
  · rw [upd_ne (nG b x e)]
    exact S.sub b x e
  · have q := S.keep b x h1 n2 h2
    rw [upd_ne (nt b x n2 q)]
    exact q
  · obtain ⟨v, h1, h2⟩ := S.env i sl e
    refine ⟨v, h1, h2.step (Same.refl _) fun ow q hq => ?_⟩
    obtain ⟨q', o', e1, e2, e3, _⟩ := h2.ownP ow
    have n2 := h2.ownNT ow e1 e2
    rw [hq] at e1
    cases e1
    exact ⟨upd_ne (nt _ _ n2 e2), e3⟩
  · obtain ⟨c, h1, h2, h3⟩ := S.fd
    exact ⟨c, by rw [upd_ne pf]; exact h1, h2, h3⟩
  · by_cases z : b = P
    · rw [z, upd_same] at e
      cases e
      exact ok
    · rw [upd_ne z] at e
      exact S.tok b qs e
  · rw [upd_ne (nt b x n2 e)]
    exact e
  · by_cases z : b = P
    · rw [z, upd_same]
      simp
    · rw [upd_ne z]
      exact e
end
def fGx (vs : List Nat) (w : Wf) (t : Tg) (ft : Bf) (fe : Ef) : Ef := fun s => (w s).bind fun (ds, s1) => if plainAt s1.env vs = true then
    (lcLoop vs t ft fe ds [] ⟨wipeE s1.env vs, s1.fs⟩).map fun (xs, s2) => (.val (.tuple xs), ⟨restE s1.env s2.env vs, s2.fs⟩) else none
@[simp] theorem fGx_ap (vs : List Nat) (w : Wf) (t : Tg) (ft : Bf) (fe : Ef) (s : DS) : fGx vs w t ft fe s = (w s).bind fun (ds, s1) => if plainAt s1.env vs = true then
    (lcLoop vs t ft fe ds [] ⟨wipeE s1.env vs, s1.fs⟩).map fun (xs, s2) => (.val (.tuple xs), ⟨restE s1.env s2.env vs, s2.fs⟩) else none := rfl
section
variable [TheW]
variable {X : Cx} {Γ : Gm}
theorem gx_read {elt tg iter : Expr} {ifs : List Expr} {scope : Scope} {own : List (Str × Nat)} {w : Wf} {t : Tg} {ft : Bf} {fe : Ef} {k : Nat} {P : Addr} {tb : Addr → Prop} (hT : TbAt tb Γ.H0) (hP : tb P) (hi : PId X Γ tg iter t w)
    (hg : GxD.GxB X scope k fun Y => PGd Y Γ tg t) (ht : GxD.GxB X scope k fun Y => PTsd Y Γ ifs ft) (he : GxD.GxB X scope k fun Y => PEd Y Γ elt fe) (hsub : t.slots.all (fun i => decide (i ∈ own.map (·.2))) = true) :
    ∃ (wi : TI) (g : TG) (tt : TT) (te : TE), PI X tg iter wi ∧ (GxD.GxB X scope k fun Y => PG Y tg g) ∧ (GxD.GxB X scope k fun Y => PTs Y ifs tt) ∧ (GxD.GxB X scope k fun Y => PE Y elt te) ∧
      ∀ (σ : L2.St) (H G : Hp) (s s' : DS) (r : Pl) (Q : VK), Sta X.K Γ σ H G s → fGx (own.map (·.2)) w t ft fe s = some (r, s') →
        (∀ v H' G', Sta X.K Γ σ H' G' s' → Stp Γ σ H G s H' G' s' → Got X.K Γ H H' G' v r → Q v H') → GxD.tGx P wi g tt te (own.map (·.2)) σ H Q := by
  obtain ⟨wi, pi, ki⟩ := hi
  let g : TG := fun v σ H Q => ∀ (A : Around) (s : Shared) (H' : Hp) (C : Addr) (code : Value) (cl : List (Str × Addr)) (fp : List Addr) (pn : List (Addr × Obj)) h1 h2, (Classical.choose (hg A s H' C code cl fp pn h1 h2)) v σ H Q
  let tt : TT := fun σ H Q => ∀ (A : Around) (s : Shared) (H' : Hp) (C : Addr) (code : Value) (cl : List (Str × Addr)) (fp : List Addr) (pn : List (Addr × Obj)) h1 h2, (Classical.choose (ht A s H' C code cl fp pn h1 h2)) σ H Q
  let te : TE := fun σ H Q => ∀ (A : Around) (s : Shared) (H' : Hp) (C : Addr) (code : Value) (cl : List (Str × Addr)) (fp : List Addr) (pn : List (Addr × Obj)) h1 h2, (Classical.choose (he A s H' C code cl fp pn h1 h2)) σ H Q
  refine ⟨wi, g, tt, te, pi, fun A s H C code cl fp pn h1 h2 => ⟨fun pins s1 σ H1 v u Q I r q => (Classical.choose_spec (hg A s H C code cl fp pn h1 h2)).1.run pins s1 σ H1 v u Q I r (q A s H C code cl fp pn h1 h2)⟩,
    fun A s H C code cl fp pn h1 h2 => ⟨fun pins s1 σ H1 Q I q => (Classical.choose_spec (ht A s H C code cl fp pn h1 h2)).1.run pins s1 σ H1 Q I (q A s H C code cl fp pn h1 h2)⟩,
    fun A s H C code cl fp pn h1 h2 => ⟨fun pins s1 σ H1 Q I q => (Classical.choose_spec (he A s H C code cl fp pn h1 h2)).1.run pins s1 σ H1 Q I (q A s H C code cl fp pn h1 h2)⟩, fun σ H G s s' r Q S hf hq => ?_⟩
  have kg : ∀ (σ : L2.St) (H G : Hp) (s s' : DS) (v : V) (r : Pl) (Q : L2.St → Hp → Prop), Sta X.K Γ σ H G s → FitT X.K Γ σ H G s v r t → t.put r s = some s' →
    (∀ σ', Sta X.K Γ σ' H G s' → (∀ vs : List Nat, (∀ i ∈ t.slots, i ∈ vs) → wipe σ' vs = wipe σ vs) → Q σ' H) → g v σ H Q := fun σ H G s s' v r Q a b c d A s2 H' C code cl fp pn h1 h2 => (Classical.choose_spec (hg A s2 H' C code cl fp pn h1 h2)).2 σ H G s s' v r Q a b c d
  have kt : ∀ (σ : L2.St) (H G : Hp) (s s' : DS) (b : Bool) (Q : Bool → Hp → Prop), Sta X.K Γ σ H G s → ft s = some (b, s') →
    (∀ H' G', Sta X.K Γ σ H' G' s' → Stp Γ σ H G s H' G' s' → Q b H') → tt σ H Q := fun σ H G s s' b Q a h d A s2 H' C code cl fp pn h1 h2 => (Classical.choose_spec (ht A s2 H' C code cl fp pn h1 h2)).2 σ H G s s' b Q a h d
  have ke : ∀ (σ : L2.St) (H G : Hp) (s s' : DS) (r : Pl) (Q : VK), Sta X.K Γ σ H G s → fe s = some (r, s') →
    (∀ v H' G', Sta X.K Γ σ H' G' s' → Stp Γ σ H G s H' G' s' → Got X.K Γ H H' G' v r → Q v H') → te σ H Q := fun σ H G s s' b Q a h d A s2 H' C code cl fp pn h1 h2 => (Classical.choose_spec (he A s2 H' C code cl fp pn h1 h2)).2 σ H G s s' b Q a h d
  have hsub' : ∀ i ∈ t.slots, i ∈ own.map (·.2) := fun i h => of_decide_eq_true (List.all_eq_true.mp hsub i h)
  generalize own.map (·.2) = vs at hf hsub' ⊢
  unfold fGx at hf
  cases h1 : w s with
  | none => rw [h1] at hf; cases hf
  | some q =>
  obtain ⟨ds, s1⟩ := q
  simp only [h1, Option.bind_some] at hf
  by_cases hp : plainAt s1.env vs = true
  case neg => rw [if_neg hp] at hf; cases hf
  rw [if_pos hp] at hf
  cases h2 : lcLoop vs t ft fe ds [] ⟨wipeE s1.env vs, s1.fs⟩ with
  | none => rw [h2] at hf; cases hf
  | some q2 =>
  obtain ⟨xs, sF⟩ := q2
  rw [h2] at hf
  cases hf
  refine ki σ H G s s1 ds _ S h1 fun J H1 G1 S1 T1 W1 => ?_
  obtain ⟨ps, hps⟩ := hT.grow S1.tgr P hP
  refine ⟨ps, hps, S1.tok P ps hps, fun more hmore => ?_⟩
  obtain ⟨S1', U1⟩ := S1.grow hps hmore
  have Sw : Sta X.K Γ (wipe σ vs) (upd H1 P (.tbl (ps ++ more))) G1 ⟨wipeE s1.env vs, s1.fs⟩ := S1'.wiped
  generalize upd H1 P (.tbl (ps ++ more)) = H1' at *
  refine ⟨fun i m va H => ∃ (G2 : Hp) (s2 : DS) (acc : List PyData), Sta X.K Γ (wipe σ vs) H G2 s2 ∧ Stp Γ (wipe σ vs) H1' G1 ⟨wipeE s1.env vs, s1.fs⟩ H G2 s2 ∧ RpAll X.K G2 va acc ∧
    (∀ v ∈ vs, ∀ a, s2.env[v]? ≠ some (some a)) ∧ i + m = ds.length ∧ lcLoop vs t ft fe (ds.drop i) acc s2 = some (xs, sF),
    fun va H => ∃ (G2 : Hp) (s2 : DS), Sta X.K Γ (wipe σ vs) H G2 s2 ∧ Stp Γ (wipe σ vs) H1' G1 ⟨wipeE s1.env vs, s1.fs⟩ H G2 s2 ∧ RpAll X.K G2 va xs ∧ s2 = sF, ⟨ds.length, G1, ⟨wipeE s1.env vs, s1.fs⟩, [], ?_⟩, fun i m va H2 hW => ?_, fun va H2 hE => ?_⟩
  · exact ⟨Sw, .refl, .nil, fun v hv a e => (wipeE_some e).2 hv, by omega, by rw [List.drop_zero]; exact h2⟩
  · obtain ⟨G2, s2, acc, S2, T2, ra, hvs, hm, hl⟩ := hW
    obtain ⟨w1, w2⟩ := W1 (wipe σ vs) H2 G2 s2 S2 T2.gg
    by_cases hlt : i < ds.length
    case neg =>
      refine .inl ⟨w2 i (by omega), ?_⟩
      rw [List.drop_eq_nil_of_le (by omega)] at hl
      unfold lcLoop at hl
      cases hl
      exact ⟨G2, _, S2, T2, ra, rfl⟩
    refine .inr ?_
    have hd : ds[i]? = some ds[i] := List.getElem?_eq_getElem hlt
    obtain ⟨go, yl⟩ := w1 i ds[i] hd
    rw [List.drop_eq_getElem_cons hlt] at hl
    unfold lcLoop at hl
    cases h3 : t.put (.val ds[i]) s2 with
    | none => rw [h3] at hl; cases hl
    | some s3 =>
    simp only [h3, Option.bind_some] at hl
    cases h4 : ft s3 with
    | none => rw [h4] at hl; cases hl
    | some q4 =>
    obtain ⟨b, s4⟩ := q4
    simp only [h4, Option.bind_some] at hl
    refine ⟨go, fun va H => ∃ (G2 : Hp) (s2 : DS) (acc : List PyData), Sta X.K Γ (wipe σ vs) H G2 s2 ∧ Stp Γ (wipe σ vs) H1' G1 ⟨wipeE s1.env vs, s1.fs⟩ H G2 s2 ∧ RpAll X.K G2 va acc ∧
      (∀ v ∈ vs, ∀ a, s2.env[v]? ≠ some (some a)) ∧ (i + 1) + (m - 1) = ds.length ∧ lcLoop vs t ft fe (ds.drop (i + 1)) acc s2 = some (xs, sF),
      fun zs H' ⟨a1, a2, a3, a4, a5, a6, a7, a8, a9⟩ => ⟨m - 1, by omega, a1, a2, a3, a4, a5, a6, a7, a8, a9⟩, fun x H' hy => ?_⟩
    obtain ⟨G3, S3, T3, fit⟩ := yl x H' hy
    refine kg (wipe σ vs) H' G3 s2 s3 x (.val ds[i]) _ S3 (fit ⟨s3, h3⟩) h3 fun σ4 S4 w4 => ?_
    have hw : wipe σ4 vs = wipe σ vs := (w4 vs hsub').trans (wipe_idem vs)
    refine ⟨hw, ?_⟩
    have o3 : ∀ b, OwnAt σ4 s3 b → OwnAt (wipe σ vs) s2 b := fun b ⟨j, a, e1, e2, e3⟩ => by
      have f1 := put_own t _ s2 s3 h3 j a e1 e2
      have f2 : j ∉ vs := fun z => hvs j z a f1
      refine ⟨j, a, f1, e2, ?_⟩
      rw [← hw, wipe_out f2]
      exact e3
    have o5 : ∀ (s5 : DS) (b : Addr), OwnAt (wipe σ vs) ⟨wipeE s5.env vs, s5.fs⟩ b → OwnAt σ4 s5 b := fun s5 b ⟨j, a, e1, e2, e3⟩ => by
      obtain ⟨f1, f2⟩ := wipeE_some e1
      rw [← hw, wipe_out f2] at e3
      exact ⟨j, a, f1, e2, e3⟩
    have T23 := T2.trans T3
    refine kt σ4 H' G3 s3 s4 b _ S4 h4 fun H5 G5 S5 T5 => ?_
    cases b with
    | false =>
      rw [if_neg Bool.false_ne_true] at hl ⊢
      exact ⟨G5, ⟨wipeE s4.env vs, s4.fs⟩, acc, by rw [← hw]; exact S5.wiped, turnStp T23 o3 T5 (o5 s4), ra.mono (T3.gg.trans T5.gg), fun v hv a e => (wipeE_some e).2 hv, by omega, hl⟩
    | true =>
      rw [if_pos rfl] at hl ⊢
      cases h5 : fe s4 with
      | none => rw [h5] at hl; cases hl
      | some q5 =>
      obtain ⟨r, s5⟩ := q5
      simp only [h5, Option.bind_some] at hl
      refine ke σ4 H5 G5 s4 s5 r _ S5 h5 fun v H6 G6 S6 T6 g6 => ?_
      obtain ⟨G7, S7, T7, r7⟩ := S5.freeze S6 T6 g6
      have T57 := T5.trans T7
      split at hl
      · rename_i y ey
        rw [ey] at r7
        by_cases hz : acc.length < sizeLine
        case neg => rw [if_neg hz] at hl; cases hl
        rw [if_pos hz] at hl
        have T8 := turnStp T23 o3 T57 (o5 s5)
        have Sw7 : Sta X.K Γ (wipe σ vs) H6 G7 ⟨wipeE s5.env vs, s5.fs⟩ := by rw [← hw]; exact S7.wiped
        refine ⟨by rw [ra.length]; exact hz, G7, ⟨wipeE s5.env vs, s5.fs⟩, acc ++ [y], Sw7, T8, (ra.mono (T3.gg.trans T57.gg)).append (.cons r7 .nil), fun v hv a e => (wipeE_some e).2 hv, by omega, hl⟩
      · cases hl
  · obtain ⟨G2, s2, S2, T2, ra, rfl⟩ := hE
    obtain ⟨A, B⟩ := S1'.rested (plainAt_of hp) S2 T2
    exact newT A ra fun v H' G' S' T' g' => hq v H' G' S' ((T1.trans U1).trans (B.trans T')) (g'.later ((T1.trans U1).trans B))
theorem pd_tupG {elt tg iter : Expr} {ifs : List Expr} {scope : Scope} {own : List (Str × Nat)} {gpos p pos : Pos} {w : Wf} {t : Tg} {ft : Bf} {fe : Ef} {k : Nat} {c P : Addr} {tb : Addr → Prop} (hT : TbAt tb Γ.H0) (hP : tb P) (hr : Room (k + 2) X.A) (hgl : Gl X "tuple") (hm : X.mg "tuple" = none) (TB : TabB X.base X.mg c P) (hcode : X.env.code = .ref c)
    (hN : X.N.Nodup) (hi : PId X Γ tg iter t w) (ok : BlkOk X.N X.env.scope scope own) (hg : GxD.GxB X scope k fun Y => PGd Y Γ tg t) (ht : GxD.GxB X scope k fun Y => PTsd Y Γ ifs ft) (he : GxD.GxB X scope k fun Y => PEd Y Γ elt fe) (hcell : scope.names.all (fun y => decide (y.2 ≠ .cell)) = true := by rfl)
    (hsub : t.slots.all (fun i => decide (i ∈ own.map (·.2))) = true := by rfl) (hco : scope.isCoroutine = false := by rfl) (h0 : scope.names.lookup (".0" : Str) = some NameKind.local := by rfl) (hs : ∀ v, genFold iter X.env v = pure v := by intro _; rfl)
    (hst : starEach [.GeneratorExp elt [⟨tg, iter, ifs, 0⟩] scope gpos] X.env = (false, eval (.GeneratorExp elt [⟨tg, iter, ifs, 0⟩] scope gpos) X.env) :: starEach [] X.env := by rfl) :
    PEd X Γ (.Call (.Name "tuple" p) [.GeneratorExp elt [⟨tg, iter, ifs, 0⟩] scope gpos] [] pos) (fGx (own.map (·.2)) w t ft fe) := by
  obtain ⟨wi, g, tt, te, pi, pg, pt, pe, kk⟩ := gx_read (P := P) hT hP hi hg ht he hsub
  exact ⟨_, GxD.pe_tupGx hr hgl hm TB hcode hN pi ok pg pt pe (fun y hy => of_decide_eq_true (List.all_eq_true.mp hcell y hy)) hco h0 hs hst, kk⟩
end
end PD

set_option Elab.async false
set_option linter.all false
set_option maxRecDepth 100000
set_option maxHeartbeats 1000000
/-! PDr: the functions on data worked out. -/
namespace PD
open PySem PySem.Spec PyProof.Rows L2
/-! ### places -/
@[simp] theorem atI_natE {α : Type} (xs : List α) (n : Nat) : L2.atI xs (n : Int) = xs[n]? := by
  unfold L2.atI ixN
  by_cases h : n < xs.length
  · simp [h]
  · rw [List.getElem?_eq_none (by omega)]
    simp
    omega
@[simp] theorem atI_lit {α : Type} (xs : List α) (n : Nat) : L2.atI xs (no_index (OfNat.ofNat n : Int)) = xs[n]? := atI_natE xs n
@[simp] theorem atI_zero {α : Type} (xs : List α) : L2.atI xs 0 = xs[0]? := atI_natE xs 0
@[simp] theorem atI_one {α : Type} (xs : List α) : L2.atI xs 1 = xs[1]? := atI_natE xs 1
@[simp] theorem atI_neg1 {α : Type} (xs : List α) : L2.atI xs (-1) = xs.getLast? := by
  cases e : xs.reverse with
  | nil =>
    have : xs = [] := by simpa using e
    subst this
    rfl
  | cons a r =>
    have : xs = r.reverse ++ [a] := by
      have := congrArg List.reverse e
      simpa using this
    subst this
    rw [atI_last]
    simp
/-! ### operators -/
theorem gOr_some {g g' : Pl → Pl → Option Pl} {a b c : Pl} (h : g a b = some c) : gOr g g' a b = some c := by unfold gOr; rw [h]
theorem gOr_none {g g' : Pl → Pl → Option Pl} {a b : Pl} (h : g a b = none) : gOr g g' a b = g' a b := by unfold gOr; rw [h]
theorem gOr_right {g g' : Pl → Pl → Option Pl} {a b : Pl} (h : g' a b = none) : gOr g g' a b = g a b := by
  unfold gOr
  rw [h]
  cases g a b <;> rfl
def isNone : PyData → Bool
  | .none => true
  | _ => false
section
variable (i j : Int) (x y : Str) (a b : List PyData) (d e : PyData) (neg : Bool)
@[simp] theorem gAdd_ii : gAdd (.val (.int i)) (.val (.int j)) = some (.val (.int (i + j))) := rfl
@[simp] theorem gAdd_ss : gAdd (.val (.str x)) (.val (.str y)) = if x.length + y.length ≤ sizeLine then some (.val (.str (x ++ y))) else none := by
  by_cases h : x.length + y.length ≤ sizeLine <;> simp [gAdd, gOr, gI, gS, gCatL, gCatT, h]
@[simp] theorem gAdd_ll : gAdd (.val (.list a)) (.val (.list b)) = if a.length + b.length ≤ sizeLine then some (.ownL (a ++ b)) else none := by
  by_cases h : a.length + b.length ≤ sizeLine <;> simp [gAdd, gOr, gI, gS, gCatL, gCatT, h]
@[simp] theorem gAdd_tt : gAdd (.val (.tuple a)) (.val (.tuple b)) = if a.length + b.length ≤ sizeLine then some (.val (.tuple (a ++ b))) else none := by
  by_cases h : a.length + b.length ≤ sizeLine <;> simp [gAdd, gOr, gI, gS, gCatL, gCatT, h]
@[simp] theorem gMul_ii : gMul (.val (.int i)) (.val (.int j)) = if cMulB i j = true then some (.val (.int (i * j))) else none := by
  by_cases h : cMulB i j = true <;> simp [gMul, gOr, gMulI, gI, gRepL, gRepT, h]
@[simp] theorem gMul_li : gMul (.val (.list a)) (.val (.int j)) = if rOk j = true ∧ a.length * j.toNat ≤ sizeLine then some (.ownL (List.replicate j.toNat a).flatten) else none := by
  by_cases h : rOk j = true ∧ a.length * j.toNat ≤ sizeLine
  · simp only [gMul, gOr, gMulI, gI, gRepL, gRepT, if_pos h]
  · simp only [gMul, gOr, gMulI, gI, gRepL, gRepT, if_neg h]
@[simp] theorem gMul_ti : gMul (.val (.tuple a)) (.val (.int j)) = if 1 ≤ j ∧ j ≤ 1000 ∧ a.length ≤ 1000 then some (.val (.tuple (List.replicate j.toNat a).flatten)) else none := by
  by_cases h : 1 ≤ j ∧ j ≤ 1000 ∧ a.length ≤ 1000
  · simp only [gMul, gOr, gMulI, gI, gRepL, gRepT, if_pos h]
  · simp only [gMul, gOr, gMulI, gI, gRepL, gRepT, if_neg h]
@[simp] theorem gSubI_ii : gSubI (.val (.int i)) (.val (.int j)) = some (.val (.int (i - j))) := rfl
@[simp] theorem gModI_ii : gModI (.val (.int i)) (.val (.int j)) = if 0 < j then some (.val (.int (i % j))) else none := by
  by_cases h : 0 < j <;> simp [gModI, gI, h]
@[simp] theorem gDivI_ii : gDivI (.val (.int i)) (.val (.int j)) = if cDivB i j = true then some (.val (.int (i / j))) else none := rfl
@[simp] theorem gPowI_ii : gPowI (.val (.int i)) (.val (.int j)) = if 0 ≤ j ∧ j ≤ 1000000 ∧ i.natAbs < 2 ^ 64 then some (.val (.int (i ^ j.toNat))) else none := by
  by_cases h : 0 ≤ j ∧ j ≤ 1000000 ∧ i.natAbs < 2 ^ 64
  · simp only [gPowI, gI, decide_eq_true h, if_pos h, if_true]
  · simp only [gPowI, gI, decide_eq_false h, if_neg h, Bool.false_eq_true, if_false]
@[simp] theorem gSub_ti : gSub (.val (.tuple a)) (.val (.int i)) = (atI a i).map .val := by
  exact gOr_right rfl
@[simp] theorem gSub_li : gSub (.val (.list a)) (.val (.int i)) = (atI a i).map .val := by
  exact gOr_right rfl
@[simp] theorem gSub_si : gSub (.val (.str x)) (.val (.int i)) = if x.length ≤ sizeLine then (atI x.cps.toList i).map fun c => .val (.str ⟨#[c]⟩) else none := by
  exact gOr_right rfl
@[simp] theorem gSub_dk (kvs : List (Key × PyData)) : gSub (.dic kvs) (.val d) = (keyD d).bind fun k => (lookD kvs k).map .val := rfl
@[simp] theorem gEq_vv : gEq neg (.val d) (.val e) = if SeqAt.shaped d && SeqAt.shaped e then some (.val (.bool (if neg then !PyData.eqv d e else PyData.eqv d e))) else none := rfl
@[simp] theorem gIn_l : gIn neg (.val d) (.val (.list b)) = if SeqAt.shaped d && SeqAt.shaped (.list b) then some (.val (.bool (if neg then !(b.any fun z => PyData.eqv z d) else b.any fun z => PyData.eqv z d))) else none := by
  have h3 : gInS neg (.val d) (.val (.list b)) = none := by unfold gInS; cases d <;> rfl
  exact (gOr_right ((gOr_none h3).trans rfl)).trans (gOr_right rfl)
@[simp] theorem gIn_t : gIn neg (.val d) (.val (.tuple b)) = if SeqAt.shaped d && SeqAt.shaped (.tuple b) then some (.val (.bool (if neg then !(b.any fun z => PyData.eqv z d) else b.any fun z => PyData.eqv z d))) else none := by
  have h3 : gInS neg (.val d) (.val (.tuple b)) = none := by unfold gInS; cases d <;> rfl
  exact (gOr_right ((gOr_none h3).trans rfl)).trans (gOr_none rfl)
@[simp] theorem gIn_s (c : Nat) : gIn neg (.val (.str ⟨#[c]⟩)) (.val (.str y)) = some (.val (.bool (if neg then !decide (c ∈ y.cps.toList) else decide (c ∈ y.cps.toList)))) := rfl
@[simp] theorem gIn_d (kvs : List (Key × PyData)) : gIn neg (.val d) (.dic kvs) = (keyD d).map fun k => .val (.bool (if neg then !(lookD kvs k).isSome else (lookD kvs k).isSome)) := by
  have h3 : gInS neg (.val d) (.dic kvs) = none := by unfold gInS; cases d <;> rfl
  exact (gOr_none (gOr_none rfl)).trans ((gOr_none h3).trans rfl)
@[simp] theorem gLt_ii : gLt (.val (.int i)) (.val (.int j)) = some (.val (.bool (decide (i < j)))) := rfl
@[simp] theorem gLe_ii : gLe (.val (.int i)) (.val (.int j)) = some (.val (.bool (decide (i ≤ j)))) := rfl
@[simp] theorem gGt_ii : gGt (.val (.int i)) (.val (.int j)) = some (.val (.bool (decide (j < i)))) := rfl
@[simp] theorem gGe_ii : gGe (.val (.int i)) (.val (.int j)) = some (.val (.bool (decide (j ≤ i)))) := rfl
@[simp] theorem gLt_ss : gLt (.val (.str x)) (.val (.str y)) = some (.val (.bool (decide (x.cps.toList < y.cps.toList)))) := rfl
@[simp] theorem gIsN_v : gIsN neg (.val d) = some (.val (.bool (if neg then !isNone d else isNone d))) := by cases d <;> cases neg <;> rfl
@[simp] theorem gLen_l : gLen (.val (.list a)) = some (.val (.int a.length)) := rfl
@[simp] theorem gLen_t : gLen (.val (.tuple a)) = some (.val (.int a.length)) := rfl
@[simp] theorem gLen_s : gLen (.val (.str x)) = if x.length ≤ sizeLine then some (.val (.int x.length)) else none := by
  by_cases h : x.length ≤ sizeLine <;> simp [gLen, gOr1, gLenQ, gLenS, gLenD, h]
@[simp] theorem gTupleOf_l : gTupleOf (.val (.list a)) = some (.val (.tuple a)) := rfl
@[simp] theorem gTupleOf_t : gTupleOf (.val (.tuple a)) = some (.val (.tuple a)) := rfl
@[simp] theorem gList_l : gList (.val (.list a)) = some (.ownL a) := rfl
@[simp] theorem gList_t : gList (.val (.tuple a)) = some (.ownL a) := rfl
@[simp] theorem gList_d (kvs : List (Key × PyData)) : gList (.dic kvs) = some (.ownL (kvs.map fun kv => kD kv.1)) := rfl
@[simp] theorem gIsi_v (n : String) : gIsi n (.val d) = some (.val (.bool (isi n d))) := rfl
@[simp] theorem gInt1_i : gInt1 (.val (.int i)) = some (.val (.int i)) := rfl
@[simp] theorem gBools_b (g : List Bool → Bool) (bs : List Bool) : gBools g (.val (.list (bs.map PyData.bool))) = some (.val (.bool (g bs))) := by
  have e : gBools g (.val (.list (bs.map PyData.bool))) = (boolsOf (bs.map PyData.bool)).map fun bs => .val (.bool (g bs)) := rfl
  rw [e, boolsOf_bools]
  rfl
theorem gExtL_i (g : List Int → Option Int) (ns : List Int) : gExtL g (.val (.list (ns.map PyData.int))) = (g ns).map fun m => .val (.int m) := by
  have e : gExtL g (.val (.list (ns.map PyData.int))) = (intsOf (ns.map PyData.int)).bind fun ns => (g ns).map fun m => .val (.int m) := rfl
  rw [e, intsOf_ints]
  rfl
theorem gExtT_i (g : List Int → Option Int) (ns : List Int) : gExtT g (.val (.tuple (ns.map PyData.int))) = (g ns).map fun m => .val (.int m) := by
  have e : gExtT g (.val (.tuple (ns.map PyData.int))) = (intsOf (ns.map PyData.int)).bind fun ns => (g ns).map fun m => .val (.int m) := rfl
  rw [e, intsOf_ints]
  rfl
theorem gOr1_right {g g' : Pl → Option Pl} {a : Pl} (h : g' a = none) : gOr1 g g' a = g a := by
  unfold gOr1
  rw [h]
  cases g a <;> rfl
theorem gOr1_none {g g' : Pl → Option Pl} {a : Pl} (h : g a = none) : gOr1 g g' a = g' a := by unfold gOr1; rw [h]
@[simp] theorem gMax_l (ns : List Int) : gMax (.val (.list (ns.map PyData.int))) = (maxI ns).map fun m => .val (.int m) := (gOr1_right rfl).trans (gExtL_i _ _)
@[simp] theorem gMax_t (ns : List Int) : gMax (.val (.tuple (ns.map PyData.int))) = (maxI ns).map fun m => .val (.int m) := (gOr1_none rfl).trans (gExtT_i _ _)
@[simp] theorem gMin_l (ns : List Int) : gExtL minI (.val (.list (ns.map PyData.int))) = (minI ns).map fun m => .val (.int m) := gExtL_i _ _
theorem gSorted_i {ns : List Int} (h : ns.length < 64) : gSorted (.val (.list (ns.map PyData.int))) = some (.ownL ((sortI ns).map .int)) := by
  have e : gSortI (.val (.list (ns.map PyData.int))) = (intsOf (ns.map PyData.int)).bind fun ns => if ns.length < 64 then some (.ownL ((sortI ns).map .int)) else none := rfl
  have e2 : gSortI (.val (.list (ns.map PyData.int))) = some (.ownL ((sortI ns).map .int)) := by rw [e, intsOf_ints, Option.bind_some, if_pos h]
  unfold gSorted gOr1
  rw [e2]
theorem gSorted_s {ns : List Str} (h : ns.length < 64) (h0 : ns ≠ []) : gSorted (.val (.list (ns.map PyData.str))) = some (.ownL ((sortS ns).map .str)) := by
  have e : gSortS (.val (.list (ns.map PyData.str))) = (strsOf (ns.map PyData.str)).bind fun ns => if ns.length < 64 then some (.ownL ((sortS ns).map .str)) else none := rfl
  have e2 : gSortS (.val (.list (ns.map PyData.str))) = some (.ownL ((sortS ns).map .str)) := by rw [e, strsOf_strs, Option.bind_some, if_pos h]
  have e1 : gSortI (.val (.list (ns.map PyData.str))) = none := by
    cases ns with
    | nil => exact absurd rfl h0
    | cons a r => rfl
  unfold gSorted
  rw [gOr1_none e1]
  unfold gOr1
  rw [e2]
theorem keysI_ints : ∀ kvs : List (Int × PyData), keysI (kvs.map fun p => (Sum.inl p.1, p.2)) = some (kvs.map (·.1))
  | [] => rfl
  | p :: r => by
    show (keysI (r.map fun p => ((Sum.inl p.1 : Key), p.2))).map (p.1 :: ·) = _
    rw [keysI_ints r]
    rfl
theorem gSorted_d {kvs : List (Int × PyData)} (h : kvs.length < 64) : gSorted (.dic (kvs.map fun p => (Sum.inl p.1, p.2))) = some (.ownL ((sortI (kvs.map (·.1))).map .int)) := by
  have e : gSortD (.dic (kvs.map fun p => ((Sum.inl p.1 : Key), p.2))) = (keysI (kvs.map fun p => (Sum.inl p.1, p.2))).bind fun ns => if ns.length < 64 then some (.ownL ((sortI ns).map .int)) else none := rfl
  unfold gSorted
  rw [gOr1_none rfl, gOr1_none rfl, e, keysI_ints, Option.bind_some, if_pos (by simpa using h)]
theorem gIdx_t (ds : List Str) (z : Str) : gIdx (.val (.tuple (ds.map PyData.str))) (.val (.str z)) = (ds.findIdx? fun y => decide (y = z)).map fun j => .val (.int (j : Nat)) := by
  have e : gIdx (.val (.tuple (ds.map PyData.str))) (.val (.str z)) = (strsOf (ds.map PyData.str)).bind fun ys => (ys.findIdx? fun y => decide (y = z)).map fun j => .val (.int (j : Nat)) := rfl
  rw [e, strsOf_strs]
  rfl
/-! ### shapes -/
theorem shaped_int (i : Int) : SeqAt.shaped (.int i) = true := rfl
theorem shaped_bool (i : Bool) : SeqAt.shaped (.bool i) = true := rfl
theorem shaped_none : SeqAt.shaped .none = true := rfl
/-- all signs are code points -/
def okS (x : Str) : Bool := PyData.strOk x
theorem canLayAll_iff : ∀ ds : List PyData, PyData.canLayAll0 ds = ds.all PyData.canLay0
  | [] => rfl
  | d :: r => by simp [PyData.canLayAll0, canLayAll_iff r]
end
end PD

set_option Elab.async false
set_option linter.all false
set_option maxRecDepth 100000
set_option maxHeartbeats 1000000
/-! PDs: each word applied; loops; parts. -/
namespace PD
open PySem PySem.Spec PyProof.Rows L2
@[simp] theorem fPeek_ap (i : Nat) (s : DS) : fPeek i s = match s.env[i]? with
  | some (some sl) => some (fz sl, s)
  | _ => none := rfl
@[simp] theorem fVar_ap (i : Nat) (s : DS) : fVar i s = match s.env[i]? with
  | some (some (.ownL xs)) => some (.val (.list xs), ⟨s.env.set i (some (.val (.list xs))), s.fs⟩)
  | some (some (.ownK k)) => some (.dic k, ⟨s.env.set i (some (.dic k)), s.fs⟩)
  | some (some (.ownN k)) => some (.dicN k, ⟨s.env.set i (some (.dicN k)), s.fs⟩)
  | some (some sl) => some (sl, s)
  | _ => none := rfl
@[simp] theorem fFz_ap (f : Ef) (s : DS) : fFz f s = (f s).map fun (r, s') => (fz r, s') := rfl
@[simp] theorem f2_ap (f g : Ef) (s : DS) : f2 f g s = (f s).bind fun (a, s1) => (g s1).bind fun (b, s2) => some (fz a, fz b, s2) := rfl
@[simp] theorem f2n_ap (i : Nat) (g : Ef) (s : DS) : f2n i g s = (fPeek i s).bind fun _ => (g s).bind fun (b, s2) => (fPeek i s2).bind fun (a, _) => some (a, fz b, s2) := rfl
@[simp] theorem f2e_ap (f : Ef) (j : Nat) (s : DS) : f2e f j s = (f s).bind fun (a, s1) => (fPeek j s1).bind fun (b, _) => some (fz a, b, s1) := rfl
@[simp] theorem f2nn_ap (i j : Nat) (s : DS) : f2nn i j s = (fPeek i s).bind fun (a, _) => (fPeek j s).bind fun (b, _) => some (a, b, s) := rfl
@[simp] theorem fBin_ap (f : DS → Option (Pl × Pl × DS)) (g : Pl → Pl → Option Pl) (s : DS) : fBin f g s = (f s).bind fun (a, b, s') => (g a b).map fun c => (c, s') := rfl
@[simp] theorem fC_ap (r : Pl) (s : DS) : fC r s = some (r, s) := rfl
@[simp] theorem aNil_ap (s : DS) : aNil  s = some ([], s) := rfl
@[simp] theorem aCons_ap (f : Ef) (g : Af) (s : DS) : aCons f g s = (f s).bind fun (a, s1) => (g s1).bind fun (as, s2) => some (fz a :: as, s2) := rfl
@[simp] theorem fTup_ap (g : Af) (s : DS) : fTup g s = (g s).bind fun (as, s') => (valsOf as).bind fun ds => if ds.length ≤ sizeLine then some (.val (.tuple ds), s') else none := rfl
@[simp] theorem fLst_ap (g : Af) (s : DS) : fLst g s = (g s).bind fun (as, s') => (valsOf as).bind fun ds => if ds.length ≤ sizeLine then some (.ownL ds, s') else none := rfl
@[simp] theorem fUn_ap (f : Ef) (g : Pl → Option Pl) (s : DS) : fUn f g s = (f s).bind fun (a, s') => (g a).map fun c => (c, s') := rfl
@[simp] theorem fB_ap (f : Ef) (s : DS) : fB f s = match f s with
  | some (.val (.bool b), s') => some (b, s')
  | _ => none := rfl
@[simp] theorem fTru_ap (f : Ef) (s : DS) : fTru f s = (f s).bind fun (a, s') => (gTru a).map fun b => (b, s') := rfl
@[simp] theorem bAnd_ap (f g : Bf) (s : DS) : bAnd f g s = (f s).bind fun (x, s1) => if x = true then g s1 else some (false, s1) := rfl
@[simp] theorem bOr_ap (f g : Bf) (s : DS) : bOr f g s = (f s).bind fun (x, s1) => if x = true then some (true, s1) else g s1 := rfl
@[simp] theorem bNot_ap (f : Bf) (s : DS) : bNot f s = (f s).map fun (x, s1) => (!x, s1) := rfl
@[simp] theorem fAnd_ap (f g : Ef) (s : DS) : fAnd f g s = (fB f s).bind fun (x, s1) => if x = true then g s1 else some (.val (.bool false), s1) := rfl
@[simp] theorem fOr_ap (f g : Ef) (s : DS) : fOr f g s = (fB f s).bind fun (x, s1) => if x = true then some (.val (.bool true), s1) else g s1 := rfl
@[simp] theorem fNot_ap (f : Ef) (s : DS) : fNot f s = (fB f s).map fun (x, s1) => (.val (.bool (!x)), s1) := rfl
@[simp] theorem fIf_ap (c : Bf) (f g : Ef) (s : DS) : fIf c f g s = (c s).bind fun (x, s1) => if x = true then f s1 else g s1 := rfl
@[simp] theorem fI_ap (f : Ef) (s : DS) : fI f s = match f s with
  | some (.val (.int b), s') => some (b, s')
  | _ => none := rfl
@[simp] theorem bChain_ap (p q : Int → Int → Bool) (fa fb fc : Ef) (s : DS) : bChain p q fa fb fc s = (fI fa s).bind fun (i, s1) => (fI fb s1).bind fun (j, s2) => if p i j = true then (fI fc s2).map fun (k, s3) => (q j k, s3) else some (false, s2) := rfl
@[simp] theorem oNone_ap (s : DS) : oNone  s = some (none, s) := rfl
@[simp] theorem oSome_ap (f : Ef) (s : DS) : oSome f s = (fI f s).map fun (i, s') => (some i, s') := rfl
@[simp] theorem fCut_ap (f : Ef) (l h : Of) (s : DS) : fCut f l h s = (f s).bind fun (x, s1) => (l s1).bind fun (lo, s2) => (h s2).bind fun (hi, s3) => (gCut (fz x) lo hi).map fun r => (r, s3) := rfl
@[simp] theorem fCutN_ap (i : Nat) (l h : Of) (s : DS) : fCutN i l h s = (fPeek i s).bind fun _ => (l s).bind fun (lo, s2) => (h s2).bind fun (hi, s3) => (fPeek i s3).bind fun (x, _) => (gCut x lo hi).map fun r => (r, s3) := rfl
@[simp] theorem fIdx_ap (f g : Ef) (s : DS) : fIdx f g s = (f s).bind fun (x, s1) => (g s1).bind fun (y, s2) => (gIdx (fz x) (fz y)).map fun r => (r, s2) := rfl
@[simp] theorem sNil_ap (s : DS) : sNil  s = some (.nx s) := rfl
@[simp] theorem sSeq_ap (f g : Sf) (s : DS) : sSeq f g s = (f s).bind fun o => match o with
  | .nx s1 => g s1
  | o => some o := rfl
@[simp] theorem sPass_ap (s : DS) : sPass  s = some (.nx s) := rfl
@[simp] theorem sBreak_ap (s : DS) : sBreak  s = some (.bk s) := rfl
@[simp] theorem sCont_ap (s : DS) : sCont  s = some (.ct s) := rfl
@[simp] theorem sExpr_ap (f : Ef) (s : DS) : sExpr f s = (f s).map fun (_, s') => .nx s' := rfl
@[simp] theorem sRet_ap (f : Ef) (s : DS) : sRet f s = (f s).map fun (r, s') => .rt r s' := rfl
@[simp] theorem sRetN_ap (s : DS) : sRetN  s = some (.rt (.val .none) s) := rfl
@[simp] theorem sIf_ap (c : Bf) (f g : Sf) (s : DS) : sIf c f g s = (c s).bind fun (b, s1) => if b = true then f s1 else g s1 := rfl
@[simp] theorem sAsg_ap (f : Ef) (t : Tg) (s : DS) : sAsg f t s = (f s).bind fun (r, s1) => (t.put r s1).map .nx := rfl
@[simp] theorem sPar_ap (f g : Ef) (i j : Nat) (s : DS) : sPar f g i j s = (f s).bind fun (r1, s1) => (g s1).bind fun (r2, s2) => some (.nx ⟨(s2.env.set i (some r1)).set j (some r2), s2.fs⟩) := rfl
@[simp] theorem wVal_ap (f : Ef) (s : DS) : wVal f s = match f s with
  | some (.val (.list ds), s') => some (ds, s')
  | some (.val (.tuple ds), s') => some (ds, s')
  | some (.ownL ds, s') => some (ds, s')
  | _ => none := rfl
@[simp] theorem wRange1_ap (f : Ef) (s : DS) : wRange1 f s = (fI f s).bind fun (n, s') => if rOk n = true then some (rangeD 0 n.toNat, s') else none := rfl
@[simp] theorem wStr_ap (f : Ef) (s : DS) : wStr f s = match f s with
  | some (.val (.str z), s') => some (z.cps.toList.map fun c => .str ⟨#[c]⟩, s')
  | _ => none := rfl
@[simp] theorem wRev_ap (f : Ef) (s : DS) : wRev f s = match f s with
  | some (.val (.list ds), s') => some (ds.reverse, s')
  | some (.ownL ds, s') => some (ds.reverse, s')
  | _ => none := rfl
@[simp] theorem wZip_ap (f g : Ef) (s : DS) : wZip f g s = (f s).bind fun (a, s1) => (g s1).bind fun (b, s2) => match fz a, fz b with
  | .val (.list xs), .val (.list ys) => some (zipD xs ys, s2)
  | .val (.tuple xs), .val (.tuple ys) => some (zipD xs ys, s2)
  | _, _ => none := rfl
@[simp] theorem sForW_ap (w : Wf) (t : Tg) (f : Sf) (s : DS) : sForW w t f s = (w s).bind fun (ds, s1) => sFor t f ds s1 := rfl
@[simp] theorem fLc_ap (vs : List Nat) (w : Wf) (t : Tg) (ft : Bf) (fe : Ef) (s : DS) : fLc vs w t ft fe s = (w s).bind fun (ds, s1) => if plainAt s1.env vs = true then
    (lcLoop vs t ft fe ds [] ⟨wipeE s1.env vs, s1.fs⟩).map fun (xs, s2) => (.ownL xs, ⟨restE s1.env s2.env vs, s2.fs⟩) else none := rfl
@[simp] theorem bYes_ap (s : DS) : bYes  s = some (true, s) := rfl
@[simp] theorem fCall_ap (g : Df) (fa : Af) (s : DS) : fCall g fa s = (fa s).bind fun (as, s1) => (g as s1.fs).map fun (r, fs') => (r, ⟨s1.env, fs'⟩) := rfl
@[simp] theorem aPick_ap (π : List Nat) (f : Af) (s : DS) : aPick π f s = (f s).bind fun (as, s') => if as.length = π.length then some (pick π as, s') else none := rfl
@[simp] theorem fNeg_ap (f : Ef) (s : DS) : fNeg f s = (fI f s).map fun (i, s') => (.val (.int (-i)), s') := rfl
@[simp] theorem fRevS_ap (f : Ef) (s : DS) : fRevS f s = match f s with
  | some (.val (.str z), s') => if z.length ≤ sizeLine then some (.val (.str (revS z)), s') else none
  | _ => none := rfl
@[simp] theorem fApp_ap (i : Nat) (f : Ef) (s : DS) : fApp i f s = match s.env[i]? with
  | some (some (.ownL _)) => (f s).bind fun (r, s1) => match fz r, s1.env[i]? with
    | .val d, some (some (.ownL xs)) => if xs.length < sizeLine then some (.val .none, ⟨s1.env.set i (some (.ownL (xs ++ [d]))), s1.fs⟩) else none
    | _, _ => none
  | _ => none := rfl
@[simp] theorem sSetL_ap (i : Nat) (f g : Ef) (s : DS) : sSetL i f g s = (f s).bind fun (r, s1) => match fz r, s1.env[i]? with
  | .val d, some (some (.ownL _)) => (fI g s1).bind fun (k, s2) => match s2.env[i]? with
    | some (some (.ownL xs)) => (ixN xs.length k).map fun j => .nx ⟨s2.env.set i (some (.ownL (xs.set j d))), s2.fs⟩
    | _ => none
  | _, _ => none := rfl
@[simp] theorem sSetK_ap (i : Nat) (f g : Ef) (s : DS) : sSetK i f g s = (f s).bind fun (r, s1) => match fz r, s1.env[i]? with
  | .val d, some (some (.ownK _)) => (g s1).bind fun (q, s2) => match q, s2.env[i]? with
    | .val kd, some (some (.ownK kvs)) => (keyD kd).bind fun k => if kvs.length < sizeLine then some (.nx ⟨s2.env.set i (some (.ownK (putD kvs k d))), s2.fs⟩) else none
    | _, _ => none
  | _, _ => none := rfl
@[simp] theorem sRetV_ap (i : Nat) (s : DS) : sRetV i s = match s.env[i]? with
  | some (some a) => some (.rt a s)
  | _ => none := rfl
@[simp] theorem wKeys_ap (f : Ef) (s : DS) : wKeys f s = match f s with
  | some (.ownK kvs, s') => some (kvs.map fun kv => kD kv.1, s')
  | _ => none := rfl
@[simp] theorem wItems_ap (f : Ef) (s : DS) : wItems f s = match f s with
  | some (.ownK kvs, s') => some (kvs.map fun kv => .tuple [kD kv.1, kv.2], s')
  | _ => none := rfl
@[simp] theorem fDic_ap (fk fv : Ef) (s : DS) : fDic fk fv s = (fk s).bind fun (q, s1) => (fv s1).bind fun (r, s2) => match q, fz r with
  | .val kd, .val d => (keyD kd).map fun k => (.ownK [(k, d)], s2)
  | _, _ => none := rfl
@[simp] theorem fIdxL_ap (f g : Ef) (s : DS) : fIdxL f g s = (f s).bind fun (x, s1) => (g s1).bind fun (y, s2) => (gIdxL (fz x) (fz y)).map fun r => (r, s2) := rfl
@[simp] theorem wEnum_ap (f : Ef) (s : DS) : wEnum f s = (f s).bind fun (a, s1) => match fz a with
  | .val (.list ds) => some (enumD 0 ds, s1)
  | .val (.tuple ds) => some (enumD 0 ds, s1)
  | _ => none := rfl
@[simp] theorem fFget_ap (i : Nat) (x : Str) (s : DS) : fFget i x s = match s.env[i]? with
  | some (some .fd) => (s.fs.get x).map fun d => (.val d, s)
  | _ => none := rfl
@[simp] theorem sFset_ap (i : Nat) (x : Str) (f : Ef) (s : DS) : sFset i x f s = (fI f s).bind fun (k, s1) => match s1.env[i]? with
  | some (some .fd) => (s1.fs.set x k).map fun fs' => .nx ⟨s1.env, fs'⟩
  | _ => none := rfl

@[simp] theorem runDef_ap (np n : Nat) (f : Sf) (as : List Pl) (fs : FS) : runDef np n f as fs = if as.length = np then match f ⟨startD n as, fs⟩ with
  | some (.nx s') => some (.val .none, s'.fs)
  | some (.rt r s') => some (r, s'.fs)
  | _ => none else none := rfl
@[simp] theorem startD_nil (n : Nat) : startD n [] = List.replicate n none := by simp [startD]
@[simp] theorem startD_cons (n : Nat) (a : Pl) (as : List Pl) : startD (n + 1) (a :: as) = some a :: startD n as := by simp [startD]
@[simp] theorem valsOf_nil : valsOf [] = some [] := rfl
@[simp] theorem valsOf_cons (d : PyData) (r : List Pl) : valsOf (.val d :: r) = (valsOf r).map (d :: ·) := rfl
@[simp] theorem put_nm (i : Nat) (r : Pl) (s : DS) : (Tg.nm i).put r s = some ⟨s.env.set i (some r), s.fs⟩ := by simp [Tg.put]
@[simp] theorem put_tp (l : List Tg) (ds : List PyData) (s : DS) : (Tg.tp l).put (.val (.tuple ds)) s = Tg.putAll l ds s := by simp [Tg.put]
@[simp] theorem putAll_nil (s : DS) : Tg.putAll [] [] s = some s := by simp [Tg.putAll]
@[simp] theorem putAll_cons (t : Tg) (r : List Tg) (d : PyData) (ds : List PyData) (s : DS) : Tg.putAll (t :: r) (d :: ds) s = (t.put (.val d) s).bind fun s1 => Tg.putAll r ds s1 := by simp [Tg.putAll]
@[simp] theorem wipeE_nil (env : List (Option Pl)) : wipeE env [] = env := rfl
@[simp] theorem wipeE_cons (env : List (Option Pl)) (v : Nat) (vs : List Nat) : wipeE env (v :: vs) = (wipeE env vs).set v none := rfl
@[simp] theorem restE_nil (old new : List (Option Pl)) : restE old new [] = new := rfl
@[simp] theorem restE_cons (old new : List (Option Pl)) (v : Nat) (vs : List Nat) : restE old new (v :: vs) = (restE old new vs).set v ((old[v]?).getD none) := rfl
@[simp] theorem gTru_b (b : Bool) : gTru (.val (.bool b)) = some b := rfl
@[simp] theorem gTru_t (ds : List PyData) : gTru (.val (.tuple ds)) = some (!ds.isEmpty) := rfl
@[simp] theorem gTru_l (ds : List PyData) : gTru (.val (.list ds)) = some (!ds.isEmpty) := rfl
/-! ### the feed -/
@[simp] theorem get_turn (f : FS) : f.get "turn" = some (.int f.turn) := by rw [FS.get, if_pos rfl]
@[simp] theorem get_rest (f : FS) : f.get "rest" = some (.int f.rest) := by rw [FS.get, if_neg (by decide), if_pos rfl]
@[simp] theorem get_spot (f : FS) : f.get "spot" = some (.int f.spot) := by rw [FS.get, if_neg (by decide), if_neg (by decide), if_pos rfl]
@[simp] theorem get_cells (f : FS) : f.get "cells" = some (.list (f.cells.map PyData.int)) := by rw [FS.get, if_neg (by decide), if_neg (by decide), if_neg (by decide), if_pos rfl]
@[simp] theorem set_turn (f : FS) (i : Int) : f.set "turn" i = some { f with turn := i } := by rw [FS.set, if_pos rfl]
@[simp] theorem set_rest (f : FS) (i : Int) : f.set "rest" i = some { f with rest := i } := by rw [FS.set, if_neg (by decide), if_pos rfl]
@[simp] theorem set_spot (f : FS) (i : Int) : f.set "spot" i = some { f with spot := i } := by rw [FS.set, if_neg (by decide), if_neg (by decide), if_pos rfl]
/-! ### parts -/
@[simp] theorem gCut_l (ds : List PyData) (lo hi : Option Int) : gCut (.val (.list ds)) lo hi = some (.ownL (cutD ds lo hi)) := rfl
@[simp] theorem gCut_t (ds : List PyData) (lo hi : Option Int) : gCut (.val (.tuple ds)) lo hi = some (.val (.tuple (cutD ds lo hi))) := rfl
@[simp] theorem gCut_s (z : Str) (lo hi : Option Int) : gCut (.val (.str z)) lo hi = if z.length ≤ sizeLine then some (.val (.str (cutS z lo hi))) else none := rfl
theorem cutD_from {α : Type} (xs : List α) (n : Nat) : cutD xs (some (n : Int)) none = xs.drop n := by
  unfold cutD
  rw [HT.sIx_nat, HT.sIx_none]
  by_cases h : n ≤ xs.length
  · rw [Nat.min_eq_left h, List.take_of_length_le (by simp)]
  · rw [Nat.min_eq_right (by omega), List.drop_of_length_le (by omega), List.drop_of_length_le (by omega)]
    simp
theorem cutD_to {α : Type} (xs : List α) (n : Nat) : cutD xs none (some (n : Int)) = xs.take n := by
  unfold cutD
  rw [HT.sIx_nat, HT.sIx_none]
  simp
theorem sIx_m1 (n d : Nat) : HT.sIx n d (some (-1)) = n - 1 := by
  show (if (-1 : Int) < 0 then ((-1 : Int) + (n : Int)).toNat else min (-1 : Int).toNat n) = n - 1
  rw [if_pos (by decide)]
  omega
theorem cutD_front {α : Type} (xs : List α) : cutD xs none (some (-1)) = xs.dropLast := by
  unfold cutD
  rw [HT.sIx_none, List.drop_zero, Nat.sub_zero, List.dropLast_eq_take, sIx_m1]
theorem cutD_last {α : Type} (xs : List α) : cutD xs (some (-1)) none = xs.drop (xs.length - 1) := by
  unfold cutD
  rw [HT.sIx_none, sIx_m1, List.take_of_length_le (by simp)]
@[simp] theorem cutD_1 {α : Type} (xs : List α) : cutD xs (some 1) none = xs.drop 1 := cutD_from xs 1
@[simp] theorem cutD_to1 {α : Type} (xs : List α) : cutD xs none (some 1) = xs.take 1 := cutD_to xs 1
/-! ### loops -/
section
variable {t : Tg} {f : Sf}
theorem sFor_cons (d : PyData) (ds : List PyData) (s : DS) : sFor t f (d :: ds) s = (t.put (.val d) s).bind fun s1 => (f s1).bind fun o => match o with
    | .nx s2 => sFor t f ds s2
    | .ct s2 => sFor t f ds s2
    | .bk s2 => some (.nx s2)
    | .rt r s2 => some (.rt r s2) := rfl
theorem sFor_nil (s : DS) : sFor t f [] s = some (.nx s) := rfl
theorem sFor_typed {α β : Type} (enc : α → PyData) (St : β → DS) (step : β → α → β) : ∀ (xs : List α) (a : β), (∀ a x, x ∈ xs → (t.put (.val (enc x)) (St a)).bind f = some (.nx (St (step a x)))) → sFor t f (xs.map enc) (St a) = some (.nx (St (xs.foldl step a)))
  | [], _, _ => rfl
  | x :: xs, a, h => by
    rw [List.map_cons, sFor_cons]
    have h1 := h a x List.mem_cons_self
    cases e : t.put (.val (enc x)) (St a) with
    | none => rw [e] at h1; cases h1
    | some s1 =>
      rw [e, Option.bind_some] at h1
      rw [Option.bind_some, h1, Option.bind_some]
      exact sFor_typed enc St step xs (step a x) fun a y hy => h a y (List.mem_cons_of_mem _ hy)
theorem sFor_inv {α : Type} (enc : α → PyData) (I : Nat → DS → Prop) : ∀ (xs : List α) (i : Nat) (s : DS), (∀ j x s, xs[j]? = some x → I (i + j) s → ∃ s', (t.put (.val (enc x)) s).bind f = some (.nx s') ∧ I (i + j + 1) s') → I i s →
    ∃ s', sFor t f (xs.map enc) s = some (.nx s') ∧ I (i + xs.length) s'
  | [], i, s, _, h0 => ⟨s, rfl, h0⟩
  | x :: xs, i, s, h, h0 => by
    rw [List.map_cons, sFor_cons]
    obtain ⟨s', h1, h2⟩ := h 0 x s rfl h0
    cases e : t.put (.val (enc x)) s with
    | none => rw [e] at h1; cases h1
    | some s1 =>
      rw [e, Option.bind_some] at h1
      rw [Option.bind_some, h1, Option.bind_some]
      obtain ⟨s'', h3, h4⟩ := sFor_inv enc I xs (i + 1) s' (fun j y s hy hI => by
        have := h (j + 1) y s (by simpa using hy) (by rw [show i + (j + 1) = i + 1 + j by omega]; exact hI)
        rw [show i + 1 + j + 1 = i + (j + 1) + 1 by omega]
        exact this) h2
      exact ⟨s'', h3, by rw [List.length_cons, show i + (xs.length + 1) = i + 1 + xs.length by omega]; exact h4⟩
end
theorem sFor_fold {t : Tg} {f : Sf} {α β γ : Type} (enc : α → PyData) (St : β → γ → DS) (P : β → Prop) (step : β → α → β) : ∀ (xs : List α) (a : β) (q : γ), P a → (∀ a x q, x ∈ xs → P a → (∃ q', (t.put (.val (enc x)) (St a q)).bind f = some (.nx (St (step a x) q'))) ∧ P (step a x)) →
    (∃ q', sFor t f (xs.map enc) (St a q) = some (.nx (St (xs.foldl step a) q'))) ∧ P (xs.foldl step a)
  | [], a, q, hP, _ => ⟨⟨q, rfl⟩, hP⟩
  | x :: xs, a, q, hP, h => by
    obtain ⟨⟨q1, h1⟩, h2⟩ := h a x q List.mem_cons_self hP
    obtain ⟨⟨q2, h3⟩, h4⟩ := sFor_fold enc St P step xs (step a x) q1 h2 fun a y q hy => h a y q (List.mem_cons_of_mem _ hy)
    refine ⟨⟨q2, ?_⟩, h4⟩
    rw [List.map_cons, sFor_cons]
    cases e : t.put (.val (enc x)) (St a q) with
    | none => rw [e] at h1; cases h1
    | some s1 =>
      rw [e, Option.bind_some] at h1
      rw [Option.bind_some, h1, Option.bind_some]
      exact h3
theorem sWhile_true {c : Bf} {f : Sf} {n : Nat} {s s1 s2 : DS} (h1 : c s = some (true, s1)) (h2 : f s1 = some (.nx s2)) : sWhile c f (n + 1) s = sWhile c f n s2 := by
  show (c s).bind _ = _
  rw [h1, Option.bind_some]
  show (f s1).bind _ = _
  rw [h2]
  rfl
theorem sWhile_false {c : Bf} {f : Sf} {n : Nat} {s s1 : DS} (h1 : c s = some (false, s1)) : sWhile c f (n + 1) s = some (.nx s1) := by
  show (c s).bind _ = _
  rw [h1]
  rfl
theorem sWhile_rt {c : Bf} {f : Sf} {n : Nat} {s s1 s2 : DS} {r : Pl} (h1 : c s = some (true, s1)) (h2 : f s1 = some (.rt r s2)) : sWhile c f (n + 1) s = some (.rt r s2) := by
  show (c s).bind _ = _
  rw [h1, Option.bind_some]
  show (f s1).bind _ = _
  rw [h2]
  rfl
section
variable {vs : List Nat} {t : Tg} {ft : Bf} {fe : Ef}
theorem lc_gen {α : Type} (enc : α → PyData) (I : DS → Prop) (R : α → PyData → Prop) (b : α → Bool) : ∀ (xs : List α) (acc : List PyData) (s : DS),
    (∀ x ∈ xs, ∀ s, I s → ∃ s1 s2, t.put (.val (enc x)) s = some s1 ∧ ft s1 = some (b x, s2) ∧ (b x = false → I ⟨wipeE s2.env vs, s2.fs⟩) ∧ (b x = true → ∃ r s3 d, fe s2 = some (r, s3) ∧ fz r = .val d ∧ R x d ∧ I ⟨wipeE s3.env vs, s3.fs⟩)) →
    I s → acc.length + xs.length ≤ sizeLine → ∃ ds s', lcLoop vs t ft fe (xs.map enc) acc s = some (acc ++ ds, s') ∧ I s' ∧ Paired R (xs.filter b) ds
  | [], acc, s, _, hI, _ => ⟨[], s, by rw [List.append_nil]; rfl, hI, .nil⟩
  | x :: xs, acc, s, h, hI, hl => by
    have hl' : acc.length + (xs.length + 1) ≤ sizeLine := hl
    obtain ⟨s1, s2, h1, h2, h3, h4⟩ := h x List.mem_cons_self s hI
    rw [List.map_cons]
    unfold lcLoop
    simp only [h1, h2, Option.bind_some]
    cases hb : b x with
    | false =>
      rw [if_neg Bool.false_ne_true, List.filter_cons_of_neg (by rw [hb]; exact Bool.false_ne_true)]
      exact lc_gen enc I R b xs acc _ (fun y hy => h y (List.mem_cons_of_mem _ hy)) (h3 hb) (by omega)
    | true =>
      obtain ⟨r, s3, d, g1, g2, g3, g4⟩ := h4 hb
      rw [if_pos rfl, List.filter_cons_of_pos hb]
      simp only [g1, g2, Option.bind_some]
      rw [if_pos (by omega)]
      obtain ⟨ds, s', e1, e2, e3⟩ := lc_gen enc I R b xs (acc ++ [d]) _ (fun y hy => h y (List.mem_cons_of_mem _ hy)) g4 (by simp; omega)
      exact ⟨d :: ds, s', by rw [e1, List.append_assoc]; rfl, e2, .cons g3 e3⟩
theorem paired_map {α : Type} {g : α → PyData} : ∀ {xs : List α} {ds : List PyData}, Paired (fun x d => d = g x) xs ds → ds = xs.map g
  | _, _, .nil => rfl
  | _, _, .cons h r => by rw [h, paired_map r]; rfl
/-- a comprehension that leaves the places as they are -/
theorem lc_typed {α : Type} (enc : α → PyData) (b : α → Bool) (g : α → PyData) (xs : List α) (s : DS) (hl : xs.length ≤ sizeLine)
    (h : ∀ x ∈ xs, ∃ s1 s2, t.put (.val (enc x)) s = some s1 ∧ ft s1 = some (b x, s2) ∧ (b x = false → (⟨wipeE s2.env vs, s2.fs⟩ : DS) = s) ∧ (b x = true → ∃ r s3, fe s2 = some (r, s3) ∧ fz r = .val (g x) ∧ (⟨wipeE s3.env vs, s3.fs⟩ : DS) = s)) :
    lcLoop vs t ft fe (xs.map enc) [] s = some ((xs.filter b).map g, s) := by
  obtain ⟨ds, s', e1, rfl, e3⟩ := lc_gen enc (fun s' => s' = s) (fun x d => d = g x) b xs [] s (fun x hx s' hs => by
    subst hs
    obtain ⟨s1, s2, h1, h2, h3, h4⟩ := h x hx
    refine ⟨s1, s2, h1, h2, h3, fun hb => ?_⟩
    obtain ⟨r, s3, g1, g2, g3⟩ := h4 hb
    exact ⟨r, s3, _, g1, g2, rfl, g3⟩) rfl (by simpa using hl)
  rw [e1, paired_map e3]
  rfl
/-- .. without a test -/
theorem lc_all {α : Type} (enc : α → PyData) (g : α → PyData) (xs : List α) (s : DS) (hl : xs.length ≤ sizeLine)
    (h : ∀ x ∈ xs, ∃ s1 r s3, t.put (.val (enc x)) s = some s1 ∧ fe s1 = some (r, s3) ∧ fz r = .val (g x) ∧ (⟨wipeE s3.env vs, s3.fs⟩ : DS) = s) :
    lcLoop vs t bYes fe (xs.map enc) [] s = some (xs.map g, s) := by
  have := lc_typed (ft := bYes) enc (fun _ => true) g xs s hl (fun x hx => by
    obtain ⟨s1, r, s3, h1, h2, h3, h4⟩ := h x hx
    exact ⟨s1, s1, h1, rfl, nofun, fun _ => ⟨r, s3, h2, h3, h4⟩⟩)
  rw [this, List.filter_eq_self.mpr (fun _ _ => rfl)]
/-- one turn of a comprehension -/
def turnE (vs : List Nat) (t : Tg) (fe : Ef) (d : PyData) (s : DS) : Option (Pl × DS) := (t.put (.val d) s).bind fun s1 => (fe s1).map fun (r, s3) => (fz r, ⟨wipeE s3.env vs, s3.fs⟩)
def turnT (vs : List Nat) (t : Tg) (ft : Bf) (fe : Ef) (d : PyData) (s : DS) : Option (Option Pl × DS) := (t.put (.val d) s).bind fun s1 => (ft s1).bind fun (b, s2) =>
  if b = true then (fe s2).map fun (r, s3) => (some (fz r), ⟨wipeE s3.env vs, s3.fs⟩) else some (none, ⟨wipeE s2.env vs, s2.fs⟩)
@[simp] theorem turnE_ap (vs : List Nat) (t : Tg) (fe : Ef) (d : PyData) (s : DS) : turnE vs t fe d s = (t.put (.val d) s).bind fun s1 => (fe s1).map fun (r, s3) => (fz r, ⟨wipeE s3.env vs, s3.fs⟩) := rfl
@[simp] theorem turnT_ap (vs : List Nat) (t : Tg) (ft : Bf) (fe : Ef) (d : PyData) (s : DS) : turnT vs t ft fe d s = (t.put (.val d) s).bind fun s1 => (ft s1).bind fun (b, s2) =>
  if b = true then (fe s2).map fun (r, s3) => (some (fz r), ⟨wipeE s3.env vs, s3.fs⟩) else some (none, ⟨wipeE s2.env vs, s2.fs⟩) := rfl
theorem lc_turn {α : Type} (enc : α → PyData) (g : α → PyData) (xs : List α) (s : DS) (hl : xs.length ≤ sizeLine)
    (h : ∀ x ∈ xs, turnE vs t fe (enc x) s = some (.val (g x), s)) : lcLoop vs t bYes fe (xs.map enc) [] s = some (xs.map g, s) := by
  refine lc_all enc g xs s hl fun x hx => ?_
  have e := h x hx
  unfold turnE at e
  cases e1 : t.put (.val (enc x)) s with
  | none => rw [e1] at e; cases e
  | some s1 =>
    rw [e1, Option.bind_some] at e
    cases e2 : fe s1 with
    | none => rw [e2] at e; cases e
    | some q =>
      obtain ⟨r, s3⟩ := q
      rw [e2] at e
      simp only [Option.map_some, Option.some.injEq, Prod.mk.injEq] at e
      exact ⟨s1, r, s3, rfl, e2, e.1, e.2⟩
theorem lc_turnT {α : Type} (enc : α → PyData) (b : α → Bool) (g : α → PyData) (xs : List α) (s : DS) (hl : xs.length ≤ sizeLine)
    (h : ∀ x ∈ xs, turnT vs t ft fe (enc x) s = some (if b x = true then some (.val (g x)) else none, s)) : lcLoop vs t ft fe (xs.map enc) [] s = some ((xs.filter b).map g, s) := by
  refine lc_typed enc b g xs s hl fun x hx => ?_
  have e := h x hx
  unfold turnT at e
  cases e1 : t.put (.val (enc x)) s with
  | none => rw [e1] at e; cases e
  | some s1 =>
    rw [e1, Option.bind_some] at e
    cases e2 : ft s1 with
    | none => rw [e2] at e; cases e
    | some q =>
      obtain ⟨c, s2⟩ := q
      simp only [e2, Option.bind_some] at e
      cases c with
      | false =>
        simp only [Bool.false_eq_true, if_false, Option.some.injEq, Prod.mk.injEq] at e
        cases hb : b x with
        | true => rw [hb] at e; cases e.1
        | false => exact ⟨s1, s2, rfl, e2, fun _ => e.2, nofun⟩
      | true =>
        simp only [if_true] at e
        cases e3 : fe s2 with
        | none => rw [e3] at e; cases e
        | some q3 =>
          obtain ⟨r, s3⟩ := q3
          rw [e3] at e
          simp only [Option.map_some, Option.some.injEq, Prod.mk.injEq] at e
          cases hb : b x with
          | false => rw [hb] at e; cases e.1
          | true =>
            rw [hb] at e
            simp only [if_true, Option.some.injEq] at e
            exact ⟨s1, s2, rfl, e2, nofun, fun _ => ⟨r, s3, e3, e.1, e.2⟩⟩
/-- .. that may change places, in a way that is known -/
theorem lc_turnI {α : Type} (enc : α → PyData) (I : DS → Prop) (b : α → Bool) (g : α → PyData) (xs : List α) (s : DS) (hl : xs.length ≤ sizeLine)
    (h : ∀ x ∈ xs, ∀ s, I s → ∃ s', turnT vs t ft fe (enc x) s = some (if b x = true then some (.val (g x)) else none, s') ∧ I s') (hI : I s) : ∃ s', lcLoop vs t ft fe (xs.map enc) [] s = some ((xs.filter b).map g, s') ∧ I s' := by
  obtain ⟨ds, s', e1, hI', e3⟩ := lc_gen (ft := ft) (fe := fe) (t := t) (vs := vs) enc I (fun x d => d = g x) b xs [] s (fun x hx s hs => by
    obtain ⟨s', e, hI'⟩ := h x hx s hs
    unfold turnT at e
    cases e1 : t.put (.val (enc x)) s with
    | none => rw [e1] at e; cases e
    | some s1 =>
      rw [e1, Option.bind_some] at e
      cases e2 : ft s1 with
      | none => rw [e2] at e; cases e
      | some q =>
        obtain ⟨c, s2⟩ := q
        simp only [e2, Option.bind_some] at e
        cases c with
        | false =>
          simp only [Bool.false_eq_true, if_false, Option.some.injEq, Prod.mk.injEq] at e
          cases hb : b x with
          | true => rw [hb] at e; cases e.1
          | false => exact ⟨s1, s2, rfl, e2, fun _ => by rw [e.2]; exact hI', nofun⟩
        | true =>
          simp only [if_true] at e
          cases e3 : fe s2 with
          | none => rw [e3] at e; cases e
          | some q3 =>
            obtain ⟨r, s3⟩ := q3
            rw [e3] at e
            simp only [Option.map_some, Option.some.injEq, Prod.mk.injEq] at e
            cases hb : b x with
            | false => rw [hb] at e; cases e.1
            | true =>
              rw [hb] at e
              simp only [if_true, Option.some.injEq] at e
              exact ⟨s1, s2, rfl, e2, nofun, fun _ => ⟨r, s3, _, e3, e.1, rfl, by rw [e.2]; exact hI'⟩⟩) hI (by simpa using hl)
  exact ⟨s', by rw [e1, paired_map e3]; rfl, hI'⟩
/-- .. whose items are known by what holds of them -/
theorem lc_turnR {α : Type} (enc : α → PyData) (I : DS → Prop) (R : α → PyData → Prop) (xs : List α) (s : DS) (hl : xs.length ≤ sizeLine)
    (h : ∀ x ∈ xs, ∀ s, I s → ∃ d s', turnE vs t fe (enc x) s = some (.val d, s') ∧ R x d ∧ I s') (hI : I s) : ∃ ds s', lcLoop vs t bYes fe (xs.map enc) [] s = some (ds, s') ∧ I s' ∧ Paired R xs ds := by
  obtain ⟨ds, s', e1, hI', e3⟩ := lc_gen (ft := bYes) (fe := fe) (t := t) (vs := vs) enc I R (fun _ => true) xs [] s (fun x hx s hs => by
    obtain ⟨d, s', e, hR, hI'⟩ := h x hx s hs
    unfold turnE at e
    cases e1 : t.put (.val (enc x)) s with
    | none => rw [e1] at e; cases e
    | some s1 =>
      rw [e1, Option.bind_some] at e
      cases e2 : fe s1 with
      | none => rw [e2] at e; cases e
      | some q =>
        obtain ⟨r, s3⟩ := q
        rw [e2] at e
        simp only [Option.map_some, Option.some.injEq, Prod.mk.injEq] at e
        exact ⟨s1, s1, rfl, rfl, nofun, fun _ => ⟨r, s3, d, e2, e.1, hR, by rw [e.2]; exact hI'⟩⟩) hI (by simpa using hl)
  rw [List.filter_eq_self.mpr (fun _ _ => rfl)] at e3
  exact ⟨ds, s', e1, hI', e3⟩
/-- .. of truths, of ints, kept apart from simp -/
theorem lc_bools {α : Type} (enc : α → PyData) (p : α → Bool) (xs : List α) (s : DS) (hl : xs.length ≤ sizeLine) (h : ∀ x ∈ xs, turnE vs t fe (enc x) s = some (.val (.bool (p x)), s)) :
    ∃ bs, lcLoop vs t bYes fe (xs.map enc) [] s = some (bs.map .bool, s) ∧ bs = xs.map p :=
  ⟨xs.map p, by rw [lc_turn enc (fun x => .bool (p x)) xs s hl h, List.map_map]; rfl, rfl⟩
theorem lc_ints {α : Type} (enc : α → PyData) (p : α → Int) (xs : List α) (s : DS) (hl : xs.length ≤ sizeLine) (h : ∀ x ∈ xs, turnE vs t fe (enc x) s = some (.val (.int (p x)), s)) :
    ∃ bs, lcLoop vs t bYes fe (xs.map enc) [] s = some (bs.map .int, s) ∧ bs = xs.map p :=
  ⟨xs.map p, by rw [lc_turn enc (fun x => .int (p x)) xs s hl h, List.map_map]; rfl, rfl⟩
theorem lc_intsT {α : Type} (enc : α → PyData) (b : α → Bool) (p : α → Int) (xs : List α) (s : DS) (hl : xs.length ≤ sizeLine) (h : ∀ x ∈ xs, turnT vs t ft fe (enc x) s = some (if b x = true then some (.val (.int (p x))) else none, s)) :
    ∃ bs, lcLoop vs t ft fe (xs.map enc) [] s = some (bs.map .int, s) ∧ bs = (xs.filter b).map p :=
  ⟨(xs.filter b).map p, by rw [lc_turnT enc b (fun x => .int (p x)) xs s hl h, List.map_map]; rfl, rfl⟩
end
/-! ### shapes -/
theorem depthAll_le {n : Nat} : ∀ {ds : List PyData}, (∀ d ∈ ds, d.depth ≤ n) → PyData.depthAll ds ≤ n
  | [], _ => Nat.zero_le _
  | d :: r, h => by
    show max d.depth (PyData.depthAll r) ≤ n
    have h1 := h d List.mem_cons_self
    have h2 := depthAll_le (ds := r) fun e he => h e (List.mem_cons_of_mem _ he)
    omega
theorem shaped_tupleI {ds : List PyData} (h : ∀ d ∈ ds, d.canLay0 = true ∧ d.depth ≤ 60) : SeqAt.shaped (.tuple ds) = true := by
  have h1 : PyData.canLayAll0 ds = true := by
    rw [canLayAll_iff, List.all_eq_true]
    exact fun d hd => (h d hd).1
  have h2 := depthAll_le fun d hd => (h d hd).2
  unfold SeqAt.shaped
  rw [show PyData.canLay0 (.tuple ds) = PyData.canLayAll0 ds by simp [PyData.canLay0], h1, show PyData.depth (.tuple ds) = PyData.depthAll ds + 1 by simp [PyData.depth]]
  simp
  omega
theorem shaped_listI {ds : List PyData} (h : ∀ d ∈ ds, d.canLay0 = true ∧ d.depth ≤ 60) : SeqAt.shaped (.list ds) = true := by
  have h1 : PyData.canLayAll0 ds = true := by
    rw [canLayAll_iff, List.all_eq_true]
    exact fun d hd => (h d hd).1
  have h2 := depthAll_le fun d hd => (h d hd).2
  unfold SeqAt.shaped
  rw [show PyData.canLay0 (.list ds) = PyData.canLayAll0 ds by simp [PyData.canLay0], h1, show PyData.depth (.list ds) = PyData.depthAll ds + 1 by simp [PyData.depth]]
  simp
  omega
theorem lay_str {x : Str} (h : okS x = true) : (PyData.str x).canLay0 = true := by
  show PyData.canLay0 (.str x) = true
  unfold okS at h
  simpa [PyData.canLay0] using h
theorem shaped_str {x : Str} (h : okS x = true) : SeqAt.shaped (.str x) = true := by
  unfold SeqAt.shaped
  rw [lay_str h]
  rfl
end PD

set_option Elab.async false
set_option linter.all false
set_option maxRecDepth 100000
set_option maxHeartbeats 2000000
/-! PDu: a law over the layer: its call by nobody's leave; the feed. -/
namespace PD
open PySem PySem.Spec PyProof.Rows L2
variable [TheW]
/-- a block whose reading may choose what it starts from -/
theorem pss_data {X : Cx} {sts : List Stmt} {f : Sf} {tb : Addr → Prop} (h : ∀ Γ, TbAt tb Γ.H0 → PSSd X Γ sts f) : ∃ t : TS, PSs X sts t ∧ ∀ (σ : L2.St) (H : Hp) (D : Ends) (Γ : Gm) (G : Hp) (s : DS) (o : Out), TbAt tb Γ.H0 → Sta X.K Γ σ H G s → f s = some o → PostS X.K Γ G o D → t D σ H :=
  ⟨fun D σ H => ∃ (Γ : Gm) (z : TbAt tb Γ.H0), (h Γ z).choose D σ H, ⟨fun pins s σ H D I ⟨Γ, y, z⟩ => (h Γ y).choose_spec.1.run pins s σ H D I z⟩, fun σ H D Γ G s o y S e p => ⟨Γ, y, (h Γ y).choose_spec.2 σ H G s o D S e p⟩⟩
/-- a def, called where no display is on the way -/
structure FnG (P : Program) (w : World) (K : PySem.W.Frag) (mg : Str → Option Value) (base : Heap) (k : Nat) (f : Addr) (fd : FuncData) (ps : List Str) (sp : List V → Hp → VK → Prop) : Prop where
  run : ∀ (A : Around) (outer : List Env) (s : Shared) (H : Hp) (args : Args) (us : List Value) (vs : List V) (Q : VK), Room k A → A.guards = some [] → Env0 P w K mg base A outer s H → BindsTo s fd args (ps.zip us) → Vals vs us → vs.length = ps.length →
    sp vs H Q → codeAny (model P w) A (.call (.ref f) args) (CR CX0 outer P w H s Q E0) s
theorem fnG_of {P : Program} {w : World} {K : PySem.W.Frag} {mg : Str → Option Value} {base : Heap} {k : Nat} {f : Addr} {name qual : Str} {params : Arguments} {body : List Stmt} {scope : Scope} {dV kV doc pm cdv ct oc : Value} {an od : Option Addr}
    {osl : Array (Option Value)} {N ps : List Str} {sp : List V → Hp → VK → Prop} (lk : K.lookup f = some ⟨oc, od, .func (PySem.W.fnOf name qual params body scope dV kV doc pm an cdv ct), osl⟩) (hcd : PySem.W.codeIn K cdv qual = true) (S : FnScope N ps scope)
    (hbody : ∀ (A : Around) (outer : List Env) (s : Shared) (H : Hp), Room k (A.deeper (envOfC qual scope s.heap.objs.size f cdv)) → (A.deeper (envOfC qual scope s.heap.objs.size f cdv)).guards = some [] →
      ∃ t : TS, PSs (cxOf CX0 P w K mg base N qual scope f cdv A outer s H E0).nox body t ∧ ∀ vs Q, sp vs H Q → t { nx := fun _ H' => Q .non H', rt := Q } (start N vs) H) :
    FnG P w K mg base (k + 1) f (PySem.W.fnOf name qual params body scope dV kV doc pm an cdv ct) ps sp := by
  refine ⟨fun A outer s H args us vs Q hr hgd e0 hb r hl h => ?_⟩
  have KX : K.In s.heap := e0.mod.kin.keeps fun b o e => (e0.bs b o e).1
  have lim : s.heap.NoLimit := e0.mod.nolimit.keeps fun b o e => (e0.bs b o e).1
  have hkind : ∀ y ∈ ps.zip us, scope.names.lookup y.1 = some .local ∨ (scope.names.lookup y.1 = some .cell ∧ ((cellsFrom (s.heap.objs.size + 1) scope.names []).lookup y.1).isSome = true) := fun ⟨n, v⟩ hy => by
    rcases S.par n (List.of_mem_zip hy).1 with q | q
    · exact .inl q
    · exact .inr ⟨q, PySem.W.cellsFrom_some _ _ _ (.inl q)⟩
  refine codeAny_call_function hr.depth (KX _ _ lk) rfl S.co S.gen rfl (PySem.W.codeRec_of KX hcd) (hb _ _ _ _ ?_)
  refine wpAny_newFunctionEnv_cells S.kind hkind fun env he s1 x => ?_
  subst he
  refine ⟨lim.keeps x.toInCall.keep, codeAny_func ?_⟩
  obtain ⟨t, ht, hk⟩ := hbody A outer s H (hr.deeper _) hgd
  have ht := ht.nox
  have I : Inv (cxOf CX0 P w K mg base N qual scope f cdv A outer s H E0) [] (start N vs) H s1 := inv_start S hr.hd e0 hl r x
  refine wpAny_mono (ht.run [] s1 (start N vs) H _ I (hk vs Q h)) (fun fl s' hs => ?_) fun e s' hs => hs
  have fin : ∀ {σ' : L2.St} {H' : Hp} {v : V} {u : Value}, Inv (cxOf CX0 P w K mg base N qual scope f cdv A outer s H E0) [] σ' H' s' → RelV v u → Q v H' → CE outer P w H s Q u s' :=
    fun {σ' H' v u} J rv q => ⟨v, H', J.os, J.bare, J.base, J.hok, rv, q⟩
  cases fl with
  | ret u =>
    obtain ⟨v, σ', H', J, rv, q⟩ := hs
    exact fin J rv q
  | next =>
    obtain ⟨σ', H', J, q⟩ := hs
    exact fin (v := V.non) (u := Value.none) J rfl q
  | brk =>
    obtain ⟨_, _, _, q⟩ := hs
    exact False.elim q
  | cont =>
    obtain ⟨_, _, _, q⟩ := hs
    exact False.elim q
theorem fun_of {K : PySem.W.Frag} {x qual : Str} {st : Stmt} {f : Addr} {fd : FuncData} (F : FunD K x qual (defArgs st) (defBody st) (defScope st) [] [] f fd) : Fun K x qual st f fd := by
  obtain ⟨oc, od, dV, kV, doc, pm, an, cdv, ct, osl, h1, h2, h3, h4, h5⟩ := F.ex
  rcases h4 with ⟨_, rfl⟩ | ⟨z, _⟩
  · exact ⟨⟨oc, od, kV, doc, pm, an, cdv, ct, osl, h1, h2, h3⟩, F.kp⟩
  · exact absurd rfl z
/-! ### the call from outside -/
theorem script_hp {P : Program} {w : World} {K : PySem.W.Frag} {a : Addr} {h : Heap} {vs : List Value} {ns : List Int} (KX : K.In h) (la : h.get? a = some { cls := .type "list", data := .seq vs.toArray }) (li : IntsAre vs ns) (ll : ns.length ≤ sizeLine) :
    ∃ H : Hp, SqL K H a (ns.map V.int) ∧ HOk P w H h ∧ (∀ b, H b ≠ none → b = a ∧ K.lookup a = none ∧ ∃ o xs, H b = some (.frz o (.lst xs))) := by
  have rv := vals_ints li
  cases hk : K.lookup a with
  | some o =>
    have e : o = { cls := .type "list", data := .seq vs.toArray } := Option.some.inj ((KX a o hk).symm.trans la)
    subst e
    refine ⟨fun _ => none, .inr ⟨_, vs.toArray, _, hk, rfl, rfl, rfl, ?_, by simpa using rv⟩, fun b u z => (by cases z), fun b z => absurd rfl z⟩
    rw [List.size_toArray, li.length]
    exact ll
  | none =>
    have at_ : ∀ b (u : HO), (if b = a then some (HO.frz { cls := .type "list", data := .seq vs.toArray } (.lst (ns.map V.int))) else none) = some u → b = a ∧ u = .frz { cls := .type "list", data := .seq vs.toArray } (.lst (ns.map V.int)) := fun b u z => by
      by_cases q : b = a
      · rw [if_pos q] at z
        exact ⟨q, (Option.some.inj z).symm⟩
      · rw [if_neg q] at z
        cases z
    refine ⟨fun b => if b = a then some (.frz { cls := .type "list", data := .seq vs.toArray } (.lst (ns.map V.int))) else none, .inl (.inr ⟨_, if_pos rfl⟩), fun b u z => ?_, fun b z => ?_⟩
    · obtain ⟨rfl, rfl⟩ := at_ b u z
      exact ⟨la, by rw [List.length_map]; exact ll, vs, _, rv, la⟩
    · cases q : (if b = a then some (HO.frz { cls := .type "list", data := .seq vs.toArray } (.lst (ns.map V.int))) else none) with
      | none => exact absurd q z
      | some u =>
        obtain ⟨r1, r2⟩ := at_ b u q
        exact ⟨r1, rfl, _, _, q.trans (by rw [r2])⟩
theorem law_at {P : Program} {w : World} {K : PySem.W.Frag} {mg mb : Str → Option Value} {fa a : Addr} {s : Shared} {vs : List Value} {ns : List Int} (cs : List (Addr × Addr)) (KX : K.In s.heap) (g1 : s.heap.Ns mainGlobals mg) (g2 : s.heap.Ns builtinsNs mb)
    (g3 : ∀ y : Str, y ≠ "__name__" → mb y = bootBuiltins y) (g4 : s.heap.NoLimit) (g5 : s.gens = #[]) (c1 : ∀ p ∈ cs, s.heap.get? p.2 = some { cls := .none, data := .fields #[] }) (c2 : ∀ p ∈ cs, K.lookup p.2 = none) (c3 : ∀ p ∈ cs, PySem.W.codeHdIn K p.1 p.2 = true)
    (g6 : ∃ (bm : Addr) (ob : Obj), mg "__builtins__" = some (.ref bm) ∧ bm ≠ builtinsNs ∧ s.heap.get? bm = some ob ∧ ob.cls = .type "module" ∧ ob.dict = some builtinsNs ∧ ob.data = .plain)
    (la : s.heap.get? a = some { cls := .type "list", data := .seq vs.toArray }) (li : IntsAre vs ns) (ll : ns.length ≤ sizeLine)
    (F : ∀ (base : Heap) (H : Hp), K.In base → base.Ns mainGlobals mg → (∀ p ∈ cs, GxR.TabB base mg p.1 p.2) → Env0 P w K mg base callerA [] s H → SqL K H a (ns.map V.int) → (∀ b ps, H b = some (.tbl ps) → ps = #[]) → (∀ p ∈ cs, H p.2 = some (.tbl #[])) →
      codeAny (model P w) callerA (.call (.ref fa) ⟨[.ref a], []⟩) (CR CX0 [] P w H s (fun v _ => v = .bl true) E0) s) :
    codeAny (model P w) callerA (.call (.ref fa) ⟨[.ref a], []⟩) (fun r t => r = .ok (.ret (.bool true)) ∧ OldK s.heap t.heap ∧ t.os = s.os ∧ AllBare t.gens) s := by
  obtain ⟨H0, hS0, hok0, hH0⟩ := script_hp (P := P) (w := w) KX la li ll
  have tab : ∀ b, b ∈ cs.map (·.2) → s.heap.get? b = some { cls := .none, data := .fields #[] } ∧ K.lookup b = none := fun b hb => by
    obtain ⟨p, hp, rfl⟩ := List.mem_map.mp hb
    exact ⟨c1 p hp, c2 p hp⟩
  have aT : a ∉ cs.map (·.2) := fun z => by
    have q := (tab a z).1
    rw [la] at q
    have q2 := congrArg Obj.data (Option.some.inj q)
    cases q2
  have H0T : ∀ b, b ∈ cs.map (·.2) → H0 b = none := fun b hb => by
    cases q : H0 b with
    | none => rfl
    | some u => exact absurd ((hH0 b (by rw [q]; simp)).1 ▸ hb) aT
  let H : Hp := fun b => if b ∈ cs.map (·.2) then some (.tbl #[]) else H0 b
  have HT : ∀ b, b ∈ cs.map (·.2) → H b = some (.tbl #[]) := fun b hb => if_pos hb
  have HN : ∀ b, b ∉ cs.map (·.2) → H b = H0 b := fun b hb => if_neg hb
  have hS : SqL K H a (ns.map V.int) := by
    rcases hS0 with (z | ⟨o, z⟩) | z
    · exact .inl (.inl ((HN a aT).trans z))
    · exact .inl (.inr ⟨o, (HN a aT).trans z⟩)
    · exact .inr z
  have hok : HOk P w H s.heap := fun b u z => by
    by_cases hb : b ∈ cs.map (·.2)
    · rw [HT b hb] at z
      cases z
      exact (tab b hb).1
    · rw [HN b hb] at z
      have := hok0 b u z
      obtain ⟨_, _, o, xs, e⟩ := hH0 b (by rw [z]; simp)
      rw [z] at e
      cases e
      exact this
  have up : ∀ {b : Addr} {o : Obj}, s.heap.get? b = some o → (b = a → K.lookup a = none → False) → b ∉ cs.map (·.2) → (hidT s.heap H).get? b = some o := fun {b o} e n nt => hidT_get e (by
    rw [HN b nt]
    cases q : H0 b with
    | none => rfl
    | some u =>
      obtain ⟨r1, r2, _⟩ := hH0 b (by rw [q]; simp)
      exact (n r1 r2).elim)
  have notA : ∀ {b : Addr} {o : Obj}, s.heap.get? b = some o → (∀ x n, o.data ≠ .seq x n) → b = a → K.lookup a = none → False := fun {b o} e d z _ => by
    subst z
    have e2 := Option.some.inj (e.symm.trans la)
    subst e2
    exact d _ _ rfl
  have notT : ∀ {b : Addr} {o : Obj}, s.heap.get? b = some o → o.data ≠ .fields #[] → b ∉ cs.map (·.2) := fun {b o} e d z => by
    have e2 := Option.some.inj (e.symm.trans (tab b z).1)
    subst e2
    exact d rfl
  have upN : ∀ {b : Addr} {m : Str → Option Value}, s.heap.Ns b m → (hidT s.heap H).Ns b m := fun {b m} ⟨o, es, ep, e, d, r⟩ =>
    ⟨o, es, ep, up e (notA e fun x n z => by rw [d] at z; cases z) (notT e fun z => by rw [d] at z; cases z), d, r⟩
  have kb : K.In (hidT s.heap H) := fun b o e => up (KX b o e) (fun z n => by
    rw [z, n] at e
    cases e) fun z => by
    rw [(tab b z).2] at e
    cases e
  obtain ⟨mc, l1, l2⟩ := g4
  have E : Env0 P w K mg (hidT s.heap H) callerA [] s H := ⟨rfl, ⟨kb, upN g1, ⟨mb, upN g2, g3⟩, ⟨mc, upN l1, l2⟩⟩, fun b o e => of_hidT e, Nat.le_of_eq (hidT_size _ _), trivial, fun b hb => (by cases hb), hok, .of_eq g5⟩
  have TB : ∀ p ∈ cs, GxR.TabB (hidT s.heap H) mg p.1 p.2 := fun p hp => by
    have gP : mainGlobals ≠ p.2 := fun z => by
      obtain ⟨o, es, ep, e, d, _⟩ := g1
      rw [z, c1 p hp] at e
      cases e
      cases d
    obtain ⟨bm, ob, b1, b2, b3, b4, b5, b6⟩ := g6
    refine ⟨PySem.W.codeHd_of_K kb (c3 p hp), ⟨bm, ob, b1, b2, fun z => ?_, fun z => ?_, up b3 (notA b3 fun x n z => by rw [b6] at z; cases z) (notT b3 fun z => by rw [b6] at z; cases z), b4, b5, b6⟩, gP⟩
    · obtain ⟨o, es, ep, e, d, _⟩ := g1
      rw [z, e] at b3
      cases b3
      rw [b6] at d
      cases d
    · rw [z, c1 p hp] at b3
      cases b3
      cases b6
  refine codeAny_mono (F _ H kb (upN g1) TB E hS (fun b ps z => ?_) fun p hp => HT _ (List.mem_map.mpr ⟨p, hp, rfl⟩)) fun r t h => ?_
  · by_cases hb : b ∈ cs.map (·.2)
    · rw [HT b hb] at z
      cases z
      rfl
    · rw [HN b hb] at z
      obtain ⟨_, _, o, xs, e⟩ := hH0 b (by rw [z]; simp)
      rw [z] at e
      cases e
  match r, h with
  | .error e, h => exact h.elim
  | .ok .next, h => exact h.elim
  | .ok .brk, h => exact h.elim
  | .ok .cont, h => exact h.elim
  | .ok (.ret u), h =>
    obtain ⟨v, H', os, bare, un, hok', rv, q⟩ := h
    subst q
    obtain rfl : u = Value.bool true := rv
    have stay : ∀ b o, b ∉ cs.map (·.2) → s.heap.get? b = some o → t.heap.get? b = some o := fun b o nt e => by
      cases q : H0 b with
      | none => exact un.keep b o e ((HN b nt).trans q) (by intro z; cases z) (by simp)
      | some u =>
        obtain ⟨_, _, ob, xs, z⟩ := hH0 b (by rw [q]; simp)
        have z1 : H b = some (.frz ob (.lst xs)) := (HN b nt).trans z
        have z2 := un.frzs b ob _ z1
        have k1 := (hok b _ z1).1
        have k2 := (hok' b _ z2).1
        rw [e] at k1
        cases k1
        exact k2
    have more : ∀ b, b ∈ cs.map (·.2) → ∃ m : Array Value, t.heap.get? b = some { cls := .none, data := .fields m } := fun b hb => by
      obtain ⟨m, z⟩ := un.tbls b #[] (HT b hb)
      exact ⟨_, hok' b _ z⟩
    refine ⟨rfl, ⟨fun b o e => ?_, fun b o e => ?_⟩, os, bare⟩
    · by_cases hb : b ∈ cs.map (·.2)
      · obtain ⟨m, hm⟩ := more b hb
        obtain ⟨p, hp, ep⟩ := List.mem_map.mp hb
        have e2 := Option.some.inj (e.symm.trans (tab b hb).1)
        subst e2
        refine .inr (.inl ⟨?_, rfl, #[], m, rfl, by rw [Array.empty_append]; exact hm⟩)
        rw [← ep]
        exact ((PySem.W.codeHd_of_K KX (c3 p hp)).tab (c1 p hp)).isCodeTable
      · exact .inl (stay b o hb e)
    · by_cases hb : b ∈ cs.map (·.2)
      · obtain ⟨m, hm⟩ := more b hb
        exact ⟨_, hm⟩
      · exact ⟨o, stay b o hb e⟩
/-! ### the feed -/
/-- no table is new -/
def NoN (H H' : Hp) : Prop := ∀ b ps, H' b = some (.tbl ps) → H b = some (.tbl ps)
theorem NoN.put {H H' : Hp} {p : Addr} {o : HO} (n : NoN H H') (h : isT o = false) : NoN H (upd H' p o) := fun b ps e => by
  by_cases z : b = p
  · rw [z, upd_same] at e
    cases e
    cases h
  · rw [upd_ne z] at e
    exact n b ps e
def spFeed (K : PySem.W.Frag) : Sp := fun vs H Q _ => ∃ (a : Addr) (ns : List Int), vs = [.ref a] ∧ SqL K H a (ns.map V.int) ∧ ns.length ≤ 63 ∧
  ∀ (fa c : Addr) (H' : Hp), Same H H' → NoN H H' → H' fa = some (.dK [(kCells, .ref c), (kSpot, .int 0), (kRest, .int 0), (kTurn, .int 0)]) → H' c = some (.lst (ns.map V.int)) → c ≠ fa → Q (.ref fa) H'
theorem sta_feed {K : PySem.W.Frag} {σ : L2.St} {H : Hp} {fa c : Addr} {ns : List Int} (n : Nat) (ht : TOk H) (h1 : H fa = some (.dK [(kCells, .ref c), (kSpot, .int 0), (kRest, .int 0), (kTurn, .int 0)])) (h2 : H c = some (.lst (ns.map V.int))) (h3 : c ≠ fa) (h4 : σ.length = n + 2) (h5 : σ[1]? = some (some (.ref fa))) :
    Sta K ⟨fa, H, fun b => if b = c then some (.lst (ns.map V.int)) else none⟩ σ H (fun b => if b = c then some (.lst (ns.map V.int)) else none) ⟨none :: some .fd :: List.replicate n none, ⟨ns, 0, 0, 0⟩⟩ := by
  have only : ∀ (i : Nat) (sl : Pl), (none :: some Pl.fd :: List.replicate n none)[i]? = some (some sl) → i = 1 ∧ sl = .fd := fun i sl e => by
    match i, e with
    | 0, e => simp at e
    | 1, e => simp at e; exact ⟨rfl, e.symm⟩
    | i + 2, e =>
      simp only [List.getElem?_cons_succ, List.getElem?_replicate] at e
      split at e <;> cases e
  refine ⟨fun b o e => ?_, Same.refl _, fun b e => .inl e, fun b o _ _ e => e, by simp [h4], fun i sl e => ?_, fun i j a d v e _ o => ?_, fun b ⟨i, a, e, o, _⟩ => ?_, ⟨c, h1, if_neg (fun z => h3 z.symm), if_pos rfl⟩, ht, TGr.refl _, fun b ps e => ?_⟩
  · by_cases z : b = c
    · rw [if_pos z] at e
      rw [z, h2, ← e]
    · rw [if_neg z] at e
      cases e
  · obtain ⟨rfl, rfl⟩ := only i sl e
    exact ⟨_, h5, rfl⟩
  · obtain ⟨_, rfl⟩ := only i a e
    cases o
  · obtain ⟨_, rfl⟩ := only i a e
    cases o
  · have e2 : (if b = c then some (HO.lst (ns.map V.int)) else none) = some (.tbl ps) := e
    by_cases z : b = c
    · rw [if_pos z] at e2
      cases e2
    · rw [if_neg z] at e2
      cases e2
/-- what a law's call wants: the script, the tables -/
def spLaw (K : PySem.W.Frag) (tb : Addr → Prop) : List V → Hp → VK → Prop := fun vs H Q => ∃ (a : Addr) (ns : List Int), vs = [.ref a] ∧ SqL K H a (ns.map V.int) ∧ ns.length ≤ 63 ∧ TOk H ∧ TbAt tb H ∧ ∀ H', Q (.bl true) H'
end PD

set_option Elab.async false
set_option linter.all false
set_option maxRecDepth 100000
set_option maxHeartbeats 1000000
/-! PEi: a, b = x, y and a, b, c = x, y, z where a name is a cell or a thing stays one's own; a def with its code object. -/
namespace PD
open PySem PySem.Spec PyProof.Rows L2
theorem _root_.L2.Room.u1 {k : Nat} {A : Around} (h : Room k A) : A.units + 1 < cLine := by have := h.un; omega
theorem _root_.L2.Room.u64 {k : Nat} {A : Around} (h : Room k A) : A.units + 64 < cLine := by have := h.un; omega
theorem _root_.L2.Room.u65 {k : Nat} {A : Around} (h : Room k A) : A.units + 65 < cLine := by have := h.un; omega
def sPar3 (f g h : Ef) (i j l : Nat) : Sf := fun s => (f s).bind fun (r1, s1) => (g s1).bind fun (r2, s2) => (h s2).bind fun (r3, s3) => some (.nx ⟨((s3.env.set i (some r1)).set j (some r2)).set l (some r3), s3.fs⟩)
@[simp] theorem sPar3_ap (f g h : Ef) (i j l : Nat) (s : DS) : sPar3 f g h i j l s = (f s).bind fun (r1, s1) => (g s1).bind fun (r2, s2) => (h s2).bind fun (r3, s3) => some (.nx ⟨((s3.env.set i (some r1)).set j (some r2)).set l (some r3), s3.fs⟩) := rfl
/-- the display is unpacked at once: its tuple is not told of -/
theorem ps_unpack {X : Cx} {tgs es : List Expr} {ta : TA} {t : TGs} {kk k2 : Nat} {tpos p2 pos : Pos} {n : Nat} (hc : X.calm = true) (ha : PA X es ta) (h : PGs X tgs t) (hn : (assignEach tgs X.env).length = n) (hz : es.length ≤ sizeLine) (hst : (assignEach tgs X.env).findIdx? (·.1) = none)
    (hw : swappedStores [.Tuple tgs kk tpos] (.Tuple es k2 p2) X.env = pure none) (hs : swapsWithSole [.Tuple tgs kk tpos] (.Tuple es k2 p2) pos.line X.env = pure false)
    (h1 : (assignEach [.Tuple tgs kk tpos] X.env).map (·.2) = [assign (.Tuple tgs kk tpos) X.env]) :
    PS X (.Assign [.Tuple tgs kk tpos] (.Tuple es k2 p2) pos) (fun D σ H => ta σ H fun vs H1 => vs.length = n ∧ vs.length ≤ sizeLine ∧ t vs σ H1 fun σ2 H2 => D.nx σ2 H2) := by
  refine ⟨fun pins s σ H D I q => ?_⟩
  refine wpAny_Assign_stores (Tuple_ (thn (ha.run _ pins s σ H _ I q) fun us s1 ⟨vs, H1, I1, r1, hl, hz2, q1⟩ => ?_)) hs hw
  have e1 := r1.length
  refine wpAny_newObj_type ?_ (by show us.toArray.size ≤ sizeLine; rw [List.size_toArray, ← e1]; exact hz2)
  rw [h1]
  have I2 : Inv X pins σ H1 { s1 with heap := s1.heap.push { cls := .type "tuple", data := .seq us.toArray } } := I1.kept (t' := s1.toks) fun b o e => Heap.get?_push_of_some _ e
  show wpAny _ _ (assign (.Tuple tgs kk tpos) X.env (.ref s1.heap.objs.size)) _ _ _
  refine assign_Tuple_tuple (items := us.toArray) (I1.ok.hd hc) (IsTup.new s1.heap _) (by rw [List.size_toArray, hn, ← hl, e1]) hst fun h' hx => ?_
  have I3 := I2.kept (h' := h') (t' := s1.toks) fun b o e => hx b o (Nat.ne_of_lt (Heap.lt_size e)) e
  exact thn (h.run pins _ σ H1 vs _ _ I3 (by simpa using r1) q1) fun _ s2 ⟨σ2, H2, I4, q4⟩ => ⟨σ2, H2, I4, q4⟩
section
variable [TheW]
theorem Fits.set {K : PySem.W.Frag} {Γ : Gm} {σ : L2.St} {H G : Hp} {s : DS} {v w : V} {r1 r2 : Pl} {i : Nat} (hl : s.env.length = σ.length) (F : Fits K Γ σ H G s w r2) (h : r1.own = true → r2.own = true → v ≠ w) : Fits K Γ (σ.set i (some v)) H G ⟨s.env.set i (some r1), s.fs⟩ w r2 := by
  refine ⟨F.1, fun z => ?_⟩
  obtain ⟨p, e, n1, n2⟩ := F.2 z
  refine ⟨p, e, fun ⟨l, c, f1, f2, f3⟩ => ?_, n2⟩
  by_cases hli : l = i
  · subst hli
    have lt : l < s.env.length := by
      have := (List.getElem?_eq_some_iff.mp f1).1
      simpa using this
    rw [List.getElem?_set_self lt] at f1
    cases f1
    rw [List.getElem?_set_self (by rw [← hl]; exact lt)] at f3
    cases f3
    exact h f2 z e.symm
  · rw [List.getElem?_set_ne (Ne.symm hli)] at f1 f3
    exact n1 ⟨l, c, f1, f2, f3⟩
theorem Got.apart {K : PySem.W.Frag} {Γ : Gm} {H0 H G H1 G1 : Hp} {v w : V} {r1 r2 : Pl} (a : Got K Γ H0 H G v r1) (b : Got K Γ H H1 G1 w r2) : r1.own = true → r2.own = true → v ≠ w := fun z1 z2 e => by
  obtain ⟨p, o, e1, e2, _⟩ := a.rp.ownP z1
  obtain ⟨p', f1, f2⟩ := b.ow z2
  rw [e1, f1] at e
  cases e
  rw [f2] at e2
  cases e2
variable {X : Cx} {Γ : Gm} {a b c : Expr} {pos : Pos}
theorem ps_parC {i j : Nat} {x y : Str} {f g : Ef} {px py pt : Pos} {kt k2 pt2} (hc : X.calm = true) (hN : X.N.Nodup) (hi : X.N[i]? = some x) (hj : X.N[j]? = some y) (hx : Loc X.env.scope x) (hy : Loc X.env.scope y) (ha : PEd X Γ a f) (hb : PEd X Γ b g)
    (hw : swappedStores [.Tuple [.Name x px, .Name y py] kt pt] (.Tuple [a, b] k2 pt2) X.env = pure none) (fx : X.fn x = true ∨ X.env.scope.names.lookup x = some .local := by exact .inl rfl) (fy : X.fn y = true ∨ X.env.scope.names.lookup y = some .local := by exact .inl rfl)
    (hs1 : starEach [a, b] X.env = (false, eval a X.env) :: starEach [b] X.env := by rfl) (hs2 : starEach [b] X.env = (false, eval b X.env) :: starEach [] X.env := by rfl)
    (hs : swapsWithSole [.Tuple [.Name x px, .Name y py] kt pt] (.Tuple [a, b] k2 pt2) pos.line X.env = pure false := by rfl) :
    PSd X Γ (.Assign [.Tuple [.Name x px, .Name y py] kt pt] (.Tuple [a, b] k2 pt2) pos) (sPar f g i j) := by
  obtain ⟨ta, pa, ka⟩ := ha
  obtain ⟨tb, pb, kb⟩ := hb
  refine ⟨_, ps_unpack (n := 2) hc (pa_cons pa (pa_cons pb pa_nil hs2) hs1) (pgs_cons (pg_name hN hi hx fx) (pgs_cons (pg_name hN hj hy fy) pgs_nil)) rfl (by rw [sizeLine_eq]; simp) rfl hw hs rfl, fun σ H G s o D S hf hp => ?_⟩
  unfold sPar at hf
  cases h1 : f s with
  | none => rw [h1] at hf; cases hf
  | some w1 =>
    obtain ⟨r1, s1⟩ := w1
    simp only [h1, Option.bind_some] at hf
    cases h2 : g s1 with
    | none => rw [h2] at hf; cases hf
    | some w2 =>
      obtain ⟨r2, s2⟩ := w2
      simp only [h2, Option.bind_some, Option.some.injEq] at hf
      subst hf
      refine ka σ H G s s1 r1 _ S h1 fun v H1 G1 S1 T1 g1 => ?_
      refine kb σ H1 G1 s1 s2 r2 _ S1 h2 fun w H2 G2 S2 T2 g2 => ?_
      refine ⟨rfl, by rw [sizeLine_eq]; simp, v, [w], rfl, w, [], rfl, rfl, ?_⟩
      have q1 := Got.thru S S1 T1 g1 T2
      have P1 := S2.put i (q1.fits S (T1.trans T2))
      have P2 := P1.put j (Fits.set S2.len (g2.fits S1 T2) (g1.apart g2))
      exact hp _ H2 G2 P2 (T1.gg.trans T2.gg)
theorem ps_par3D {i j l : Nat} {x y z : Str} {f g h : Ef} {px py pz pt : Pos} {kt k2 pt2} (hc : X.calm = true) (hN : X.N.Nodup) (hi : X.N[i]? = some x) (hj : X.N[j]? = some y) (hl : X.N[l]? = some z) (hx : Loc X.env.scope x) (hy : Loc X.env.scope y) (hz : Loc X.env.scope z) (ha : PEd X Γ a f) (hb : PEd X Γ b g) (hcc : PEd X Γ c h)
    (hw : swappedStores [.Tuple [.Name x px, .Name y py, .Name z pz] kt pt] (.Tuple [a, b, c] k2 pt2) X.env = pure none) (fx : X.fn x = true ∨ X.env.scope.names.lookup x = some .local := by exact .inl rfl) (fy : X.fn y = true ∨ X.env.scope.names.lookup y = some .local := by exact .inl rfl) (fz' : X.fn z = true ∨ X.env.scope.names.lookup z = some .local := by exact .inl rfl)
    (hs1 : starEach [a, b, c] X.env = (false, eval a X.env) :: starEach [b, c] X.env := by rfl) (hs2 : starEach [b, c] X.env = (false, eval b X.env) :: starEach [c] X.env := by rfl) (hs3 : starEach [c] X.env = (false, eval c X.env) :: starEach [] X.env := by rfl)
    (hs : swapsWithSole [.Tuple [.Name x px, .Name y py, .Name z pz] kt pt] (.Tuple [a, b, c] k2 pt2) pos.line X.env = pure false := by rfl) :
    PSd X Γ (.Assign [.Tuple [.Name x px, .Name y py, .Name z pz] kt pt] (.Tuple [a, b, c] k2 pt2) pos) (sPar3 f g h i j l) := by
  obtain ⟨ta, pa, ka⟩ := ha
  obtain ⟨tb, pb, kb⟩ := hb
  obtain ⟨tc, pc, kc⟩ := hcc
  refine ⟨_, ps_unpack (n := 3) hc (pa_cons pa (pa_cons pb (pa_cons pc pa_nil hs3) hs2) hs1) (pgs_cons (pg_name hN hi hx fx) (pgs_cons (pg_name hN hj hy fy) (pgs_cons (pg_name hN hl hz fz') pgs_nil))) rfl (by rw [sizeLine_eq]; simp) rfl hw hs rfl, fun σ H G s o D S hf hp => ?_⟩
  unfold sPar3 at hf
  cases h1 : f s with
  | none => rw [h1] at hf; cases hf
  | some w1 =>
    obtain ⟨r1, s1⟩ := w1
    simp only [h1, Option.bind_some] at hf
    cases h2 : g s1 with
    | none => rw [h2] at hf; cases hf
    | some w2 =>
      obtain ⟨r2, s2⟩ := w2
      simp only [h2, Option.bind_some] at hf
      cases h3 : h s2 with
      | none => rw [h3] at hf; cases hf
      | some w3 =>
        obtain ⟨r3, s3⟩ := w3
        simp only [h3, Option.bind_some, Option.some.injEq] at hf
        subst hf
        refine ka σ H G s s1 r1 _ S h1 fun v H1 G1 S1 T1 g1 => ?_
        refine kb σ H1 G1 s1 s2 r2 _ S1 h2 fun w H2 G2 S2 T2 g2 => ?_
        refine kc σ H2 G2 s2 s3 r3 _ S2 h3 fun u H3 G3 S3 T3 g3 => ?_
        refine ⟨rfl, by rw [sizeLine_eq]; simp, v, [w, u], rfl, w, [u], rfl, u, [], rfl, rfl, ?_⟩
        have q1 := Got.thru S S1 T1 g1 (T2.trans T3)
        have q2 := Got.thru S1 S2 T2 g2 T3
        have q12 := Got.thru S S1 T1 g1 T2
        have P1 := S3.put i (q1.fits S (T1.trans (T2.trans T3)))
        have F2 := Fits.set (i := i) (v := v) (r1 := r1) S3.len (q2.fits S1 (T2.trans T3)) (g1.apart g2)
        have P2 := P1.put j F2
        have F3 := Fits.set (i := i) (v := v) (r1 := r1) S3.len (g3.fits S2 T3) (q12.apart g3)
        have F4 := Fits.set (i := j) (v := w) (r1 := r2) (show (s3.env.set i (some r1)).length = (σ.set i (some v)).length by rw [List.length_set, List.length_set]; exact S3.len) F3 (g2.apart g3)
        exact hp _ H3 G3 (P2.put l F4) (T1.gg.trans (T2.gg.trans T3.gg))
end
section
variable [TheW] {P : Program} {w : World} {K : PySem.W.Frag} {mg : Str → Option Value} {base : Heap} {tb : Addr → Prop} {k : Nat} {x qual : Str} {ps N : List Str} {st : Stmt} {f : Addr} {fd : FuncData} {bf : Sf} {kws : List (List Str × List Nat)}
theorem Cd.ofC (F : Fun K x qual st f fd) (hm : mg x = some (.ref f)) (S : FnScope N ps (defScope st))
    (hb : ∀ (kV doc pm : Value) (an : Option Addr) (cdv ct : Value) (us : List Value), us.length = ps.length → bindArgs (PySem.W.fnOf x qual (defArgs st) (defBody st) (defScope st) .none kV doc pm an cdv ct) ⟨us, []⟩ = pure (ps.zip us))
    (hkw : ∀ q ∈ kws, ∀ (kV doc pm : Value) (an : Option Addr) (cdv ct : Value) (us : List Value), us.length = q.1.length → bindArgs (PySem.W.fnOf x qual (defArgs st) (defBody st) (defScope st) .none kV doc pm an cdv ct) ⟨[], q.1.zip us⟩ = pure (ps.zip (pick q.2 us)))
    (hbody : ∀ (cdv : Value) (A : Around) (outer : List Env) (s : Shared) (H : Hp), fd.code = cdv → Room k (A.deeper (envOfC qual (defScope st) s.heap.objs.size f cdv)) → (A.deeper (envOfC qual (defScope st) s.heap.objs.size f cdv)).guards = some [] → ∀ Γ : Gm, TbAt tb Γ.H0 →
      PSSd (cxOf CX0 P w K mg base N qual (defScope st) f cdv A outer s H E0).nox Γ (defBody st) bf) :
    Cd P w K mg base tb (k + 1) x ps kws (runDef ps.length N.length bf) := by
  obtain ⟨oc, od, kV, doc, pm, an, cdv, ct, osl, rfl, lk, hcd⟩ := F.ex
  exact ⟨f, _, fnD_of lk hcd S (fun A outer s H => hbody cdv A outer s H rfl), hm, F.kp, .all (hb kV doc pm an cdv ct), fun q hq us hl => hkw q hq kV doc pm an cdv ct us hl⟩
theorem fun_code {p : Str × Option Str} (F : Fun K x qual st (He.fAd K p) fd) : fd.code = .ref (He.codeOf K p) := by
  obtain ⟨oc, od, kV, doc, pm, an, cdv, ct, osl, rfl, lk, hcd⟩ := F.ex
  obtain ⟨c, rfl⟩ := He.codeIn_ref hcd
  rw [He.codeOf_eq lk rfl]
end
end PD

set_option Elab.async false
set_option linter.all false
set_option maxRecDepth 100000
set_option maxHeartbeats 1000000
namespace Q6
open PySem PySem.Spec PyProof.Rows L2 PD

def topS (i : Nat) : Stmt := PySem.Challenge.pw_actasone_k06_whole_rows_and_alike_states.main.body.getD i (.Pass ⟨0, 0, 0, 0⟩)
def B_is_integer : Sf := (sRet (fAnd (fUn (fPeek 0) (gIsi "int")) (fNot (fUn (fPeek 0) (gIsi "bool")))))
def D_is_integer : Df := runDef 1 1 B_is_integer
def Ce0_is_name : Ef := (fBin (f2n 1 (fC (.val (.str "abcdefghijklmnopqrstuvwxyz")))) (gIn false))
def B_is_name : Sf := (sSeq (sIf (bOr (bNot (fTru (fFz (fUn (fPeek 0) (gIsi "str"))))) (bOr (fB (fBin (f2n 0 (fC (.val (.str "any")))) (gEq false))) (bNot (bChain (fun i j => decide (i ≤ j)) (fun i j => decide (i ≤ j)) (fC (.val (.int 1))) (fUn (fPeek 0) gLen) (fC (.val (.int 8))))))) (sRet (fC (.val (.bool false)))) sNil) (sRet (fUn (fFz (fLc [1] (wStr (fVar 0)) (.nm 1) bYes Ce0_is_name)) (gBools (·.all id)))))
def D_is_name : Df := runDef 1 2 B_is_name
def B_is_tuple : Sf := (sRet (fAnd (fUn (fPeek 0) (gIsi "tuple")) (fBin (f2e (fUn (fPeek 0) gLen) 1) (gEq false))))
def D_is_tuple : Df := runDef 2 2 B_is_tuple
def Ce0_ascends : Ef := (fBin (f2nn 1 2) gLt)
def B_ascends : Sf := (sRet (fUn (fFz (fLc [1, 2] (wZip (fVar 0) (fCutN 0 (oSome (fC (.val (.int 1)))) oNone)) (.tp [(.nm 1), (.nm 2)]) bYes Ce0_ascends)) (gBools (·.all id))))
def D_ascends : Df := runDef 1 3 B_ascends
def B_need : Sf := (sIf (bNot (fTru (fPeek 0))) (fun _ => none) sNil)
def D_need : Df := runDef 2 2 B_need
def L0_least_rows : Sf := (sIf (fB (fBin (f2nn 7 2) (gIn true))) (sSeq (sSetK 2 (fBin (f2 (fBin (f2nn 2 5) gSub) (fTup (aCons (fVar 6) aNil))) gAdd) (fVar 7)) (sExpr (fApp 3 (fVar 7)))) sNil)
def Wc0_least_rows : Bf := (fB (fBin (f2n 4 (fUn (fPeek 3) gLen)) gLt))
def Wb0_least_rows : Sf := (sSeq (sAsg (fBin (f2nn 3 4) gSub) (.nm 5)) (sSeq (sForW (wZip (fBin (f2n 0 (fC (.val (.int 0)))) gSub) (fBin (f2e (fBin (f2n 0 (fC (.val (.int 2)))) gSub) 5) gSub)) (.tp [(.nm 6), (.nm 7)]) L0_least_rows) (sAsg (fBin (f2n 4 (fC (.val (.int 1)))) gAdd) (.nm 4))))
def B_least_rows : Sf := (sSeq (sAsg (fDic (fVar 1) (fTup aNil)) (.nm 2)) (sSeq (sAsg (fLst (aCons (fVar 1) aNil)) (.nm 3)) (sSeq (sAsg (fC (.val (.int 0))) (.nm 4)) (sSeq (sWhile Wc0_least_rows Wb0_least_rows 64) (sRetV 2)))))
def D_least_rows : Df := runDef 2 8 B_least_rows
def B__law_draw : Sf := (sSeq (sFset 0 "turn" (fBin (f2 (fFget 0 "turn") (fC (.val (.int 1)))) gAdd)) (sSeq (sIf (fB (fBin (f2 (fFget 0 "rest") (fC (.val (.int 0)))) gGt)) (sSeq (sAsg (fBin (f2e (fUn (fFz (fFget 0 "rest")) gInt1) 1) gModI) (.nm 2)) (sSeq (sFset 0 "rest" (fBin (f2e (fFget 0 "rest") 1) gDivI)) (sRetV 2))) sNil) (sSeq (sPar (fFget 0 "cells") (fFget 0 "spot") 3 4) (sSeq (sFset 0 "spot" (fBin (f2n 4 (fC (.val (.int 1)))) gAdd)) (sSeq (sAsg (fIf (fB (fBin (f2n 3 (fLst aNil)) (gEq true))) (fBin (f2n 3 (fBin (f2 (fUn (fPeek 4) gInt1) (fUn (fPeek 3) gLen)) gModI)) gSub) (fC (.val (.int 60617)))) (.nm 5)) (sSeq (sIf (bAnd (fB (fBin (f2n 5 (fBin (f2 (fC (.val (.int 10))) (fC (.val (.int 18)))) gPowI)) gGe)) (fB (fBin (f2n 4 (fUn (fPeek 3) gLen)) gLt))) (sSeq (sFset 0 "rest" (fBin (f2nn 5 1) gDivI)) (sRet (fBin (f2e (fUn (fPeek 5) gInt1) 1) gModI))) sNil) (sSeq (sAsg (fBin (f2 (fUn (fFz (fBin (f2 (fBin (f2 (fBin (f2 (fUn (fPeek 5) gInt1) (fC (.val (.int 1999712933)))) gModI) (fBin (f2 (fC (.val (.int 106217))) (fFget 0 "turn")) gMul)) gAdd) (fC (.val (.int 6101)))) gAdd)) gInt1) (fC (.val (.int 2147310983)))) gModI) (.nm 6)) (sSeq (sAsg (fBin (f2 (fUn (fFz (fBin (f2 (fBin (f2 (fBin (f2nn 6 6) gMul) (fBin (f2 (fC (.val (.int 30611027))) (fFget 0 "turn")) gMul)) gAdd) (fC (.val (.int 641)))) gAdd)) gInt1) (fC (.val (.int 2147310961)))) gModI) (.nm 6)) (sRet (fBin (f2e (fUn (fFz (fBin (f2 (fBin (f2 (fUn (fFz (fBin (f2 (fBin (f2nn 6 6) gMul) (fBin (f2e (fC (.val (.int 6211))) 6) gMul)) gAdd)) gInt1) (fC (.val (.int 2147200001)))) gModI) (fC (.val (.int 8)))) gDivI)) gInt1) 1) gModI))))))))))
def D__law_draw : Df := runDef 2 7 B__law_draw
def B__law_same : Sf := (sRet (fBin (f2 (fUn (fPeek 0) gRepr) (fUn (fPeek 1) gRepr)) gEqS))
def D__law_same : Df := runDef 2 2 B__law_same
def L0__law_late : Sf := (sSeq (sPar (fBin (f2e (fBin (f2e (fBin (f2n 0 (fC (.val (.int 2)))) gSub) 3) gSub) 4) gSub) (fBin (f2 (fBin (f2nn 1 3) gSub) (fTup (aCons (fBin (f2e (fBin (f2n 0 (fC (.val (.int 0)))) gSub) 4) gSub) aNil))) gAdd) 5 6) (sIf (bOr (fB (fUn (fFz (fBin (f2nn 2 5) gSub)) (gIsN false))) (fB (fBin (f2n 6 (fBin (f2nn 2 5) gSub)) gLtT))) (sSetL 2 (fVar 6) (fVar 5)) sNil))
def L1__law_late : Sf := (sIf (fB (fUn (fFz (fBin (f2nn 1 3) gSub)) (gIsN true))) (sForW (wRange1 (fUn (fFz (fBin (f2n 0 (fC (.val (.int 0)))) gSub)) gLen)) (.nm 4) L0__law_late) sNil)
def B__law_late : Sf := (sSeq (sAsg (fBin (f2 (fLst (aCons (fC (.val .none)) aNil)) (fUn (fFz (fBin (f2n 0 (fC (.val (.int 2)))) gSub)) gLen)) gMul) (.nm 2)) (sSeq (sForW (wRange1 (fUn (fFz (fBin (f2n 0 (fC (.val (.int 2)))) gSub)) gLen)) (.nm 3) L1__law_late) (sRetV 2)))
def D__law_late : Df := runDef 2 7 B__law_late
def Ce0__law_parted : Ef := (fIdx (fBin (f2n 0 (fC (.val (.int 1)))) gSub) (fVar 14))
def Ce1__law_parted : Ef := (fTup (aCons (fVar 7) (aCons (fVar 8) aNil)))
def L0__law_parted : Sf := (sAsg (fBin (f2n 4 (fLc [8] (wRange1 (fVar 2)) (.nm 8) bYes Ce1__law_parted)) gAdd) (.nm 4))
def Ct0__law_parted : Bf := (fB (fBin (f2 (fBin (f2e (fBin (f2e (fBin (f2n 0 (fC (.val (.int 3)))) gSub) 7) gSub) 13) gSub) (fBin (f2e (fBin (f2e (fBin (f2n 0 (fC (.val (.int 3)))) gSub) 8) gSub) 13) gSub)) (gEq true)))
def Ce2__law_parted : Ef := (fVar 13)
def L1__law_parted : Sf := (sSeq (sAsg (fLc [13] (wVal (fVar 3)) (.nm 13) Ct0__law_parted Ce2__law_parted) (.nm 9)) (sSet2N 5 6 (fTup (aCons (fIf (fB (fBin (f2n 9 (fLst aNil)) (gEq true))) (fTup aNil) (fC (.val .none))) (aCons (fC (.val .none)) aNil))) (fTup (aCons (fVar 7) (aCons (fVar 8) aNil))) (fTup (aCons (fVar 7) (aCons (fVar 8) aNil)))))
def Ct1__law_parted : Bf := (fB (fUn (fFz (fBin (f2n 5 (fTup (aCons (fBin (f2e (fBin (f2e (fBin (f2n 0 (fC (.val (.int 2)))) gSub) 7) gSub) 13) gSub) (aCons (fBin (f2e (fBin (f2e (fBin (f2n 0 (fC (.val (.int 2)))) gSub) 8) gSub) 13) gSub) aNil)))) gND)) (gIsN true)))
def Ce3__law_parted : Ef := (fVar 13)
def L2__law_parted : Sf := (sSeq (sIf (fB (fUn (fFz (fBin (f2n 6 (fTup (aCons (fVar 7) (aCons (fVar 8) aNil)))) gND)) (gIsN false))) (sSetN 6 (fBin (f2n 5 (fTup (aCons (fVar 7) (aCons (fVar 8) aNil)))) gND) (fTup (aCons (fVar 7) (aCons (fVar 8) aNil)))) sNil) (sSeq (sAsg (fLc [13] (wRange1 (fUn (fFz (fBin (f2n 0 (fC (.val (.int 0)))) gSub)) gLen)) (.nm 13) Ct1__law_parted Ce3__law_parted) (.nm 12)) (sSeq (sSetN 11 (fC (.val .none)) (fTup (aCons (fVar 7) (aCons (fVar 8) aNil)))) (sIf (fB (fBin (f2n 12 (fLst aNil)) (gEq true))) (sSeq (sAsg (fBin (f2n 12 (fC (.val (.int 0)))) gSub) (.nm 13)) (sSetN 11 (fBin (f2 (fTup (aCons (fBin (f2e (fBin (f2n 0 (fC (.val (.int 0)))) gSub) 13) gSub) aNil)) (fBin (f2n 5 (fTup (aCons (fBin (f2e (fBin (f2e (fBin (f2n 0 (fC (.val (.int 2)))) gSub) 7) gSub) 13) gSub) (aCons (fBin (f2e (fBin (f2e (fBin (f2n 0 (fC (.val (.int 2)))) gSub) 8) gSub) 13) gSub) aNil)))) gND)) gAdd) (fTup (aCons (fVar 7) (aCons (fVar 8) aNil))))) sNil))))
def L3__law_parted : Sf := (sSeq (sAsg fNewN (.nm 11)) (sSeq (sForW (wVal (fVar 4)) (.tp [(.nm 7), (.nm 8)]) L2__law_parted) (sAsg (fVar 11) (.nm 5))))
def B__law_parted : Sf := (sSeq (sPar (fUn (fFz (fBin (f2n 0 (fC (.val (.int 2)))) gSub)) gLen) (fLc [14] (wVal (fVar 1)) (.nm 14) bYes Ce0__law_parted) 2 3) (sSeq (sPar3 (fLst aNil) fNewN fNewN 4 5 6) (sSeq (sForW (wRange1 (fVar 2)) (.nm 7) L0__law_parted) (sSeq (sForW (wVal (fVar 4)) (.tp [(.nm 7), (.nm 8)]) L1__law_parted) (sSeq (sForW (wRange1 (fVar 2)) (.nm 10) L3__law_parted) (sRetV 6))))))
def D__law_parted : Df := runDef 2 15 B__law_parted
def B_is_number : Sf := (sRet (fAnd (fCall D_is_integer (aCons (fVar 0) aNil)) (fBin (f2n 0 (fC (.val (.int 0)))) gGe)))
def D_is_number : Df := runDef 1 1 B_is_number
def Ce0_are_names : Ef := (fCall D_is_name (aCons (fVar 2) aNil))
def B_are_names : Sf := (sSeq (sIf (bOr (bNot (fTru (fFz (fUn (fPeek 0) (gIsi "tuple"))))) (fB (fBin (f2e (fUn (fPeek 0) gLen) 1) gLt))) (sRet (fC (.val (.bool false)))) sNil) (sRet (fAnd (fUn (fFz (fLc [2] (wVal (fVar 0)) (.nm 2) bYes Ce0_are_names)) (gBools (·.all id))) (fCall D_ascends (aCons (fVar 0) aNil)))))
def D_are_names : Df := runDef 2 3 B_are_names
def Ce0_is_set_of : Ef := (fBin (f2nn 2 1) (gIn false))
def B_is_set_of : Sf := (sRet (fAnd (fUn (fPeek 0) (gIsi "tuple")) (fAnd (fUn (fFz (fLc [2] (wVal (fVar 0)) (.nm 2) bYes Ce0_is_set_of)) (gBools (·.all id))) (fCall D_ascends (aCons (fVar 0) aNil)))))
def D_is_set_of : Df := runDef 2 3 B_is_set_of
def B__law_any : Sf := (sRet (fBin (f2n 1 (fCall D__law_draw (aCons (fVar 0) (aCons (fUn (fPeek 1) gLen) aNil)))) gSub))
def D__law_any : Df := runDef 2 2 B__law_any
def L0__law_name : Sf := (sPar (fBin (f2n 3 (fBin (f2 (fC (.val (.str "abcdefghijklmnopqrstuvwxyz"))) (fBin (f2 (fUn (fPeek 2) gInt1) (fC (.val (.int 26)))) gModI)) gSub)) gAdd) (fBin (f2n 2 (fC (.val (.int 26)))) gDivI) 3 2)
def B__law_name : Sf := (sSeq (sPar (fBin (f2 (fC (.val (.int 1))) (fCall D__law_draw (aCons (fVar 0) (aCons (fC (.val (.int 8))) aNil)))) gAdd) (fCall D__law_draw (aCons (fVar 0) (aCons (fC (.val (.int 456976))) aNil))) 1 2) (sSeq (sAsg (fC (.val (.str ""))) (.nm 3)) (sSeq (sForW (wRange1 (fC (.val (.int 4)))) (.nm 4) L0__law_name) (sSeq (sAsg (fCut (fBin (f2n 3 (fRevS (fVar 3))) gAdd) oNone (oSome (fVar 1))) (.nm 3)) (sRet (fIf (fB (fBin (f2n 3 (fC (.val (.str "any")))) (gEq true))) (fVar 3) (fC (.val (.str "anyone")))))))))
def D__law_name : Df := runDef 1 5 B__law_name
def Ce0__law_rows : Ef := (fIf (fB (fUn (fFz (fBin (f2nn 2 5) gSub)) (gIsN false))) (fBin (f2nn 3 5) gSub) (fBin (f2nn 2 5) gSub))
def L0__law_rows : Sf := (sSeq (sAsg (fLc [5] (wRange1 (fVar 1)) (.nm 5) bYes Ce0__law_rows) (.nm 2)) (sAsg (fCall D__law_late (aCons (fVar 0) (aCons (fVar 3) aNil))) (.nm 3)))
def B__law_rows : Sf := (sSeq (sAsg (fUn (fFz (fBin (f2n 0 (fC (.val (.int 2)))) gSub)) gLen) (.nm 1)) (sSeq (sPar (fBin (f2e (fLst (aCons (fC (.val .none)) aNil)) 1) gMul) (fBin (f2 (fLst (aCons (fTup aNil) aNil)) (fBin (f2 (fLst (aCons (fC (.val .none)) aNil)) (fBin (f2n 1 (fC (.val (.int 1)))) gSubI)) gMul)) gAdd) 2 3) (sSeq (sForW (wRange1 (fVar 1)) (.nm 4) L0__law_rows) (sRetV 2))))
def D__law_rows : Df := runDef 1 6 B__law_rows
def Ce0_are_numbers : Ef := (fCall D_is_number (aCons (fVar 2) aNil))
def B_are_numbers : Sf := (sRet (fAnd (fCall D_is_tuple (aCons (fVar 0) (aCons (fVar 1) aNil))) (fUn (fFz (fLc [2] (wVal (fVar 0)) (.nm 2) bYes Ce0_are_numbers)) (gBools (·.all id)))))
def D_are_numbers : Df := runDef 2 3 B_are_numbers
def B_is_index : Sf := (sRet (fAnd (fCall D_is_number (aCons (fVar 0) aNil)) (fBin (f2n 0 (fUn (fPeek 1) gLen)) gLt)))
def D_is_index : Df := runDef 2 2 B_is_index
def Ce0_answers_to : Ef := (fBin (f2 (fBin (f2e (fBin (f2n 0 (fC (.val (.int 3)))) gSub) 1) gSub) (fIdx (fBin (f2n 0 (fC (.val (.int 1)))) gSub) (fVar 3))) gSub)
def B_answers_to : Sf := (sRet (fGx [3] (wVal (fVar 2)) (.nm 3) bYes Ce0_answers_to))
def D_answers_to : Df := runDef 3 4 B_answers_to
def L0_least_with : Sf := (sIf (fB (fBin (f2nn 3 1) (gNIn true))) (sSetN 1 (fVar 2) (fVar 3)) sNil)
def Ce0_least_with : Ef := (fBin (f2nn 1 3) gND)
def B_least_with : Sf := (sSeq (sAsg fNewN (.nm 1)) (sSeq (sForW (wEnum (fVar 0)) (.tp [(.nm 2), (.nm 3)]) L0_least_with) (sRet (fGx [3] (wVal (fVar 0)) (.nm 3) bYes Ce0_least_with))))
def D_least_with : Df := runDef 1 4 B_least_with
def L0__law_names : Sf := (sSeq (sAsg (fCall D__law_name (aCons (fVar 0) aNil)) (.nm 4)) (sAsg (fIf (fB (fBin (f2nn 4 2) (gIn true))) (fBin (f2n 2 (fLst (aCons (fVar 4) aNil))) gAdd) (fVar 2)) (.nm 2)))
def L1__law_names : Sf := (sAsg (fIf (bAnd (fB (fBin (f2nn 4 2) (gIn true))) (fB (fBin (f2e (fUn (fPeek 2) gLen) 1) gLt))) (fBin (f2n 2 (fLst (aCons (fVar 4) aNil))) gAdd) (fVar 2)) (.nm 2))
def B__law_names : Sf := (sSeq (sAsg (fLst aNil) (.nm 2)) (sSeq (sForW (wRange1 (fVar 1)) (.nm 3) L0__law_names) (sSeq (sForW (wVal (fLst (aCons (fC (.val (.str "k"))) (aCons (fC (.val (.str "off"))) (aCons (fC (.val (.str "on"))) (aCons (fC (.val (.str "zz"))) aNil)))))) (.nm 4) L1__law_names) (sRet (fUn (fFz (fUn (fPeek 2) gSorted)) gTupleOf)))))
def D__law_names : Df := runDef 2 5 B__law_names
def Ce0__law_shape : Ef := (fCall D__law_any (aCons (fVar 0) (aCons (fLst (aCons (fC (.val (.int 0))) (aCons (fVar 6) (aCons (fUn (fFz (fLst (aCons (fBin (f2n 6 (fC (.val (.int 1)))) gAdd) (aCons (fBin (f2n 2 (fC (.val (.int 1)))) gSubI) aNil)))) (gExtL minI)) aNil)))) aNil)))
def Ce1__law_shape : Ef := (fBin (f2e (fUn (fFz (fBin (f2e (fBin (f2nn 6 3) gMul) 8) gAdd)) gInt1) 2) gModI)
def Ce2__law_shape : Ef := (fUn (fFz (fLst (aCons (fBin (f2 (fBin (f2n 6 (fC (.val (.int 1)))) gSubI) (fCall D__law_draw (aCons (fVar 0) (aCons (fC (.val (.int 2))) aNil)))) gSubI) (aCons (fC (.val (.int 0))) aNil)))) gMax)
def Ce3__law_shape : Ef := (fBin (f2e (fUn (fPeek 9) gInt1) 4) gModI)
def Ce4__law_shape : Ef := (fBin (f2n 9 (fBin (f2n 4 (fCall D__law_draw (aCons (fVar 0) (aCons (fC (.val (.int 2))) aNil)))) gMul)) gAdd)
def Ce5__law_shape : Ef := (fIf (fB (fBin (f2nn 9 2) gLt)) (fVar 9) (fBin (f2nn 9 4) gSubI))
def Ce6__law_shape : Ef := (fCall D__law_draw (aCons (fVar 0) (aCons (fVar 2) aNil)))
def L0__law_shape : Sf := (sSeq (sIf (fB (fBin (f2n 1 (fC (.val (.int 2)))) (gEq false))) (sAsg (fBin (f2 (fLst (aCons (fUn (fFz (fLst (aCons (fBin (f2n 6 (fC (.val (.int 1)))) gAdd) (aCons (fBin (f2n 2 (fC (.val (.int 1)))) gSubI) aNil)))) (gExtL minI)) aNil)) (fLc [8] (wRange1 (fBin (f2n 3 (fC (.val (.int 1)))) gSubI)) (.nm 8) bYes Ce0__law_shape)) gAdd) (.nm 7)) (sIf (fB (fBin (f2n 1 (fC (.val (.int 3)))) (gEq false))) (sAsg (fLc [8] (wRange1 (fVar 3)) (.nm 8) bYes Ce1__law_shape) (.nm 7)) (sIf (fB (fBin (f2n 1 (fC (.val (.int 4)))) (gEq false))) (sAsg (fLc [8] (wRange1 (fVar 3)) (.nm 8) bYes Ce2__law_shape) (.nm 7)) (sIf (bAnd (fB (fBin (f2n 1 (fC (.val (.int 1)))) (gEq false))) (fB (fBin (f2nn 6 4) gGe))) (sSeq (sAsg (fLc [9] (wVal (fBin (f2n 5 (fBin (f2nn 6 4) gSubI)) gSub)) (.nm 9) bYes Ce3__law_shape) (.nm 7)) (sSeq (sAsg (fLc [9] (wVal (fVar 7)) (.nm 9) bYes Ce4__law_shape) (.nm 7)) (sAsg (fLc [9] (wVal (fVar 7)) (.nm 9) bYes Ce5__law_shape) (.nm 7)))) (sAsg (fLc [8] (wRange1 (fVar 3)) (.nm 8) bYes Ce6__law_shape) (.nm 7)))))) (sExpr (fApp 5 (fVar 7))))
def B__law_shape : Sf := (sSeq (sPar (fBin (f2 (fBin (f2n 2 (fC (.val (.int 1)))) gAdd) (fC (.val (.int 2)))) gDivI) (fLst aNil) 4 5) (sSeq (sForW (wRange1 (fVar 2)) (.nm 6) L0__law_shape) (sRetV 5)))
def D__law_shape : Df := runDef 4 10 B__law_shape
def Ce0__law_seen : Ef := (fIf (fB (fBin (f2n 5 (fC (.val (.int 9)))) gLt)) (fCall D__law_draw (aCons (fVar 0) (aCons (fVar 5) aNil))) (fBin (f2n 5 (fCall D__law_draw (aCons (fVar 0) (aCons (fC (.val (.int 2))) aNil)))) gSubI))
def L0__law_seen : Sf := (sSeq (sAsg (fLc [9] (wRange1 (fVar 3)) (.nm 9) bYes Ce0__law_seen) (.nm 8)) (sSeq (sIf (bAnd (fB (fBin (f2n 1 (fC (.val (.int 1)))) (gEq false))) (fB (fBin (f2nn 7 4) gGe))) (sAsg (fBin (f2n 6 (fBin (f2nn 7 4) gSubI)) gSub) (.nm 8)) sNil) (sSeq (sIf (bAnd (fB (fBin (f2n 1 (fC (.val (.int 2)))) (gEq false))) (bAnd (fB (fBin (f2n 7 (fC (.val (.int 0)))) gGt)) (fB (fBin (f2n 7 (fBin (f2n 2 (fC (.val (.int 1)))) gSubI)) gLt)))) (sAsg (fBin (f2n 6 (fC (.val (.int 0)))) gSub) (.nm 8)) sNil) (sExpr (fApp 6 (fUn (fPeek 8) gList))))))
def B__law_seen : Sf := (sSeq (sPar3 (fBin (f2 (fBin (f2n 2 (fC (.val (.int 1)))) gAdd) (fC (.val (.int 2)))) gDivI) (fCall D__law_any (aCons (fVar 0) (aCons (fLst (aCons (fC (.val (.int 2))) (aCons (fC (.val (.int 2))) (aCons (fC (.val (.int 3))) (aCons (fBin (f2 (fC (.val (.int 10))) (fC (.val (.int 30)))) gPowI) aNil))))) aNil))) (fLst aNil) 4 5 6) (sSeq (sForW (wRange1 (fVar 2)) (.nm 7) L0__law_seen) (sRetV 6)))
def D__law_seen : Df := runDef 4 10 B__law_seen
def L0_machine_fault : Sf := (sIf (bOr (bNot (fTru (fFz (fCall D_are_numbers (aCons (fVar 6) (aCons (fUn (fPeek 1) gLen) aNil)))))) (fB (fBin (f2 (fUn (fPeek 6) gMax) (fUn (fPeek 3) gLen)) gGe))) (sRet (fTup (aCons (fC (.val (.str "move"))) (aCons (fVar 5) aNil)))) sNil)
def L1_machine_fault : Sf := (sIf (bNot (fTru (fFz (fCall D_are_numbers (aCons (fVar 6) (aCons (fUn (fPeek 2) gLen) aNil)))))) (sRet (fTup (aCons (fC (.val (.str "answer"))) (aCons (fVar 5) aNil)))) sNil)
def B_machine_fault : Sf := (sSeq (sIf (bNot (fTru (fFz (fCall D_is_tuple (aCons (fVar 0) (aCons (fC (.val (.int 4))) aNil)))))) (sRet (fTup (aCons (fC (.val (.str "shape"))) (aCons (fNeg (fC (.val (.int 1)))) aNil)))) sNil) (sSeq (sAsg (fVar 0) (.tp [(.nm 1), (.nm 2), (.nm 3), (.nm 4)])) (sSeq (sIf (bNot (fTru (fFz (fCall D_are_names (aCons (fVar 1) (aCons (fC (.val (.int 2))) aNil)))))) (sRet (fTup (aCons (fC (.val (.str "letters"))) (aCons (fNeg (fC (.val (.int 1)))) aNil)))) sNil) (sSeq (sIf (bNot (fTru (fFz (fCall D_are_names (aCons (fVar 2) (aCons (fC (.val (.int 1))) aNil)))))) (sRet (fTup (aCons (fC (.val (.str "looks"))) (aCons (fNeg (fC (.val (.int 1)))) aNil)))) sNil) (sSeq (sIf (bOr (bNot (fTru (fFz (fUn (fPeek 3) (gIsi "tuple"))))) (bNot (fTru (fPeek 3)))) (sRet (fTup (aCons (fC (.val (.str "moves"))) (aCons (fNeg (fC (.val (.int 1)))) aNil)))) sNil) (sSeq (sForW (wEnum (fVar 3)) (.tp [(.nm 5), (.nm 6)]) L0_machine_fault) (sSeq (sIf (bNot (fTru (fFz (fCall D_is_tuple (aCons (fVar 4) (aCons (fUn (fPeek 3) gLen) aNil)))))) (sRet (fTup (aCons (fC (.val (.str "answers"))) (aCons (fNeg (fC (.val (.int 1)))) aNil)))) sNil) (sSeq (sForW (wEnum (fVar 4)) (.tp [(.nm 5), (.nm 6)]) L1_machine_fault) (sRet (fC (.val .none)))))))))))
def D_machine_fault : Df := runDef 1 7 B_machine_fault
def B_is_state : Sf := (sRet (fCall D_is_index (aCons (fVar 1) (aCons (fBin (f2n 0 (fC (.val (.int 2)))) gSub) aNil))))
def D_is_state : Df := runDef 2 2 B_is_state
def Ce0_classes_by : Ef := (fCall D_answers_to (aCons (fVar 0) (aCons (fVar 5) (aCons (fVar 1) aNil))))
def Ce1_classes_by : Ef := (fBin (f2nn 3 7) gSub)
def Ce2_classes_by : Ef := (fUn (fFz (fLc [7] (wVal (fVar 6)) (.nm 7) bYes Ce1_classes_by)) gTupleOf)
def Wc0_classes_by : Bf := (fB (fBin (f2nn 2 3) (gEq true)))
def Wb0_classes_by : Sf := (sSeq (sAsg (fVar 2) (.nm 3)) (sSeq (sAsg (fLc [6] (wVal (fBin (f2n 0 (fC (.val (.int 2)))) gSub)) (.nm 6) bYes Ce2_classes_by) (.nm 4)) (sAsg (fCall D_least_with (aCons (fZipL (fVar 3) (fVar 4)) aNil)) (.nm 2))))
def B_classes_by : Sf := (sSeq (sAsg (fCall D_least_with (aCons (fLc [5] (wRange1 (fUn (fFz (fBin (f2n 0 (fC (.val (.int 2)))) gSub)) gLen)) (.nm 5) bYes Ce0_classes_by) aNil)) (.nm 2)) (sSeq (sAsg (fTup aNil) (.nm 3)) (sSeq (sWhile Wc0_classes_by Wb0_classes_by 64) (sRetV 3))))
def D_classes_by : Df := runDef 2 8 B_classes_by
def L0_least_parting : Sf := (sIf (fB (fBin (f2e (fTup (aCons (fVar 10) (aCons (fVar 11) aNil))) 4) (gNIn true))) (sSeq (sSetN 4 (fBin (f2 (fBin (f2n 4 (fTup (aCons (fVar 7) (aCons (fVar 8) aNil)))) gND) (fTup (aCons (fVar 9) aNil))) gAdd) (fTup (aCons (fVar 10) (aCons (fVar 11) aNil)))) (sExpr (fApp 5 (fTup (aCons (fVar 10) (aCons (fVar 11) aNil)))))) sNil)
def Wc0_least_parting : Bf := (fB (fBin (f2n 6 (fUn (fPeek 5) gLen)) gLt))
def Wb0_least_parting : Sf := (sSeq (sAsg (fBin (f2nn 5 6) gSub) (.tp [(.nm 7), (.nm 8)])) (sSeq (sIf (fB (fBin (f2 (fCall D_answers_to (aCons (fVar 0) (aCons (fVar 7) (aCons (fVar 3) aNil)))) (fCall D_answers_to (aCons (fVar 0) (aCons (fVar 8) (aCons (fVar 3) aNil))))) (gEq true))) (sRet (fBin (f2n 4 (fTup (aCons (fVar 7) (aCons (fVar 8) aNil)))) gND)) sNil) (sSeq (sForW (wZip3 (fBin (f2n 0 (fC (.val (.int 0)))) gSub) (fBin (f2e (fBin (f2n 0 (fC (.val (.int 2)))) gSub) 7) gSub) (fBin (f2e (fBin (f2n 0 (fC (.val (.int 2)))) gSub) 8) gSub)) (.tp [(.nm 9), (.nm 10), (.nm 11)]) L0_least_parting) (sAsg (fBin (f2n 6 (fC (.val (.int 1)))) gAdd) (.nm 6)))))
def B_least_parting : Sf := (sSeq (sAsg (fDicN (fTup (aCons (fVar 1) (aCons (fVar 2) aNil))) (fTup aNil)) (.nm 4)) (sSeq (sAsg (fLst (aCons (fTup (aCons (fVar 1) (aCons (fVar 2) aNil))) aNil)) (.nm 5)) (sSeq (sAsg (fC (.val (.int 0))) (.nm 6)) (sSeq (sWhile Wc0_least_parting Wb0_least_parting 64) (sRet (fC (.val .none)))))))
def D_least_parting : Df := runDef 4 12 B_least_parting
def Ce0__law_box : Ef := (fBin (f2n 5 (fBin (f2e (fUn (fFz (fBin (f2nn 9 7) gAdd)) gInt1) 2) gModI)) gSub)
def Ce1__law_box : Ef := (fBin (f2e (fUn (fFz (fBin (f2nn 11 7) gSubI)) gInt1) 2) gModI)
def Ce2__law_box : Ef := (fUn (fFz (fLc [11] (wVal (fVar 10)) (.nm 11) bYes Ce1__law_box)) gTupleOf)
def Ce3__law_box : Ef := (fUn (fFz (fBin (f2n 6 (fBin (f2e (fUn (fFz (fBin (f2nn 9 7) gAdd)) gInt1) 2) gModI)) gSub)) gTupleOf)
def B__law_box : Sf := (sSeq (sPar (fCall D__law_draw (aCons (fVar 0) (aCons (fC (.val (.int 6))) aNil))) (fBin (f2 (fC (.val (.int 1))) (fCall D__law_draw (aCons (fVar 0) (aCons (fC (.val (.int 6))) aNil)))) gAdd) 1 2) (sSeq (sPar (fCall D__law_names (aCons (fVar 0) (aCons (fBin (f2 (fC (.val (.int 2))) (fCall D__law_draw (aCons (fVar 0) (aCons (fC (.val (.int 3))) aNil)))) gAdd) aNil))) (fCall D__law_names (aCons (fVar 0) (aCons (fBin (f2 (fC (.val (.int 1))) (fCall D__law_draw (aCons (fVar 0) (aCons (fC (.val (.int 3))) aNil)))) gAdd) aNil))) 3 4) (sSeq (sIf (fB (fBin (f2n 1 (fC (.val (.int 3)))) (gEq false))) (sAsg (fIf (bAnd (fB (fBin (f2 (fUn (fPeek 3) gLen) (fC (.val (.int 2)))) (gEq false))) (fB (fBin (f2 (fCall D__law_draw (aCons (fVar 0) (aCons (fC (.val (.int 2))) aNil))) (fC (.val (.int 0)))) (gEq false)))) (fC (.val (.int 4))) (fUn (fPeek 3) gLen)) (.nm 2)) sNil) (sSeq (sPar (fCall D__law_shape (aCons (fVar 0) (aCons (fVar 1) (aCons (fVar 2) (aCons (fUn (fPeek 3) gLen) aNil))))) (fCall D__law_seen (aCons (fVar 0) (aCons (fVar 1) (aCons (fVar 2) (aCons (fUn (fPeek 4) gLen) aNil))))) 5 6) (sSeq (sAsg (fIf (fB (fBin (f2 (fCall D__law_draw (aCons (fVar 0) (aCons (fC (.val (.int 2))) aNil))) (fC (.val (.int 0)))) (gEq false))) (fCall D__law_draw (aCons (fVar 0) (aCons (fVar 2) aNil))) (fC (.val (.int 0)))) (.nm 7)) (sSeq (sAsg (fLc [9] (wRange1 (fVar 2)) (.nm 9) bYes Ce0__law_box) (.nm 8)) (sSeq (sAsg (fLc [10] (wVal (fVar 8)) (.nm 10) bYes Ce2__law_box) (.nm 8)) (sRet (fTup (aCons (fVar 3) (aCons (fVar 4) (aCons (fUn (fPeek 8) gTupleOf) (aCons (fUn (fFz (fLc [9] (wRange1 (fVar 2)) (.nm 9) bYes Ce3__law_box)) gTupleOf) aNil)))))))))))))
def D__law_box : Df := runDef 1 12 B__law_box
def B_is_machine : Sf := (sRet (fUn (fFz (fCall D_machine_fault (aCons (fVar 0) aNil))) (gIsN false)))
def D_is_machine : Df := runDef 1 1 B_is_machine
def B_need_machine : Sf := (sExpr (fCall D_need (aCons (fCall D_is_machine (aCons (fVar 0) aNil)) (aCons (fC (.val (.str "machine"))) aNil))))
def D_need_machine : Df := runDef 1 1 B_need_machine
def B_need_state : Sf := (sSeq (sExpr (fCall D_need_machine (aCons (fVar 0) aNil))) (sExpr (fCall D_need (aCons (fCall D_is_state (aCons (fVar 0) (aCons (fVar 1) aNil))) (aCons (fC (.val (.str "state"))) aNil)))))
def D_need_state : Df := runDef 2 2 B_need_state
def B_need_looks : Sf := (sSeq (sExpr (fCall D_need_machine (aCons (fVar 0) aNil))) (sExpr (fCall D_need (aCons (fCall D_is_set_of (aCons (fVar 1) (aCons (fBin (f2n 0 (fC (.val (.int 1)))) gSub) aNil))) (aCons (fC (.val (.str "looks"))) aNil)))))
def D_need_looks : Df := runDef 2 2 B_need_looks
def B_reachable_states : Sf := (sSeq (sExpr (fCall D_need_machine (aCons (fVar 0) aNil))) (sRet (fUn (fFz (fUn (fFz (fCall D_least_rows (aCons (fVar 0) (aCons (fC (.val (.int 0))) aNil)))) gSorted)) gTupleOf)))
def D_reachable_states : Df := runDef 1 1 B_reachable_states
def B_need_two_states : Sf := (sSeq (sExpr (fCall D_need_state (aCons (fVar 0) (aCons (fVar 1) aNil)))) (sSeq (sExpr (fCall D_need (aCons (fCall D_is_state (aCons (fVar 0) (aCons (fVar 2) aNil))) (aCons (fC (.val (.str "other"))) aNil)))) (sExpr (fCall D_need (aCons (fCall D_is_set_of (aCons (fVar 3) (aCons (fBin (f2n 0 (fC (.val (.int 1)))) gSub) aNil))) (aCons (fC (.val (.str "looks"))) aNil))))))
def D_need_two_states : Df := runDef 4 4 B_need_two_states
def B_row_to : Sf := (sSeq (sExpr (fCall D_need_state (aCons (fVar 0) (aCons (fVar 1) aNil)))) (sRet (fGet2 (fCall D_least_rows (aCons (fVar 0) (aCons (fC (.val (.int 0))) aNil))) (fVar 1) (fC (.val .none)))))
def D_row_to : Df := runDef 2 2 B_row_to
def B_alike_classes : Sf := (sSeq (sExpr (fCall D_need_looks (aCons (fVar 0) (aCons (fVar 1) aNil)))) (sRet (fCall D_classes_by (aCons (fVar 0) (aCons (fVar 1) aNil)))))
def D_alike_classes : Df := runDef 2 2 B_alike_classes
def B_are_alike : Sf := (sSeq (sExpr (fCall D_need_two_states (aCons (fVar 0) (aCons (fVar 1) (aCons (fVar 2) (aCons (fVar 3) aNil)))))) (sSeq (sAsg (fCall D_classes_by (aCons (fVar 0) (aCons (fVar 3) aNil))) (.nm 4)) (sRet (fBin (f2 (fBin (f2nn 4 1) gSub) (fBin (f2nn 4 2) gSub)) (gEq false)))))
def D_are_alike : Df := runDef 4 5 B_are_alike
def B_parting_row : Sf := (sSeq (sExpr (fCall D_need_two_states (aCons (fVar 0) (aCons (fVar 1) (aCons (fVar 2) (aCons (fVar 3) aNil)))))) (sRet (fCall D_least_parting (aCons (fVar 0) (aCons (fVar 1) (aCons (fVar 2) (aCons (fVar 3) aNil)))))))
def D_parting_row : Df := runDef 4 4 B_parting_row
def Ct0__law_are_rows_right : Bf := (fB (fUn (fFz (fBin (f2nn 1 4) gSub)) (gIsN true)))
def Ce0__law_are_rows_right : Ef := (fVar 4)
def Ce1__law_are_rows_right : Ef := (fCall D_row_to (aCons (fVar 0) (aCons (fVar 4) aNil)))
def B__law_are_rows_right : Sf := (sSeq (sAsg (fCall D__law_rows (aCons (fVar 0) aNil)) (.nm 1)) (sSeq (sAsg (fUn (fFz (fLc [4] (wRange1 (fUn (fPeek 1) gLen)) (.nm 4) Ct0__law_are_rows_right Ce0__law_are_rows_right)) gTupleOf) (.nm 2)) (sSeq (sAsg (fLst (aCons (fCall D_reachable_states (aCons (fVar 0) aNil)) (aCons (fCall D_reachable_states (aPick [0] (aCons (fVar 0) aNil))) aNil))) (.nm 3)) (sSeq (sAsg (fBin (f2n 3 (fLc [4] (wRange1 (fUn (fPeek 1) gLen)) (.nm 4) bYes Ce1__law_are_rows_right)) gAdd) (.nm 3)) (sSeq (sExpr (fApp 3 (fCall D_row_to (aPick [1, 0] (aCons (fBin (f2 (fUn (fPeek 1) gLen) (fC (.val (.int 1)))) gSubI) (aCons (fVar 0) aNil)))))) (sRet (fCall D__law_same (aCons (fVar 3) (aCons (fBin (f2 (fBin (f2e (fLst (aCons (fVar 2) (aCons (fVar 2) aNil))) 1) gAdd) (fLst (aCons (fBin (f2n 1 (fNeg (fC (.val (.int 1))))) gSub) aNil))) gAdd) aNil)))))))))
def D__law_are_rows_right : Df := runDef 1 5 B__law_are_rows_right
def Ct0__law_are_alike_right : Bf := (fB (fUn (fFz (fBin (f2n 3 (fTup (aCons (fVar 8) (aCons (fVar 9) aNil)))) gND)) (gIsN false)))
def Ce0__law_are_alike_right : Ef := (fVar 9)
def Ce1__law_are_alike_right : Ef := (fUn (fFz (fLc [9] (wRange1 (fVar 4)) (.nm 9) Ct0__law_are_alike_right Ce0__law_are_alike_right)) (gExtL minI))
def L0__law_are_alike_right : Sf := (sSeq (sPar (fCall D__law_draw (aCons (fVar 0) (aCons (fVar 4) aNil))) (fCall D__law_draw (aCons (fVar 0) (aCons (fVar 4) aNil))) 8 9) (sSeq (sAsg (fLst (aCons (fCall D_are_alike (aCons (fVar 1) (aCons (fVar 8) (aCons (fVar 9) (aCons (fVar 2) aNil))))) (aCons (fCall D_are_alike (aPick [3, 2, 1, 0] (aCons (fVar 2) (aCons (fVar 9) (aCons (fVar 8) (aCons (fVar 1) aNil)))))) aNil))) (.nm 6)) (sSeq (sAsg (fBin (f2n 6 (fLst (aCons (fCall D_parting_row (aCons (fVar 1) (aCons (fVar 8) (aCons (fVar 9) (aCons (fVar 2) aNil))))) (aCons (fCall D_parting_row (aPick [3, 2, 1, 0] (aCons (fVar 2) (aCons (fVar 9) (aCons (fVar 8) (aCons (fVar 1) aNil)))))) aNil)))) gAdd) (.nm 6)) (sSeq (sExpr (fApp 6 (fCall D_parting_row (aCons (fVar 1) (aCons (fVar 9) (aCons (fVar 8) (aCons (fVar 2) aNil))))))) (sSeq (sAsg (fBin (f2n 3 (fTup (aCons (fVar 8) (aCons (fVar 9) aNil)))) gND) (.nm 10)) (sIf (bNot (fTru (fFz (fCall D__law_same (aCons (fVar 6) (aCons (fLst (aCons (fUn (fPeek 10) (gIsN false)) (aCons (fUn (fPeek 10) (gIsN false)) (aCons (fVar 10) (aCons (fVar 10) (aCons (fVar 10) aNil)))))) aNil)))))) (sRet (fC (.val (.bool false)))) sNil))))))
def B__law_are_alike_right : Sf := (sSeq (sPar (fCall D__law_parted (aCons (fVar 1) (aCons (fVar 2) aNil))) (fUn (fFz (fBin (f2n 1 (fC (.val (.int 2)))) gSub)) gLen) 3 4) (sSeq (sAsg (fLc [8] (wRange1 (fVar 4)) (.nm 8) bYes Ce1__law_are_alike_right) (.nm 5)) (sSeq (sAsg (fLst (aCons (fCall D_alike_classes (aCons (fVar 1) (aCons (fVar 2) aNil))) (aCons (fCall D_alike_classes (aPick [1, 0] (aCons (fVar 2) (aCons (fVar 1) aNil)))) aNil))) (.nm 6)) (sSeq (sIf (bNot (fTru (fFz (fCall D__law_same (aCons (fVar 6) (aCons (fLst (aCons (fUn (fPeek 5) gTupleOf) (aCons (fUn (fPeek 5) gTupleOf) aNil))) aNil)))))) (sRet (fC (.val (.bool false)))) sNil) (sSeq (sForW (wRange1 (fC (.val (.int 4)))) (.nm 7) L0__law_are_alike_right) (sRet (fC (.val (.bool true)))))))))
def D__law_are_alike_right : Df := runDef 3 11 B__law_are_alike_right
end Q6

set_option Elab.async false
set_option linter.all false
set_option maxRecDepth 100000
set_option maxHeartbeats 2000000
namespace Q6
open PySem PySem.Spec PyProof.Rows L2 PD

def Ct0_law : Bf := (fB (fBin (f2 (fCall D__law_draw (aCons (fVar 1) (aCons (fC (.val (.int 2))) aNil))) (fC (.val (.int 0)))) (gEq false)))
def Ce0_law : Ef := (fVar 6)
def L0_law : Sf := (sIf (bNot (fTru (fFz (fCall D__law_are_alike_right (aCons (fVar 1) (aCons (fVar 3) (aCons (fVar 5) aNil))))))) (sRet (fC (.val (.bool false)))) sNil)
def L1_law : Sf := (sSeq (sAsg (fCall D__law_box (aCons (fVar 1) aNil)) (.nm 3)) (sSeq (sIf (bNot (fTru (fFz (fCall D__law_are_rows_right (aCons (fVar 3) aNil))))) (sRet (fC (.val (.bool false)))) sNil) (sSeq (sAsg (fUn (fFz (fLc [6] (wVal (fBin (f2n 3 (fC (.val (.int 1)))) gSub)) (.nm 6) Ct0_law Ce0_law)) gTupleOf) (.nm 4)) (sForW (wVal (fLst (aCons (fVar 4) (aCons (fCall D__law_any (aCons (fVar 1) (aCons (fLst (aCons (fTup aNil) (aCons (fBin (f2n 3 (fC (.val (.int 1)))) gSub) (aCons (fBin (f2n 3 (fC (.val (.int 1)))) gSub) aNil)))) aNil))) aNil)))) (.nm 5) L0_law))))
def B_law : Sf := (sSeq (sForW (wRange1 (fC (.val (.int 2)))) (.nm 2) L1_law) (sRet (fC (.val (.bool true)))))
variable [TheW]
abbrev s_law : Stmt := topS 51
theorem sc_law : FnScope ["_law_script", "_law_feed_here", "_law_lap", "_law_box_here", "_law_some", "_law_late_here", "_law_one"] ["_law_script"] (defScope s_law) := ⟨rfl, rfl, rfl, by decide +kernel, rfl, by decide +kernel, by decide +kernel⟩
theorem body_law {P : Program} {w : World} {K : PySem.W.Frag} {mg : Str → Option Value} {base : Heap} {tb : Addr → Prop} {f : Addr} (m_range : mg "range" = none) (m_tuple : mg "tuple" = none) (c__law_any : Cd P w K mg base tb 2 "_law_any" ["_law_feed_here", "_law_some"] [] D__law_any) (c__law_are_alike_right : Cd P w K mg base tb 10 "_law_are_alike_right" ["_law_feed_here", "_law_box_here", "_law_some"] [] D__law_are_alike_right) (c__law_are_rows_right : Cd P w K mg base tb 9 "_law_are_rows_right" ["_law_box_here"] [] D__law_are_rows_right) (c__law_box : Cd P w K mg base tb 4 "_law_box" ["_law_feed_here"] [] D__law_box) (c__law_draw : Cd P w K mg base tb 1 "_law_draw" ["_law_feed_here", "_law_size"] [] D__law_draw) (cdv : Value) (A : Around) (outer : List Env) (s : Shared) (H : Hp) (hr : Room 10 (A.deeper (envOfC "law" (defScope s_law) s.heap.objs.size f cdv))) (hgd : (A.deeper (envOfC "law" (defScope s_law) s.heap.objs.size f cdv)).guards = some []) (Γ : Gm) (hT : TbAt tb Γ.H0) :
    PSSd (cxOf CX0 P w K mg base ["_law_script", "_law_feed_here", "_law_lap", "_law_box_here", "_law_some", "_law_late_here", "_law_one"] "law" (defScope s_law) f cdv A outer s H E0).nox Γ (defBody s_law).tail B_law := by
  have hN := sc_law.nd
  exact (pss_consD (ps_forD PassesOwn.never rfl (pid_range1 pd_int (by rfl) m_range) (pgd_name hN (i := 2) rfl (.inl rfl)) (pss_consD (ps_asgD (pd_cd c__law_box hT (hr.mono (by decide)) hgd (by rfl) (pad_cons (pd_var 1 (pv 1)) pad_nil)) (pgd_name hN (i := 3) rfl (.inl rfl))) (pss_consD (ps_ifD (ptd_not (pt_tru (p1_e (pd_cd c__law_are_rows_right hT (hr.mono (by decide)) hgd (by rfl) (pad_cons (pd_var 3 (pv 3)) pad_nil))))) (pss_oneD (ps_retD pd_bl)) pss_nilD) (pss_consD (ps_asgD (pd_tupleOf (p1_e (pd_lc rfl hN (own := [("_law_one", 6)]) (pid_val (pd_sub hr.u1 (p2_ne 3 (pv 3) pd_int) (fun _ _ => rfl) (fun _ _ => rfl))) (blkOk_by (by kernel_rfl)) (fun _ _ _ _ _ => (pgd_name hN (i := 6) rfl (.inl rfl))) (fun _ _ _ _ _ => (ptsd_one (c_eq hr.u64 (p2_ee (pd_cd c__law_draw hT (hr.mono (by decide)) hgd (by rfl) (pad_cons (pd_var 1 (pv 1)) (pad_cons pd_int pad_nil))) pd_int)).t)) (fun _ _ _ _ _ => (pd_var 6 (pv 6))))) (by rfl) m_tuple) (pgd_name hN (i := 4) rfl (.inl rfl))) (pss_oneD (ps_forD PassesOwn.never rfl (pid_val (pd_lst (pad_cons (pd_var 4 (pv 4)) (pad_cons (pd_cd c__law_any hT (hr.mono (by decide)) hgd (by rfl) (pad_cons (pd_var 1 (pv 1)) (pad_cons (pd_lst (pad_cons (pd_tup pad_nil) (pad_cons (pd_sub hr.u1 (p2_ne 3 (pv 3) pd_int) (fun _ _ => rfl) (fun _ _ => rfl)) (pad_cons (pd_sub hr.u1 (p2_ne 3 (pv 3) pd_int) (fun _ _ => rfl) (fun _ _ => rfl)) pad_nil)))) pad_nil))) pad_nil)))) (pgd_name hN (i := 5) rfl (.inl rfl)) (pss_oneD (ps_ifD (ptd_not (pt_tru (p1_e (pd_cd c__law_are_alike_right hT (hr.mono (by decide)) hgd (by rfl) (pad_cons (pd_var 1 (pv 1)) (pad_cons (pd_var 3 (pv 3)) (pad_cons (pd_var 5 (pv 5)) pad_nil))))))) (pss_oneD (ps_retD pd_bl)) pss_nilD)))))))) (pss_oneD (ps_retD pd_bl)))
abbrev s__law_feed : Stmt := topS 37
theorem sc__law_feed : FnScope ["_law_script", "_law_cell"] ["_law_script"] (defScope s__law_feed) := ⟨rfl, rfl, rfl, by decide +kernel, rfl, by decide +kernel, by decide +kernel⟩
theorem ok__law_feed {P : Program} {w : World} {K : PySem.W.Frag} {mg : Str → Option Value} {base : Heap} {f : Addr} {fd : FuncData} (F : Fun K "_law_feed" "_law_feed" s__law_feed f fd) (m_int : mg "int" = none) :
    FnOk P w K mg base CX0 1 f fd ["_law_script"] (spFeed K) := by
  have nd := sc__law_feed.nd
  refine F.ok sc__law_feed (fun vs H Q E h => ?_) (fun cdv A outer s H vs Q E hr h => ⟨_, PSs.nox (pss_one (ps_ret (pe_disp (pps_cons pe_str (pe_lc (own := [("_law_cell", 1)]) (g := gName 1) (tt := tYes) rfl nd (pi_list (pe_slice sl_list (pv 0) po_none (po_some pe_int)))
    (blkOk_by (by kernel_rfl)) (fun _ _ _ _ _ => pg_name (i := 1) nd rfl (Or.inl rfl)) (fun _ _ _ _ _ => pts_nil) (fun _ _ _ _ _ => pe_callTy call_int1 (by rfl) m_int boot_int (pa_cons (pv 1) pa_nil)))
    (pps_cons pe_str pe_int (pps_cons pe_str pe_int (pps_cons pe_str pe_int pps_nil)))) (by rfl) (by rfl) (fun z => by cases z) (by decide)))), ?_⟩)
  · obtain ⟨a, ns, rfl, _⟩ := h
    rfl
  · obtain ⟨a, ns, rfl, hS, hl, hQ⟩ := h
    intro p np
    have S1 : Same H (upd H p (.dK [])) := same_upd' np
    refine ⟨_, rfl, 63, rfl, a, _, rfl, S1.seq hS, fun q nq => ?_⟩
    have hcut : cutV (ns.map V.int) none (some 63) = ns.map V.int := by
      unfold cutV
      rw [HT.sIx_none]
      show ((ns.map V.int).drop 0).take (HT.sIx (ns.map V.int).length (ns.map V.int).length (some ((63 : Nat) : Int)) - 0) = _
      rw [HT.sIx_nat, List.drop_zero, Nat.sub_zero, List.take_of_length_le]
      rw [List.length_map]
      omega
    rw [hcut]
    have hqp : q ≠ p := fun z => by
      rw [z, upd_same] at nq
      cases nq
    refine ⟨q, rfl, ⟨_, .inl (.inl (upd_same ..))⟩, fun D nD => ?_⟩
    have hDq : D ≠ q := fun z => by
      rw [z, upd_same] at nD
      cases nD
    have hDp : D ≠ p := fun z => by
      rw [z, upd_ne (fun y => hqp y.symm), upd_same] at nD
      cases nD
    have nq' : upd H p (.dK []) q = none := nq
    have hD0 : H D = none := by
      rw [upd_ne hDq, upd_ne hDp] at nD
      exact nD
    have S2 : Same H (upd (upd (upd H p (.dK [])) q (.lst (ns.map V.int))) D (.lst [])) := (S1.trans (same_upd' nq)).trans (same_upd' nD)
    have N2 : NoN H (upd (upd (upd H p (.dK [])) q (.lst (ns.map V.int))) D (.lst [])) := NoN.put (NoN.put (NoN.put (fun _ _ e => e) rfl) rfl) rfl
    refine lc_list (K := K) (a := q) (xs := ns.map V.int) (fun i H' => (Same H H' ∧ NoN H H') ∧ H' p = some (.dK []) ∧ H' q = some (.lst (ns.map V.int)) ∧ H' D = some (.lst ((ns.take i).map V.int)))
      ⟨⟨S2, N2⟩, by rw [upd_ne (fun y => hDp y.symm), upd_ne (fun y => hqp y.symm), upd_same], by rw [upd_ne (fun y => hDq y.symm), upd_same], by rw [upd_same]; rfl⟩ (fun i H' _ h => .inl (.inl h.2.2.1)) (fun i x H' hx h => ?_) (fun H' h => ?_)
    · obtain ⟨⟨h1, hN⟩, h2, h3, h4⟩ := h
      rw [List.getElem?_map] at hx
      cases e : ns[i]? with
      | none => rw [e] at hx; cases hx
      | some k =>
        rw [e] at hx
        cases hx
        refine ⟨rfl, ?_⟩
        simp only [tYes, if_true]
        refine ⟨.int k, rfl, .inl ⟨k, rfl, _, h4, ?_, ⟨fun b o hb => ?_, hN.put rfl⟩, ?_, ?_, ?_⟩⟩
        · rw [List.length_map, List.length_take, sizeLine_eq]
          omega
        · rw [upd_ne (fun z => by
            rw [z, hD0] at hb
            cases hb)]
          exact h1 b o hb
        · rw [upd_ne (fun y => hDp y.symm)]
          exact h2
        · rw [upd_ne (fun y => hDq y.symm)]
          exact h3
        · rw [upd_same, List.take_add_one, e]
          simp
    · obtain ⟨⟨h1, hN⟩, h2, h3, h4⟩ := h
      rw [List.length_map, List.take_length] at h4
      refine ⟨h2, [(kCells, .ref D), (kSpot, .int 0), (kRest, .int 0), (kTurn, .int 0)], rfl, by simp, hQ p D _ (fun b o hb => ?_) (hN.put rfl) ?_ ?_ hDp⟩
      · rw [upd_ne (fun z => by
          rw [z, np] at hb
          cases hb)]
        exact h1 b o hb
      · rw [upd_same]
        rfl
      · rw [upd_ne hDp]
        exact h4
/-- the law, from what its defs do and from what its body comes to -/
theorem ok_law {P : Program} {w : World} {K : PySem.W.Frag} {mg : Str → Option Value} {base : Heap} {tb : Addr → Prop} {f fF : Addr} {fd fdF : FuncData} (F : Fun K "law" "law" s_law f fd) (FF : Fun K "_law_feed" "_law_feed" s__law_feed fF fdF) (gF : mg "_law_feed" = some (.ref fF)) (mi : mg "int" = none) (m_range : mg "range" = none) (m_tuple : mg "tuple" = none) (c__law_any : Cd P w K mg base tb 2 "_law_any" ["_law_feed_here", "_law_some"] [] D__law_any) (c__law_are_alike_right : Cd P w K mg base tb 10 "_law_are_alike_right" ["_law_feed_here", "_law_box_here", "_law_some"] [] D__law_are_alike_right) (c__law_are_rows_right : Cd P w K mg base tb 9 "_law_are_rows_right" ["_law_box_here"] [] D__law_are_rows_right) (c__law_box : Cd P w K mg base tb 4 "_law_box" ["_law_feed_here"] [] D__law_box) (c__law_draw : Cd P w K mg base tb 1 "_law_draw" ["_law_feed_here", "_law_size"] [] D__law_draw)
    (run : ∀ fs : FS, ∃ s', B_law ⟨none :: some .fd :: List.replicate 5 none, fs⟩ = some (.rt (.val (.bool true)) s')) : FnG P w K mg base 11 f fd ["_law_script"] (spLaw K tb) := by
  obtain ⟨oc, od, kV, doc, pm, an, cdv, ct, osl, rfl, lk, hcd⟩ := F.ex
  refine fnG_of lk hcd sc_law fun A outer s H hr hgd => ?_
  have GF := ok__law_feed (P := P) (w := w) (mg := mg) (base := base) FF mi
  have bF : Binds K fdF ["_law_script"] [] := FF.binds fun _ _ _ _ _ _ us hl => match us, hl with | [_], _ => rfl
  obtain ⟨t, ht, hk⟩ := pss_data (tb := tb) fun Γ hT => body_law m_range m_tuple c__law_any c__law_are_alike_right c__law_are_rows_right c__law_box c__law_draw cdv A outer s H hr hgd Γ hT
  refine ⟨_, pss_cons (ps_set (i := 1) sc_law.nd rfl (.inr rfl) (pe_call GF (hr.mono (by decide)) (by rfl) gF FF.kp bF .nil pass0 (pa_cons (pv 0) pa_nil))) ht, ?_⟩
  intro vs Q h
  obtain ⟨a, ns, rfl, hS, hl, tok, tbt, hQ⟩ := h
  refine ⟨_, rfl, a, ns, rfl, hS, hl, fun fa c H' h1 h1t h2 h3 h4 => ?_⟩
  obtain ⟨s', e⟩ := run ⟨ns, 0, 0, 0⟩
  have tok' : TOk H' := fun b ps e => tok b ps (h1t b ps e)
  have tbt' : TbAt tb H' := fun P z => by
    obtain ⟨ps, e⟩ := tbt P z
    exact ⟨ps, h1 _ _ e⟩
  refine hk _ H' _ ⟨fa, H', _⟩ _ _ _ tbt' (sta_feed 5 tok' h2 h3 h4 rfl rfl) e fun v σ' H'' G' S g q => ?_
  have q := q.rp
  cases q
  exact hQ H''

end Q6

set_option Elab.async false
set_option linter.all false
set_option maxRecDepth 100000
set_option maxHeartbeats 0
/-! the head: what the top leaves, by names. -/
namespace Q6
open PySem PySem.Spec PyProof.Rows L2 PD
def d_at_is_integer : He.DefD := ⟨("is_integer", none), "is_integer", "is_integer", defArgs (topS 2), defBody (topS 2), defScope (topS 2), [], []⟩
def d_at_is_number : He.DefD := ⟨("is_number", none), "is_number", "is_number", defArgs (topS 3), defBody (topS 3), defScope (topS 3), [], []⟩
def d_at_is_name : He.DefD := ⟨("is_name", none), "is_name", "is_name", defArgs (topS 4), defBody (topS 4), defScope (topS 4), [], []⟩
def d_at_is_tuple : He.DefD := ⟨("is_tuple", none), "is_tuple", "is_tuple", defArgs (topS 5), defBody (topS 5), defScope (topS 5), [], []⟩
def d_at_ascends : He.DefD := ⟨("ascends", none), "ascends", "ascends", defArgs (topS 6), defBody (topS 6), defScope (topS 6), [], []⟩
def d_at_are_names : He.DefD := ⟨("are_names", none), "are_names", "are_names", defArgs (topS 7), defBody (topS 7), defScope (topS 7), [], []⟩
def d_at_is_set_of : He.DefD := ⟨("is_set_of", none), "is_set_of", "is_set_of", defArgs (topS 8), defBody (topS 8), defScope (topS 8), [], []⟩
def d_at_is_machine : He.DefD := ⟨("is_machine", none), "is_machine", "is_machine", defArgs (topS 9), defBody (topS 9), defScope (topS 9), [], []⟩
def d_at_machine_fault : He.DefD := ⟨("machine_fault", none), "machine_fault", "machine_fault", defArgs (topS 10), defBody (topS 10), defScope (topS 10), [], []⟩
def d_at_are_numbers : He.DefD := ⟨("are_numbers", none), "are_numbers", "are_numbers", defArgs (topS 11), defBody (topS 11), defScope (topS 11), [], []⟩
def d_at_is_index : He.DefD := ⟨("is_index", none), "is_index", "is_index", defArgs (topS 12), defBody (topS 12), defScope (topS 12), [], []⟩
def d_at_is_state : He.DefD := ⟨("is_state", none), "is_state", "is_state", defArgs (topS 13), defBody (topS 13), defScope (topS 13), [], []⟩
def d_at_need : He.DefD := ⟨("need", none), "need", "need", defArgs (topS 19), defBody (topS 19), defScope (topS 19), [], []⟩
def d_at_need_machine : He.DefD := ⟨("need_machine", none), "need_machine", "need_machine", defArgs (topS 20), defBody (topS 20), defScope (topS 20), [], []⟩
def d_at_need_state : He.DefD := ⟨("need_state", none), "need_state", "need_state", defArgs (topS 21), defBody (topS 21), defScope (topS 21), [], []⟩
def d_at_need_looks : He.DefD := ⟨("need_looks", none), "need_looks", "need_looks", defArgs (topS 22), defBody (topS 22), defScope (topS 22), [], []⟩
def d_at_need_two_states : He.DefD := ⟨("need_two_states", none), "need_two_states", "need_two_states", defArgs (topS 23), defBody (topS 23), defScope (topS 23), [], []⟩
def d_at_reachable_states : He.DefD := ⟨("reachable_states", none), "reachable_states", "reachable_states", defArgs (topS 25), defBody (topS 25), defScope (topS 25), [], []⟩
def d_at_row_to : He.DefD := ⟨("row_to", none), "row_to", "row_to", defArgs (topS 26), defBody (topS 26), defScope (topS 26), [], []⟩
def d_at_least_rows : He.DefD := ⟨("least_rows", none), "least_rows", "least_rows", defArgs (topS 27), defBody (topS 27), defScope (topS 27), [], []⟩
def d_at_alike_classes : He.DefD := ⟨("alike_classes", none), "alike_classes", "alike_classes", defArgs (topS 29), defBody (topS 29), defScope (topS 29), [], []⟩
def d_at_are_alike : He.DefD := ⟨("are_alike", none), "are_alike", "are_alike", defArgs (topS 30), defBody (topS 30), defScope (topS 30), [], []⟩
def d_at_parting_row : He.DefD := ⟨("parting_row", none), "parting_row", "parting_row", defArgs (topS 31), defBody (topS 31), defScope (topS 31), [], []⟩
def d_at_answers_to : He.DefD := ⟨("answers_to", none), "answers_to", "answers_to", defArgs (topS 32), defBody (topS 32), defScope (topS 32), [], []⟩
def d_at_least_with : He.DefD := ⟨("least_with", none), "least_with", "least_with", defArgs (topS 33), defBody (topS 33), defScope (topS 33), [], []⟩
def d_at_classes_by : He.DefD := ⟨("classes_by", none), "classes_by", "classes_by", defArgs (topS 34), defBody (topS 34), defScope (topS 34), [], []⟩
def d_at_least_parting : He.DefD := ⟨("least_parting", none), "least_parting", "least_parting", defArgs (topS 35), defBody (topS 35), defScope (topS 35), [], []⟩
def d_at__law_feed : He.DefD := ⟨("_law_feed", none), "_law_feed", "_law_feed", defArgs (topS 37), defBody (topS 37), defScope (topS 37), [], []⟩
def d_at__law_draw : He.DefD := ⟨("_law_draw", none), "_law_draw", "_law_draw", defArgs (topS 38), defBody (topS 38), defScope (topS 38), [], []⟩
def d_at__law_any : He.DefD := ⟨("_law_any", none), "_law_any", "_law_any", defArgs (topS 39), defBody (topS 39), defScope (topS 39), [], []⟩
def d_at__law_same : He.DefD := ⟨("_law_same", none), "_law_same", "_law_same", defArgs (topS 40), defBody (topS 40), defScope (topS 40), [], []⟩
def d_at__law_name : He.DefD := ⟨("_law_name", none), "_law_name", "_law_name", defArgs (topS 41), defBody (topS 41), defScope (topS 41), [], []⟩
def d_at__law_names : He.DefD := ⟨("_law_names", none), "_law_names", "_law_names", defArgs (topS 42), defBody (topS 42), defScope (topS 42), [], []⟩
def d_at__law_shape : He.DefD := ⟨("_law_shape", none), "_law_shape", "_law_shape", defArgs (topS 43), defBody (topS 43), defScope (topS 43), [], []⟩
def d_at__law_seen : He.DefD := ⟨("_law_seen", none), "_law_seen", "_law_seen", defArgs (topS 44), defBody (topS 44), defScope (topS 44), [], []⟩
def d_at__law_box : He.DefD := ⟨("_law_box", none), "_law_box", "_law_box", defArgs (topS 45), defBody (topS 45), defScope (topS 45), [], []⟩
def d_at__law_late : He.DefD := ⟨("_law_late", none), "_law_late", "_law_late", defArgs (topS 46), defBody (topS 46), defScope (topS 46), [], []⟩
def d_at__law_rows : He.DefD := ⟨("_law_rows", none), "_law_rows", "_law_rows", defArgs (topS 47), defBody (topS 47), defScope (topS 47), [], []⟩
def d_at__law_parted : He.DefD := ⟨("_law_parted", none), "_law_parted", "_law_parted", defArgs (topS 48), defBody (topS 48), defScope (topS 48), [], []⟩
def d_at__law_are_rows_right : He.DefD := ⟨("_law_are_rows_right", none), "_law_are_rows_right", "_law_are_rows_right", defArgs (topS 49), defBody (topS 49), defScope (topS 49), [], []⟩
def d_at__law_are_alike_right : He.DefD := ⟨("_law_are_alike_right", none), "_law_are_alike_right", "_law_are_alike_right", defArgs (topS 50), defBody (topS 50), defScope (topS 50), [], []⟩
def d_at_law : He.DefD := ⟨("law", none), "law", "law", defArgs (topS 51), defBody (topS 51), defScope (topS 51), [], []⟩
def fnL : List He.DefD := [d_at_is_integer, d_at_is_number, d_at_is_name, d_at_is_tuple, d_at_ascends, d_at_are_names, d_at_is_set_of, d_at_is_machine, d_at_machine_fault, d_at_are_numbers, d_at_is_index, d_at_is_state, d_at_need, d_at_need_machine, d_at_need_state, d_at_need_looks, d_at_need_two_states, d_at_reachable_states, d_at_row_to, d_at_least_rows, d_at_alike_classes, d_at_are_alike, d_at_parting_row, d_at_answers_to, d_at_least_with, d_at_classes_by, d_at_least_parting, d_at__law_feed, d_at__law_draw, d_at__law_any]
def fnM : List He.DefD := [d_at__law_same, d_at__law_name, d_at__law_names, d_at__law_shape, d_at__law_seen, d_at__law_box, d_at__law_late, d_at__law_rows, d_at__law_parted, d_at__law_are_rows_right, d_at__law_are_alike_right, d_at_law]
def fa0 : List He.Fa := [.glo "is_integer", .glo "is_number", .glo "is_name", .glo "is_tuple", .glo "ascends", .glo "are_names", .glo "is_set_of", .glo "is_machine", .glo "machine_fault", .glo "are_numbers", .glo "is_index", .glo "is_state", .glo "need", .glo "need_machine", .glo "need_state", .glo "need_looks", .glo "need_two_states", .glo "reachable_states", .glo "row_to", .glo "least_rows", .glo "alike_classes", .glo "are_alike", .glo "parting_row", .glo "answers_to", .glo "least_with", .glo "classes_by", .glo "least_parting", .glo "_law_feed", .glo "_law_draw", .glo "_law_any"]
def fa1 : List He.Fa := [.glo "_law_same", .glo "_law_name", .glo "_law_names", .glo "_law_shape", .glo "_law_seen", .glo "_law_box", .glo "_law_late", .glo "_law_rows", .glo "_law_parted", .glo "_law_are_rows_right", .glo "_law_are_alike_right", .glo "law", .free "all", .free "bool", .free "enumerate", .free "int", .free "isinstance", .free "len", .free "list", .free "max", .free "min", .free "range", .free "repr", .free "sorted", .free "str", .free "tuple", .free "zip", .str "LOWERCASE" "abcdefghijklmnopqrstuvwxyz"]
def faL : List He.Fa := fa0 ++ fa1
def fnA : List He.DefD := fnL ++ fnM
def tfL : List He.Defn := [("answers_to", none), ("least_with", none)]
def lo0 : List PySem.Str := ["LOWERCASE", "CopyError", "BookError", "NotUsable", "is_integer", "is_number", "is_name", "is_tuple", "ascends", "are_names", "is_set_of", "is_machine", "machine_fault", "are_numbers", "is_index", "is_state", "need", "need_machine", "need_state", "need_looks", "need_two_states", "reachable_states", "row_to", "least_rows", "alike_classes", "are_alike", "parting_row", "answers_to", "least_with", "classes_by"]
def lo1 : List PySem.Str := ["least_parting", "_law_feed", "_law_draw", "_law_any", "_law_same", "_law_name", "_law_names", "_law_shape", "_law_seen", "_law_box", "_law_late", "_law_rows", "_law_parted", "_law_are_rows_right", "_law_are_alike_right"]
def loL : List PySem.Str := lo0 ++ lo1
abbrev RR : PySem.W.OpenRow := PySem.W.OpenLaw.row PySem.Challenge.rw_actasone_k06_whole_rows_and_alike_states
abbrev hk : PySem.W.Hook := He.hookX 4 faL fnA [] tfL fun _ => true
def ob (s : PySem.W.SharedT) : He.AlX := He.obsX 4 faL fnA [] tfL (fun _ => true) (HandSHeadRun.getT s)
theorem ob_eq (s : PySem.W.SharedT) : ob s = hk.obs s.abs := He.obsX_eq (HandSHeadRun.getT_eq s)
theorem run (w : World) : HandSHeadRun.RunEq RR (PySem.W.view RR.prog [51]) hk ob 4000 loL w := by
  intro os
  kernel_rfl
/-- where the tables stand -/
def tbs (K : PySem.W.Frag) : Addr → Prop := fun P => ∃ p ∈ tfL, P = (He.cT K p).2
end Q6

set_option Elab.async false
set_option linter.all false
set_option maxRecDepth 100000
set_option maxHeartbeats 1000000
namespace Q6
open PySem PySem.Spec PyProof.Rows L2 PD

variable [TheW]
abbrev s_is_integer : Stmt := topS 2
theorem sc_is_integer : FnScope ["thing"] ["thing"] (defScope s_is_integer) := ⟨rfl, rfl, rfl, by decide +kernel, rfl, by decide +kernel, by decide +kernel⟩
theorem ok_is_integer {P : Program} {w : World} {K : PySem.W.Frag} {mg : Str → Option Value} {base : Heap} {tb : Addr → Prop} {f : Addr} {fd : FuncData} (F : Fun K "is_integer" "is_integer" s_is_integer f fd) (hm : mg "is_integer" = some (.ref f)) (m_bool : mg "bool" = none) (m_int : mg "int" = none) (m_isinstance : mg "isinstance" = none) :
    Cd P w K mg base tb 1 "is_integer" ["thing"] [] D_is_integer := by
  refine Cd.ofC (k := 0) (N := ["thing"]) (bf := B_is_integer) F hm sc_is_integer (fun _ _ _ _ _ _ us hl => match us, hl with | [_], _ => rfl) (fun _ hq => nomatch hq) (fun cdv A outer s H hcd hr hgd Γ hT => ?_)
  have hN := sc_is_integer.nd
  exact (pss_oneD (ps_retD (pd_and (pd_isi (T := "int") (by simp) (p1_n 0 (pv 0)) (by rfl) m_isinstance (by rfl) m_int (by decide +kernel)) (pd_one (pd_not (pd_isi (T := "bool") (by simp) (p1_n 0 (pv 0)) (by rfl) m_isinstance (by rfl) m_bool (by decide +kernel)))))))
abbrev s_is_number : Stmt := topS 3
theorem sc_is_number : FnScope ["thing"] ["thing"] (defScope s_is_number) := ⟨rfl, rfl, rfl, by decide +kernel, rfl, by decide +kernel, by decide +kernel⟩
theorem ok_is_number {P : Program} {w : World} {K : PySem.W.Frag} {mg : Str → Option Value} {base : Heap} {tb : Addr → Prop} {f : Addr} {fd : FuncData} (F : Fun K "is_number" "is_number" s_is_number f fd) (hm : mg "is_number" = some (.ref f)) (c_is_integer : Cd P w K mg base tb 1 "is_integer" ["thing"] [] D_is_integer) :
    Cd P w K mg base tb 2 "is_number" ["thing"] [] D_is_number := by
  refine Cd.ofC (k := 1) (N := ["thing"]) (bf := B_is_number) F hm sc_is_number (fun _ _ _ _ _ _ us hl => match us, hl with | [_], _ => rfl) (fun _ hq => nomatch hq) (fun cdv A outer s H hcd hr hgd Γ hT => ?_)
  have hN := sc_is_number.nd
  exact (pss_oneD (ps_retD (pd_and (pd_cd c_is_integer hT (hr.mono (by decide)) hgd (by rfl) (pad_cons (pd_var 0 (pv 0)) pad_nil)) (pd_one (c_ge (p2_ne 0 (pv 0) pd_int)).v))))
abbrev s_is_name : Stmt := topS 4
theorem sc_is_name : FnScope ["thing", "letter"] ["thing"] (defScope s_is_name) := ⟨rfl, rfl, rfl, by decide +kernel, rfl, by decide +kernel, by decide +kernel⟩
theorem ok_is_name {P : Program} {w : World} {K : PySem.W.Frag} {mg : Str → Option Value} {base : Heap} {tb : Addr → Prop} {f : Addr} {fd : FuncData} (F : Fun K "is_name" "is_name" s_is_name f fd) (hm : mg "is_name" = some (.ref f)) (m_all : mg "all" = none) (m_isinstance : mg "isinstance" = none) (m_len : mg "len" = none) (m_str : mg "str" = none) {t_LOWERCASE : Tok} (g_LOWERCASE : mg "LOWERCASE" = some (.str "abcdefghijklmnopqrstuvwxyz" t_LOWERCASE)) :
    Cd P w K mg base tb 1 "is_name" ["thing"] [] D_is_name := by
  refine Cd.ofC (k := 0) (N := ["thing", "letter"]) (bf := B_is_name) F hm sc_is_name (fun _ _ _ _ _ _ us hl => match us, hl with | [_], _ => rfl) (fun _ hq => nomatch hq) (fun cdv A outer s H hcd hr hgd Γ hT => ?_)
  have hN := sc_is_name.nd
  exact (pss_consD (ps_ifD ((pwd_or (ptd_not (pt_tru (p1_e (pd_isi (T := "str") (by simp) (p1_n 0 (pv 0)) (by rfl) m_isinstance (by rfl) m_str (by decide +kernel))))) (pwd_or (c_eq hr.u64 (p2_ne 0 (pv 0) pd_str)).t (pw_one (ptd_not (ptd_chain op_le op_le pd_int (pd_len (p1_n 0 (pv 0)) (by rfl) m_len) pd_int)))))).pt (pss_oneD (ps_retD pd_bl)) pss_nilD) (pss_oneD (ps_retD (pd_all rfl (p1_e (pd_lc rfl hN (own := [("letter", 1)]) (pid_str (pd_var 0 (pv 0))) (blkOk_by (by kernel_rfl)) (fun _ _ _ _ _ => (pgd_name hN (i := 1) rfl (.inl rfl))) (fun _ _ _ _ _ => ptsd_nil) (fun _ _ _ _ _ => (c_in hr.u65 (p2_ne 1 (pv 1) (pd_glob (by rfl) g_LOWERCASE ⟨_, rfl⟩))).v))) (by rfl) m_all))))
abbrev s_is_tuple : Stmt := topS 5
theorem sc_is_tuple : FnScope ["thing", "many"] ["thing", "many"] (defScope s_is_tuple) := ⟨rfl, rfl, rfl, by decide +kernel, rfl, by decide +kernel, by decide +kernel⟩
theorem ok_is_tuple {P : Program} {w : World} {K : PySem.W.Frag} {mg : Str → Option Value} {base : Heap} {tb : Addr → Prop} {f : Addr} {fd : FuncData} (F : Fun K "is_tuple" "is_tuple" s_is_tuple f fd) (hm : mg "is_tuple" = some (.ref f)) (m_isinstance : mg "isinstance" = none) (m_len : mg "len" = none) (m_tuple : mg "tuple" = none) :
    Cd P w K mg base tb 1 "is_tuple" ["thing", "many"] [] D_is_tuple := by
  refine Cd.ofC (k := 0) (N := ["thing", "many"]) (bf := B_is_tuple) F hm sc_is_tuple (fun _ _ _ _ _ _ us hl => match us, hl with | [_, _], _ => rfl) (fun _ hq => nomatch hq) (fun cdv A outer s H hcd hr hgd Γ hT => ?_)
  have hN := sc_is_tuple.nd
  exact (pss_oneD (ps_retD (pd_and (pd_isi (T := "tuple") (by simp) (p1_n 0 (pv 0)) (by rfl) m_isinstance (by rfl) m_tuple (by decide +kernel)) (pd_one (c_eq hr.u64 (p2_en 1 (pd_len (p1_n 0 (pv 0)) (by rfl) m_len) (pv 1))).v))))
abbrev s_ascends : Stmt := topS 6
theorem sc_ascends : FnScope ["things", "low", "high"] ["things"] (defScope s_ascends) := ⟨rfl, rfl, rfl, by decide +kernel, rfl, by decide +kernel, by decide +kernel⟩
theorem ok_ascends {P : Program} {w : World} {K : PySem.W.Frag} {mg : Str → Option Value} {base : Heap} {tb : Addr → Prop} {f : Addr} {fd : FuncData} (F : Fun K "ascends" "ascends" s_ascends f fd) (hm : mg "ascends" = some (.ref f)) (m_all : mg "all" = none) (m_zip : mg "zip" = none) :
    Cd P w K mg base tb 1 "ascends" ["things"] [] D_ascends := by
  refine Cd.ofC (k := 0) (N := ["things", "low", "high"]) (bf := B_ascends) F hm sc_ascends (fun _ _ _ _ _ _ us hl => match us, hl with | [_], _ => rfl) (fun _ hq => nomatch hq) (fun cdv A outer s H hcd hr hgd Γ hT => ?_)
  have hN := sc_ascends.nd
  exact (pss_oneD (ps_retD (pd_all rfl (p1_e (pd_lc rfl hN (own := [("low", 1), ("high", 2)]) (pid_zip (pd_var 0 (pv 0)) (pd_cutN 0 (pv 0) (pod_some pd_int) pod_none) (by rfl) m_zip) (blkOk_by (by kernel_rfl)) (fun _ _ _ _ _ => (pgd_tup rfl (pgs_consD (pgd_name hN (i := 1) rfl (.inl rfl)) (pgs_consD (pgd_name hN (i := 2) rfl (.inl rfl)) pgs_nilD)) rfl)) (fun _ _ _ _ _ => ptsd_nil) (fun _ _ _ _ _ => (c_lt (p2_nn 1 2 (pv 1) (pv 2))).v))) (by rfl) m_all)))
abbrev s_are_names : Stmt := topS 7
theorem sc_are_names : FnScope ["thing", "least", "name"] ["thing", "least"] (defScope s_are_names) := ⟨rfl, rfl, rfl, by decide +kernel, rfl, by decide +kernel, by decide +kernel⟩
theorem ok_are_names {P : Program} {w : World} {K : PySem.W.Frag} {mg : Str → Option Value} {base : Heap} {tb : Addr → Prop} {f : Addr} {fd : FuncData} (F : Fun K "are_names" "are_names" s_are_names f fd) (hm : mg "are_names" = some (.ref f)) (m_all : mg "all" = none) (m_isinstance : mg "isinstance" = none) (m_len : mg "len" = none) (m_tuple : mg "tuple" = none) (c_ascends : Cd P w K mg base tb 1 "ascends" ["things"] [] D_ascends) (c_is_name : Cd P w K mg base tb 1 "is_name" ["thing"] [] D_is_name) :
    Cd P w K mg base tb 2 "are_names" ["thing", "least"] [] D_are_names := by
  refine Cd.ofC (k := 1) (N := ["thing", "least", "name"]) (bf := B_are_names) F hm sc_are_names (fun _ _ _ _ _ _ us hl => match us, hl with | [_, _], _ => rfl) (fun _ hq => nomatch hq) (fun cdv A outer s H hcd hr hgd Γ hT => ?_)
  have hN := sc_are_names.nd
  exact (pss_consD (ps_ifD ((pwd_or (ptd_not (pt_tru (p1_e (pd_isi (T := "tuple") (by simp) (p1_n 0 (pv 0)) (by rfl) m_isinstance (by rfl) m_tuple (by decide +kernel))))) (pw_one (c_lt (p2_en 1 (pd_len (p1_n 0 (pv 0)) (by rfl) m_len) (pv 1))).t))).pt (pss_oneD (ps_retD pd_bl)) pss_nilD) (pss_oneD (ps_retD (pd_and (pd_all rfl (p1_e (pd_lc rfl hN (own := [("name", 2)]) (pid_val (pd_var 0 (pv 0))) (blkOk_by (by kernel_rfl)) (fun _ _ _ _ _ => (pgd_name hN (i := 2) rfl (.inl rfl))) (fun _ _ _ _ _ => ptsd_nil) (fun _ _ _ _ _ => (pd_cd c_is_name hT (hr.mono (by decide)) hgd (by rfl) (pad_cons (pd_var 2 (pv 2)) pad_nil))))) (by rfl) m_all) (pd_one (pd_cd c_ascends hT (hr.mono (by decide)) hgd (by rfl) (pad_cons (pd_var 0 (pv 0)) pad_nil)))))))
abbrev s_is_set_of : Stmt := topS 8
theorem sc_is_set_of : FnScope ["thing", "names", "name"] ["thing", "names"] (defScope s_is_set_of) := ⟨rfl, rfl, rfl, by decide +kernel, rfl, by decide +kernel, by decide +kernel⟩
theorem ok_is_set_of {P : Program} {w : World} {K : PySem.W.Frag} {mg : Str → Option Value} {base : Heap} {tb : Addr → Prop} {f : Addr} {fd : FuncData} (F : Fun K "is_set_of" "is_set_of" s_is_set_of f fd) (hm : mg "is_set_of" = some (.ref f)) (m_all : mg "all" = none) (m_isinstance : mg "isinstance" = none) (m_tuple : mg "tuple" = none) (c_ascends : Cd P w K mg base tb 1 "ascends" ["things"] [] D_ascends) :
    Cd P w K mg base tb 2 "is_set_of" ["thing", "names"] [] D_is_set_of := by
  refine Cd.ofC (k := 1) (N := ["thing", "names", "name"]) (bf := B_is_set_of) F hm sc_is_set_of (fun _ _ _ _ _ _ us hl => match us, hl with | [_, _], _ => rfl) (fun _ hq => nomatch hq) (fun cdv A outer s H hcd hr hgd Γ hT => ?_)
  have hN := sc_is_set_of.nd
  exact (pss_oneD (ps_retD (pd_and (pd_isi (T := "tuple") (by simp) (p1_n 0 (pv 0)) (by rfl) m_isinstance (by rfl) m_tuple (by decide +kernel)) (pd_and (pd_all rfl (p1_e (pd_lc rfl hN (own := [("name", 2)]) (pid_val (pd_var 0 (pv 0))) (blkOk_by (by kernel_rfl)) (fun _ _ _ _ _ => (pgd_name hN (i := 2) rfl (.inl rfl))) (fun _ _ _ _ _ => ptsd_nil) (fun _ _ _ _ _ => (c_in hr.u65 (p2_nn 2 1 (pv 2) (pv 1))).v))) (by rfl) m_all) (pd_one (pd_cd c_ascends hT (hr.mono (by decide)) hgd (by rfl) (pad_cons (pd_var 0 (pv 0)) pad_nil)))))))
abbrev s_is_machine : Stmt := topS 9
theorem sc_is_machine : FnScope ["thing"] ["thing"] (defScope s_is_machine) := ⟨rfl, rfl, rfl, by decide +kernel, rfl, by decide +kernel, by decide +kernel⟩
theorem ok_is_machine {P : Program} {w : World} {K : PySem.W.Frag} {mg : Str → Option Value} {base : Heap} {tb : Addr → Prop} {f : Addr} {fd : FuncData} (F : Fun K "is_machine" "is_machine" s_is_machine f fd) (hm : mg "is_machine" = some (.ref f)) (c_machine_fault : Cd P w K mg base tb 4 "machine_fault" ["thing"] [] D_machine_fault) :
    Cd P w K mg base tb 5 "is_machine" ["thing"] [] D_is_machine := by
  refine Cd.ofC (k := 4) (N := ["thing"]) (bf := B_is_machine) F hm sc_is_machine (fun _ _ _ _ _ _ us hl => match us, hl with | [_], _ => rfl) (fun _ hq => nomatch hq) (fun cdv A outer s H hcd hr hgd Γ hT => ?_)
  have hN := sc_is_machine.nd
  exact (pss_oneD (ps_retD (c_isN (p1_e (pd_cd c_machine_fault hT (hr.mono (by decide)) hgd (by rfl) (pad_cons (pd_var 0 (pv 0)) pad_nil)))).v))
abbrev s_machine_fault : Stmt := topS 10
theorem sc_machine_fault : FnScope ["thing", "letters", "looks", "moves", "answers", "state", "row"] ["thing"] (defScope s_machine_fault) := ⟨rfl, rfl, rfl, by decide +kernel, rfl, by decide +kernel, by decide +kernel⟩
theorem ok_machine_fault {P : Program} {w : World} {K : PySem.W.Frag} {mg : Str → Option Value} {base : Heap} {tb : Addr → Prop} {f : Addr} {fd : FuncData} (F : Fun K "machine_fault" "machine_fault" s_machine_fault f fd) (hm : mg "machine_fault" = some (.ref f)) (m_enumerate : mg "enumerate" = none) (m_isinstance : mg "isinstance" = none) (m_len : mg "len" = none) (m_max : mg "max" = none) (m_tuple : mg "tuple" = none) (c_are_names : Cd P w K mg base tb 2 "are_names" ["thing", "least"] [] D_are_names) (c_are_numbers : Cd P w K mg base tb 3 "are_numbers" ["thing", "many"] [] D_are_numbers) (c_is_tuple : Cd P w K mg base tb 1 "is_tuple" ["thing", "many"] [] D_is_tuple) :
    Cd P w K mg base tb 4 "machine_fault" ["thing"] [] D_machine_fault := by
  refine Cd.ofC (k := 3) (N := ["thing", "letters", "looks", "moves", "answers", "state", "row"]) (bf := B_machine_fault) F hm sc_machine_fault (fun _ _ _ _ _ _ us hl => match us, hl with | [_], _ => rfl) (fun _ hq => nomatch hq) (fun cdv A outer s H hcd hr hgd Γ hT => ?_)
  have hN := sc_machine_fault.nd
  exact (pss_consD (ps_ifD (ptd_not (pt_tru (p1_e (pd_cd c_is_tuple hT (hr.mono (by decide)) hgd (by rfl) (pad_cons (pd_var 0 (pv 0)) (pad_cons pd_int pad_nil)))))) (pss_oneD (ps_retD (pd_tup (pad_cons pd_str (pad_cons (pd_neg pd_int) pad_nil))))) pss_nilD) (pss_consD (ps_asgD (pd_var 0 (pv 0)) (pgd_tup rfl (pgs_consD (pgd_name hN (i := 1) rfl (.inl rfl)) (pgs_consD (pgd_name hN (i := 2) rfl (.inl rfl)) (pgs_consD (pgd_name hN (i := 3) rfl (.inl rfl)) (pgs_consD (pgd_name hN (i := 4) rfl (.inl rfl)) pgs_nilD)))) rfl)) (pss_consD (ps_ifD (ptd_not (pt_tru (p1_e (pd_cd c_are_names hT (hr.mono (by decide)) hgd (by rfl) (pad_cons (pd_var 1 (pv 1)) (pad_cons pd_int pad_nil)))))) (pss_oneD (ps_retD (pd_tup (pad_cons pd_str (pad_cons (pd_neg pd_int) pad_nil))))) pss_nilD) (pss_consD (ps_ifD (ptd_not (pt_tru (p1_e (pd_cd c_are_names hT (hr.mono (by decide)) hgd (by rfl) (pad_cons (pd_var 2 (pv 2)) (pad_cons pd_int pad_nil)))))) (pss_oneD (ps_retD (pd_tup (pad_cons pd_str (pad_cons (pd_neg pd_int) pad_nil))))) pss_nilD) (pss_consD (ps_ifD ((pwd_or (ptd_not (pt_tru (p1_e (pd_isi (T := "tuple") (by simp) (p1_n 3 (pv 3)) (by rfl) m_isinstance (by rfl) m_tuple (by decide +kernel))))) (pw_one (ptd_not (pt_tru (p1_n 3 (pv 3))))))).pt (pss_oneD (ps_retD (pd_tup (pad_cons pd_str (pad_cons (pd_neg pd_int) pad_nil))))) pss_nilD) (pss_consD (ps_forD PassesOwn.never rfl (pid_enum (pd_var 3 (pv 3)) (by rfl) m_enumerate) (pgd_tup rfl (pgs_consD (pgd_name hN (i := 5) rfl (.inl rfl)) (pgs_consD (pgd_name hN (i := 6) rfl (.inl rfl)) pgs_nilD)) rfl) (pss_oneD (ps_ifD ((pwd_or (ptd_not (pt_tru (p1_e (pd_cd c_are_numbers hT (hr.mono (by decide)) hgd (by rfl) (pad_cons (pd_var 6 (pv 6)) (pad_cons (pd_len (p1_n 1 (pv 1)) (by rfl) m_len) pad_nil)))))) (pw_one (c_ge (p2_ee (pd_max hr rfl (p1_n 6 (pv 6)) (by rfl) m_max) (pd_len (p1_n 3 (pv 3)) (by rfl) m_len))).t))).pt (pss_oneD (ps_retD (pd_tup (pad_cons pd_str (pad_cons (pd_var 5 (pv 5)) pad_nil))))) pss_nilD))) (pss_consD (ps_ifD (ptd_not (pt_tru (p1_e (pd_cd c_is_tuple hT (hr.mono (by decide)) hgd (by rfl) (pad_cons (pd_var 4 (pv 4)) (pad_cons (pd_len (p1_n 3 (pv 3)) (by rfl) m_len) pad_nil)))))) (pss_oneD (ps_retD (pd_tup (pad_cons pd_str (pad_cons (pd_neg pd_int) pad_nil))))) pss_nilD) (pss_consD (ps_forD PassesOwn.never rfl (pid_enum (pd_var 4 (pv 4)) (by rfl) m_enumerate) (pgd_tup rfl (pgs_consD (pgd_name hN (i := 5) rfl (.inl rfl)) (pgs_consD (pgd_name hN (i := 6) rfl (.inl rfl)) pgs_nilD)) rfl) (pss_oneD (ps_ifD (ptd_not (pt_tru (p1_e (pd_cd c_are_numbers hT (hr.mono (by decide)) hgd (by rfl) (pad_cons (pd_var 6 (pv 6)) (pad_cons (pd_len (p1_n 2 (pv 2)) (by rfl) m_len) pad_nil)))))) (pss_oneD (ps_retD (pd_tup (pad_cons pd_str (pad_cons (pd_var 5 (pv 5)) pad_nil))))) pss_nilD))) (pss_oneD (ps_retD pd_non))))))))))
abbrev s_are_numbers : Stmt := topS 11
theorem sc_are_numbers : FnScope ["thing", "many", "number"] ["thing", "many"] (defScope s_are_numbers) := ⟨rfl, rfl, rfl, by decide +kernel, rfl, by decide +kernel, by decide +kernel⟩
theorem ok_are_numbers {P : Program} {w : World} {K : PySem.W.Frag} {mg : Str → Option Value} {base : Heap} {tb : Addr → Prop} {f : Addr} {fd : FuncData} (F : Fun K "are_numbers" "are_numbers" s_are_numbers f fd) (hm : mg "are_numbers" = some (.ref f)) (m_all : mg "all" = none) (c_is_number : Cd P w K mg base tb 2 "is_number" ["thing"] [] D_is_number) (c_is_tuple : Cd P w K mg base tb 1 "is_tuple" ["thing", "many"] [] D_is_tuple) :
    Cd P w K mg base tb 3 "are_numbers" ["thing", "many"] [] D_are_numbers := by
  refine Cd.ofC (k := 2) (N := ["thing", "many", "number"]) (bf := B_are_numbers) F hm sc_are_numbers (fun _ _ _ _ _ _ us hl => match us, hl with | [_, _], _ => rfl) (fun _ hq => nomatch hq) (fun cdv A outer s H hcd hr hgd Γ hT => ?_)
  have hN := sc_are_numbers.nd
  exact (pss_oneD (ps_retD (pd_and (pd_cd c_is_tuple hT (hr.mono (by decide)) hgd (by rfl) (pad_cons (pd_var 0 (pv 0)) (pad_cons (pd_var 1 (pv 1)) pad_nil))) (pd_one (pd_all rfl (p1_e (pd_lc rfl hN (own := [("number", 2)]) (pid_val (pd_var 0 (pv 0))) (blkOk_by (by kernel_rfl)) (fun _ _ _ _ _ => (pgd_name hN (i := 2) rfl (.inl rfl))) (fun _ _ _ _ _ => ptsd_nil) (fun _ _ _ _ _ => (pd_cd c_is_number hT (hr.mono (by decide)) hgd (by rfl) (pad_cons (pd_var 2 (pv 2)) pad_nil))))) (by rfl) m_all)))))
abbrev s_is_index : Stmt := topS 12
theorem sc_is_index : FnScope ["thing", "things"] ["thing", "things"] (defScope s_is_index) := ⟨rfl, rfl, rfl, by decide +kernel, rfl, by decide +kernel, by decide +kernel⟩
theorem ok_is_index {P : Program} {w : World} {K : PySem.W.Frag} {mg : Str → Option Value} {base : Heap} {tb : Addr → Prop} {f : Addr} {fd : FuncData} (F : Fun K "is_index" "is_index" s_is_index f fd) (hm : mg "is_index" = some (.ref f)) (m_len : mg "len" = none) (c_is_number : Cd P w K mg base tb 2 "is_number" ["thing"] [] D_is_number) :
    Cd P w K mg base tb 3 "is_index" ["thing", "things"] [] D_is_index := by
  refine Cd.ofC (k := 2) (N := ["thing", "things"]) (bf := B_is_index) F hm sc_is_index (fun _ _ _ _ _ _ us hl => match us, hl with | [_, _], _ => rfl) (fun _ hq => nomatch hq) (fun cdv A outer s H hcd hr hgd Γ hT => ?_)
  have hN := sc_is_index.nd
  exact (pss_oneD (ps_retD (pd_and (pd_cd c_is_number hT (hr.mono (by decide)) hgd (by rfl) (pad_cons (pd_var 0 (pv 0)) pad_nil)) (pd_one (c_lt (p2_ne 0 (pv 0) (pd_len (p1_n 1 (pv 1)) (by rfl) m_len))).v))))
abbrev s_is_state : Stmt := topS 13
theorem sc_is_state : FnScope ["machine", "thing"] ["machine", "thing"] (defScope s_is_state) := ⟨rfl, rfl, rfl, by decide +kernel, rfl, by decide +kernel, by decide +kernel⟩
theorem ok_is_state {P : Program} {w : World} {K : PySem.W.Frag} {mg : Str → Option Value} {base : Heap} {tb : Addr → Prop} {f : Addr} {fd : FuncData} (F : Fun K "is_state" "is_state" s_is_state f fd) (hm : mg "is_state" = some (.ref f)) (c_is_index : Cd P w K mg base tb 3 "is_index" ["thing", "things"] [] D_is_index) :
    Cd P w K mg base tb 4 "is_state" ["machine", "thing"] [] D_is_state := by
  refine Cd.ofC (k := 3) (N := ["machine", "thing"]) (bf := B_is_state) F hm sc_is_state (fun _ _ _ _ _ _ us hl => match us, hl with | [_, _], _ => rfl) (fun _ hq => nomatch hq) (fun cdv A outer s H hcd hr hgd Γ hT => ?_)
  have hN := sc_is_state.nd
  exact (pss_oneD (ps_retD (pd_cd c_is_index hT (hr.mono (by decide)) hgd (by rfl) (pad_cons (pd_var 1 (pv 1)) (pad_cons (pd_sub hr.u1 (p2_ne 0 (pv 0) pd_int) (fun _ _ => rfl) (fun _ _ => rfl)) pad_nil)))))
abbrev s_need : Stmt := topS 19
theorem sc_need : FnScope ["holds", "word"] ["holds", "word"] (defScope s_need) := ⟨rfl, rfl, rfl, by decide +kernel, rfl, by decide +kernel, by decide +kernel⟩
theorem ok_need {P : Program} {w : World} {K : PySem.W.Frag} {mg : Str → Option Value} {base : Heap} {tb : Addr → Prop} {f : Addr} {fd : FuncData} (F : Fun K "need" "need" s_need f fd) (hm : mg "need" = some (.ref f)) :
    Cd P w K mg base tb 1 "need" ["holds", "word"] [] D_need := by
  refine Cd.ofC (k := 0) (N := ["holds", "word"]) (bf := B_need) F hm sc_need (fun _ _ _ _ _ _ us hl => match us, hl with | [_, _], _ => rfl) (fun _ hq => nomatch hq) (fun cdv A outer s H hcd hr hgd Γ hT => ?_)
  have hN := sc_need.nd
  exact (pss_oneD (ps_ifD (ptd_not (pt_tru (p1_n 0 (pv 0)))) (pss_oneD ps_neverD) pss_nilD))
abbrev s_need_machine : Stmt := topS 20
theorem sc_need_machine : FnScope ["machine"] ["machine"] (defScope s_need_machine) := ⟨rfl, rfl, rfl, by decide +kernel, rfl, by decide +kernel, by decide +kernel⟩
theorem ok_need_machine {P : Program} {w : World} {K : PySem.W.Frag} {mg : Str → Option Value} {base : Heap} {tb : Addr → Prop} {f : Addr} {fd : FuncData} (F : Fun K "need_machine" "need_machine" s_need_machine f fd) (hm : mg "need_machine" = some (.ref f)) (c_is_machine : Cd P w K mg base tb 5 "is_machine" ["thing"] [] D_is_machine) (c_need : Cd P w K mg base tb 1 "need" ["holds", "word"] [] D_need) :
    Cd P w K mg base tb 6 "need_machine" ["machine"] [] D_need_machine := by
  refine Cd.ofC (k := 5) (N := ["machine"]) (bf := B_need_machine) F hm sc_need_machine (fun _ _ _ _ _ _ us hl => match us, hl with | [_], _ => rfl) (fun _ hq => nomatch hq) (fun cdv A outer s H hcd hr hgd Γ hT => ?_)
  have hN := sc_need_machine.nd
  exact (pss_oneD (ps_exprD (pd_cd c_need hT (hr.mono (by decide)) hgd (by rfl) (pad_cons (pd_cd c_is_machine hT (hr.mono (by decide)) hgd (by rfl) (pad_cons (pd_var 0 (pv 0)) pad_nil)) (pad_cons pd_str pad_nil)))))
abbrev s_need_state : Stmt := topS 21
theorem sc_need_state : FnScope ["machine", "state"] ["machine", "state"] (defScope s_need_state) := ⟨rfl, rfl, rfl, by decide +kernel, rfl, by decide +kernel, by decide +kernel⟩
theorem ok_need_state {P : Program} {w : World} {K : PySem.W.Frag} {mg : Str → Option Value} {base : Heap} {tb : Addr → Prop} {f : Addr} {fd : FuncData} (F : Fun K "need_state" "need_state" s_need_state f fd) (hm : mg "need_state" = some (.ref f)) (c_is_state : Cd P w K mg base tb 4 "is_state" ["machine", "thing"] [] D_is_state) (c_need : Cd P w K mg base tb 1 "need" ["holds", "word"] [] D_need) (c_need_machine : Cd P w K mg base tb 6 "need_machine" ["machine"] [] D_need_machine) :
    Cd P w K mg base tb 7 "need_state" ["machine", "state"] [] D_need_state := by
  refine Cd.ofC (k := 6) (N := ["machine", "state"]) (bf := B_need_state) F hm sc_need_state (fun _ _ _ _ _ _ us hl => match us, hl with | [_, _], _ => rfl) (fun _ hq => nomatch hq) (fun cdv A outer s H hcd hr hgd Γ hT => ?_)
  have hN := sc_need_state.nd
  exact (pss_consD (ps_exprD (pd_cd c_need_machine hT (hr.mono (by decide)) hgd (by rfl) (pad_cons (pd_var 0 (pv 0)) pad_nil))) (pss_oneD (ps_exprD (pd_cd c_need hT (hr.mono (by decide)) hgd (by rfl) (pad_cons (pd_cd c_is_state hT (hr.mono (by decide)) hgd (by rfl) (pad_cons (pd_var 0 (pv 0)) (pad_cons (pd_var 1 (pv 1)) pad_nil))) (pad_cons pd_str pad_nil))))))
abbrev s_need_looks : Stmt := topS 22
theorem sc_need_looks : FnScope ["machine", "looks"] ["machine", "looks"] (defScope s_need_looks) := ⟨rfl, rfl, rfl, by decide +kernel, rfl, by decide +kernel, by decide +kernel⟩
theorem ok_need_looks {P : Program} {w : World} {K : PySem.W.Frag} {mg : Str → Option Value} {base : Heap} {tb : Addr → Prop} {f : Addr} {fd : FuncData} (F : Fun K "need_looks" "need_looks" s_need_looks f fd) (hm : mg "need_looks" = some (.ref f)) (c_is_set_of : Cd P w K mg base tb 2 "is_set_of" ["thing", "names"] [] D_is_set_of) (c_need : Cd P w K mg base tb 1 "need" ["holds", "word"] [] D_need) (c_need_machine : Cd P w K mg base tb 6 "need_machine" ["machine"] [] D_need_machine) :
    Cd P w K mg base tb 7 "need_looks" ["machine", "looks"] [] D_need_looks := by
  refine Cd.ofC (k := 6) (N := ["machine", "looks"]) (bf := B_need_looks) F hm sc_need_looks (fun _ _ _ _ _ _ us hl => match us, hl with | [_, _], _ => rfl) (fun _ hq => nomatch hq) (fun cdv A outer s H hcd hr hgd Γ hT => ?_)
  have hN := sc_need_looks.nd
  exact (pss_consD (ps_exprD (pd_cd c_need_machine hT (hr.mono (by decide)) hgd (by rfl) (pad_cons (pd_var 0 (pv 0)) pad_nil))) (pss_oneD (ps_exprD (pd_cd c_need hT (hr.mono (by decide)) hgd (by rfl) (pad_cons (pd_cd c_is_set_of hT (hr.mono (by decide)) hgd (by rfl) (pad_cons (pd_var 1 (pv 1)) (pad_cons (pd_sub hr.u1 (p2_ne 0 (pv 0) pd_int) (fun _ _ => rfl) (fun _ _ => rfl)) pad_nil))) (pad_cons pd_str pad_nil))))))
abbrev s_need_two_states : Stmt := topS 23
theorem sc_need_two_states : FnScope ["machine", "state", "other", "looks"] ["machine", "state", "other", "looks"] (defScope s_need_two_states) := ⟨rfl, rfl, rfl, by decide +kernel, rfl, by decide +kernel, by decide +kernel⟩
theorem ok_need_two_states {P : Program} {w : World} {K : PySem.W.Frag} {mg : Str → Option Value} {base : Heap} {tb : Addr → Prop} {f : Addr} {fd : FuncData} (F : Fun K "need_two_states" "need_two_states" s_need_two_states f fd) (hm : mg "need_two_states" = some (.ref f)) (c_is_set_of : Cd P w K mg base tb 2 "is_set_of" ["thing", "names"] [] D_is_set_of) (c_is_state : Cd P w K mg base tb 4 "is_state" ["machine", "thing"] [] D_is_state) (c_need : Cd P w K mg base tb 1 "need" ["holds", "word"] [] D_need) (c_need_state : Cd P w K mg base tb 7 "need_state" ["machine", "state"] [] D_need_state) :
    Cd P w K mg base tb 8 "need_two_states" ["machine", "state", "other", "looks"] [] D_need_two_states := by
  refine Cd.ofC (k := 7) (N := ["machine", "state", "other", "looks"]) (bf := B_need_two_states) F hm sc_need_two_states (fun _ _ _ _ _ _ us hl => match us, hl with | [_, _, _, _], _ => rfl) (fun _ hq => nomatch hq) (fun cdv A outer s H hcd hr hgd Γ hT => ?_)
  have hN := sc_need_two_states.nd
  exact (pss_consD (ps_exprD (pd_cd c_need_state hT (hr.mono (by decide)) hgd (by rfl) (pad_cons (pd_var 0 (pv 0)) (pad_cons (pd_var 1 (pv 1)) pad_nil)))) (pss_consD (ps_exprD (pd_cd c_need hT (hr.mono (by decide)) hgd (by rfl) (pad_cons (pd_cd c_is_state hT (hr.mono (by decide)) hgd (by rfl) (pad_cons (pd_var 0 (pv 0)) (pad_cons (pd_var 2 (pv 2)) pad_nil))) (pad_cons pd_str pad_nil)))) (pss_oneD (ps_exprD (pd_cd c_need hT (hr.mono (by decide)) hgd (by rfl) (pad_cons (pd_cd c_is_set_of hT (hr.mono (by decide)) hgd (by rfl) (pad_cons (pd_var 3 (pv 3)) (pad_cons (pd_sub hr.u1 (p2_ne 0 (pv 0) pd_int) (fun _ _ => rfl) (fun _ _ => rfl)) pad_nil))) (pad_cons pd_str pad_nil)))))))
end Q6

set_option Elab.async false
set_option linter.all false
set_option maxRecDepth 100000
set_option maxHeartbeats 1000000
namespace Q6
open PySem PySem.Spec PyProof.Rows L2 PD

variable [TheW]
abbrev s_reachable_states : Stmt := topS 25
theorem sc_reachable_states : FnScope ["machine"] ["machine"] (defScope s_reachable_states) := ⟨rfl, rfl, rfl, by decide +kernel, rfl, by decide +kernel, by decide +kernel⟩
theorem ok_reachable_states {P : Program} {w : World} {K : PySem.W.Frag} {mg : Str → Option Value} {base : Heap} {tb : Addr → Prop} {f : Addr} {fd : FuncData} (F : Fun K "reachable_states" "reachable_states" s_reachable_states f fd) (hm : mg "reachable_states" = some (.ref f)) (m_sorted : mg "sorted" = none) (m_tuple : mg "tuple" = none) (c_least_rows : Cd P w K mg base tb 1 "least_rows" ["machine", "begin"] [] D_least_rows) (c_need_machine : Cd P w K mg base tb 6 "need_machine" ["machine"] [] D_need_machine) :
    Cd P w K mg base tb 7 "reachable_states" ["machine"] [(["machine"], [0])] D_reachable_states := by
  refine Cd.ofC (k := 6) (N := ["machine"]) (bf := B_reachable_states) F hm sc_reachable_states (fun _ _ _ _ _ _ us hl => match us, hl with | [_], _ => rfl) (fun q hq => by cases List.mem_singleton.mp hq; exact fun _ _ _ _ _ _ us hl => match us, hl with | [_], _ => rfl) (fun cdv A outer s H hcd hr hgd Γ hT => ?_)
  have hN := sc_reachable_states.nd
  exact (pss_consD (ps_exprD (pd_cd c_need_machine hT (hr.mono (by decide)) hgd (by rfl) (pad_cons (pd_var 0 (pv 0)) pad_nil))) (pss_oneD (ps_retD (pd_tupleOf (p1_e (pd_sorted rfl (p1_e (pd_cd c_least_rows hT (hr.mono (by decide)) hgd (by rfl) (pad_cons (pd_var 0 (pv 0)) (pad_cons pd_int pad_nil)))) (by rfl) m_sorted)) (by rfl) m_tuple))))
abbrev s_row_to : Stmt := topS 26
theorem sc_row_to : FnScope ["machine", "state"] ["machine", "state"] (defScope s_row_to) := ⟨rfl, rfl, rfl, by decide +kernel, rfl, by decide +kernel, by decide +kernel⟩
theorem ok_row_to {P : Program} {w : World} {K : PySem.W.Frag} {mg : Str → Option Value} {base : Heap} {tb : Addr → Prop} {f : Addr} {fd : FuncData} (F : Fun K "row_to" "row_to" s_row_to f fd) (hm : mg "row_to" = some (.ref f)) (c_least_rows : Cd P w K mg base tb 1 "least_rows" ["machine", "begin"] [] D_least_rows) (c_need_state : Cd P w K mg base tb 7 "need_state" ["machine", "state"] [] D_need_state) :
    Cd P w K mg base tb 8 "row_to" ["machine", "state"] [(["state", "machine"], [1, 0])] D_row_to := by
  refine Cd.ofC (k := 7) (N := ["machine", "state"]) (bf := B_row_to) F hm sc_row_to (fun _ _ _ _ _ _ us hl => match us, hl with | [_, _], _ => rfl) (fun q hq => by cases List.mem_singleton.mp hq; exact fun _ _ _ _ _ _ us hl => match us, hl with | [_, _], _ => rfl) (fun cdv A outer s H hcd hr hgd Γ hT => ?_)
  have hN := sc_row_to.nd
  exact (pss_consD (ps_exprD (pd_cd c_need_state hT (hr.mono (by decide)) hgd (by rfl) (pad_cons (pd_var 0 (pv 0)) (pad_cons (pd_var 1 (pv 1)) pad_nil)))) (pss_oneD (ps_retD (pd_get2 hr.u1 (pd_cd c_least_rows hT (hr.mono (by decide)) hgd (by rfl) (pad_cons (pd_var 0 (pv 0)) (pad_cons pd_int pad_nil))) (pd_var 1 (pv 1)) pd_non ⟨by rfl, by rfl, by rfl, by rfl⟩))))
abbrev s_least_rows : Stmt := topS 27
theorem sc_least_rows : FnScope ["machine", "begin", "rows", "order", "k", "state", "letter", "late"] ["machine", "begin"] (defScope s_least_rows) := ⟨rfl, rfl, rfl, by decide +kernel, rfl, by decide +kernel, by decide +kernel⟩
theorem ok_least_rows {P : Program} {w : World} {K : PySem.W.Frag} {mg : Str → Option Value} {base : Heap} {tb : Addr → Prop} {f : Addr} {fd : FuncData} (F : Fun K "least_rows" "least_rows" s_least_rows f fd) (hm : mg "least_rows" = some (.ref f)) (m_len : mg "len" = none) (m_zip : mg "zip" = none) :
    Cd P w K mg base tb 1 "least_rows" ["machine", "begin"] [] D_least_rows := by
  refine Cd.ofC (k := 0) (N := ["machine", "begin", "rows", "order", "k", "state", "letter", "late"]) (bf := B_least_rows) F hm sc_least_rows (fun _ _ _ _ _ _ us hl => match us, hl with | [_, _], _ => rfl) (fun _ hq => nomatch hq) (fun cdv A outer s H hcd hr hgd Γ hT => ?_)
  have hN := sc_least_rows.nd
  exact (pss_consD (ps_asgD (pd_dic (pd_var 1 (pv 1)) (pd_tup pad_nil)) (pgd_name hN (i := 2) rfl (.inl rfl))) (pss_consD (ps_asgD (pd_lst (pad_cons (pd_var 1 (pv 1)) pad_nil)) (pgd_name hN (i := 3) rfl (.inl rfl))) (pss_consD (ps_asgD pd_int (pgd_name hN (i := 4) rfl (.inl rfl))) (pss_consD (ps_whileD 64 PassesOwn.never (c_lt (p2_ne 4 (pv 4) (pd_len (p1_n 3 (pv 3)) (by rfl) m_len))).t (pss_consD (ps_asgD (pd_sub hr.u1 (p2_nn 3 4 (pv 3) (pv 4)) (fun _ _ => rfl) (fun _ _ => rfl)) (pgd_name hN (i := 5) rfl (.inl rfl))) (pss_consD (ps_forD PassesOwn.never rfl (pid_zip (pd_sub hr.u1 (p2_ne 0 (pv 0) pd_int) (fun _ _ => rfl) (fun _ _ => rfl)) (pd_sub hr.u1 (p2_en 5 (pd_sub hr.u1 (p2_ne 0 (pv 0) pd_int) (fun _ _ => rfl) (fun _ _ => rfl)) (pv 5)) (fun _ _ => rfl) (fun _ _ => rfl)) (by rfl) m_zip) (pgd_tup rfl (pgs_consD (pgd_name hN (i := 6) rfl (.inl rfl)) (pgs_consD (pgd_name hN (i := 7) rfl (.inl rfl)) pgs_nilD)) rfl) (pss_oneD (ps_ifD (c_notIn hr.u65 (p2_nn 7 2 (pv 7) (pv 2))).t (pss_consD (ps_setKD hr.u1 (pv 2) (pd_add (p2_ee (pd_sub hr.u1 (p2_nn 2 5 (pv 2) (pv 5)) (fun _ _ => rfl) (fun _ _ => rfl)) (pd_tup (pad_cons (pd_var 6 (pv 6)) pad_nil)))) (pd_var 7 (pv 7))) (pss_oneD (ps_exprD (pd_append (pv 3) (pd_var 7 (pv 7)))))) pss_nilD))) (pss_oneD (ps_asgD (pd_add (p2_ne 4 (pv 4) pd_int)) (pgd_name hN (i := 4) rfl (.inl rfl))))))) (pss_oneD (ps_retVD (i := 2) (pv 2)))))))
abbrev s_alike_classes : Stmt := topS 29
theorem sc_alike_classes : FnScope ["machine", "looks"] ["machine", "looks"] (defScope s_alike_classes) := ⟨rfl, rfl, rfl, by decide +kernel, rfl, by decide +kernel, by decide +kernel⟩
theorem ok_alike_classes {P : Program} {w : World} {K : PySem.W.Frag} {mg : Str → Option Value} {base : Heap} {tb : Addr → Prop} {f : Addr} {fd : FuncData} (F : Fun K "alike_classes" "alike_classes" s_alike_classes f fd) (hm : mg "alike_classes" = some (.ref f)) (c_classes_by : Cd P w K mg base tb 4 "classes_by" ["machine", "looks"] [] D_classes_by) (c_need_looks : Cd P w K mg base tb 7 "need_looks" ["machine", "looks"] [] D_need_looks) :
    Cd P w K mg base tb 8 "alike_classes" ["machine", "looks"] [(["looks", "machine"], [1, 0])] D_alike_classes := by
  refine Cd.ofC (k := 7) (N := ["machine", "looks"]) (bf := B_alike_classes) F hm sc_alike_classes (fun _ _ _ _ _ _ us hl => match us, hl with | [_, _], _ => rfl) (fun q hq => by cases List.mem_singleton.mp hq; exact fun _ _ _ _ _ _ us hl => match us, hl with | [_, _], _ => rfl) (fun cdv A outer s H hcd hr hgd Γ hT => ?_)
  have hN := sc_alike_classes.nd
  exact (pss_consD (ps_exprD (pd_cd c_need_looks hT (hr.mono (by decide)) hgd (by rfl) (pad_cons (pd_var 0 (pv 0)) (pad_cons (pd_var 1 (pv 1)) pad_nil)))) (pss_oneD (ps_retD (pd_cd c_classes_by hT (hr.mono (by decide)) hgd (by rfl) (pad_cons (pd_var 0 (pv 0)) (pad_cons (pd_var 1 (pv 1)) pad_nil))))))
abbrev s_are_alike : Stmt := topS 30
theorem sc_are_alike : FnScope ["machine", "state", "other", "looks", "classes"] ["machine", "state", "other", "looks"] (defScope s_are_alike) := ⟨rfl, rfl, rfl, by decide +kernel, rfl, by decide +kernel, by decide +kernel⟩
theorem ok_are_alike {P : Program} {w : World} {K : PySem.W.Frag} {mg : Str → Option Value} {base : Heap} {tb : Addr → Prop} {f : Addr} {fd : FuncData} (F : Fun K "are_alike" "are_alike" s_are_alike f fd) (hm : mg "are_alike" = some (.ref f)) (c_classes_by : Cd P w K mg base tb 4 "classes_by" ["machine", "looks"] [] D_classes_by) (c_need_two_states : Cd P w K mg base tb 8 "need_two_states" ["machine", "state", "other", "looks"] [] D_need_two_states) :
    Cd P w K mg base tb 9 "are_alike" ["machine", "state", "other", "looks"] [(["looks", "other", "state", "machine"], [3, 2, 1, 0])] D_are_alike := by
  refine Cd.ofC (k := 8) (N := ["machine", "state", "other", "looks", "classes"]) (bf := B_are_alike) F hm sc_are_alike (fun _ _ _ _ _ _ us hl => match us, hl with | [_, _, _, _], _ => rfl) (fun q hq => by cases List.mem_singleton.mp hq; exact fun _ _ _ _ _ _ us hl => match us, hl with | [_, _, _, _], _ => rfl) (fun cdv A outer s H hcd hr hgd Γ hT => ?_)
  have hN := sc_are_alike.nd
  exact (pss_consD (ps_exprD (pd_cd c_need_two_states hT (hr.mono (by decide)) hgd (by rfl) (pad_cons (pd_var 0 (pv 0)) (pad_cons (pd_var 1 (pv 1)) (pad_cons (pd_var 2 (pv 2)) (pad_cons (pd_var 3 (pv 3)) pad_nil)))))) (pss_consD (ps_asgD (pd_cd c_classes_by hT (hr.mono (by decide)) hgd (by rfl) (pad_cons (pd_var 0 (pv 0)) (pad_cons (pd_var 3 (pv 3)) pad_nil))) (pgd_name hN (i := 4) rfl (.inl rfl))) (pss_oneD (ps_retD (c_eq hr.u64 (p2_ee (pd_sub hr.u1 (p2_nn 4 1 (pv 4) (pv 1)) (fun _ _ => rfl) (fun _ _ => rfl)) (pd_sub hr.u1 (p2_nn 4 2 (pv 4) (pv 2)) (fun _ _ => rfl) (fun _ _ => rfl)))).v))))
abbrev s_parting_row : Stmt := topS 31
theorem sc_parting_row : FnScope ["machine", "state", "other", "looks"] ["machine", "state", "other", "looks"] (defScope s_parting_row) := ⟨rfl, rfl, rfl, by decide +kernel, rfl, by decide +kernel, by decide +kernel⟩
theorem ok_parting_row {P : Program} {w : World} {K : PySem.W.Frag} {mg : Str → Option Value} {base : Heap} {tb : Addr → Prop} {f : Addr} {fd : FuncData} (F : Fun K "parting_row" "parting_row" s_parting_row f fd) (hm : mg "parting_row" = some (.ref f)) (c_least_parting : Cd P w K mg base tb 4 "least_parting" ["machine", "state", "other", "looks"] [] D_least_parting) (c_need_two_states : Cd P w K mg base tb 8 "need_two_states" ["machine", "state", "other", "looks"] [] D_need_two_states) :
    Cd P w K mg base tb 9 "parting_row" ["machine", "state", "other", "looks"] [(["looks", "other", "state", "machine"], [3, 2, 1, 0])] D_parting_row := by
  refine Cd.ofC (k := 8) (N := ["machine", "state", "other", "looks"]) (bf := B_parting_row) F hm sc_parting_row (fun _ _ _ _ _ _ us hl => match us, hl with | [_, _, _, _], _ => rfl) (fun q hq => by cases List.mem_singleton.mp hq; exact fun _ _ _ _ _ _ us hl => match us, hl with | [_, _, _, _], _ => rfl) (fun cdv A outer s H hcd hr hgd Γ hT => ?_)
  have hN := sc_parting_row.nd
  exact (pss_consD (ps_exprD (pd_cd c_need_two_states hT (hr.mono (by decide)) hgd (by rfl) (pad_cons (pd_var 0 (pv 0)) (pad_cons (pd_var 1 (pv 1)) (pad_cons (pd_var 2 (pv 2)) (pad_cons (pd_var 3 (pv 3)) pad_nil)))))) (pss_oneD (ps_retD (pd_cd c_least_parting hT (hr.mono (by decide)) hgd (by rfl) (pad_cons (pd_var 0 (pv 0)) (pad_cons (pd_var 1 (pv 1)) (pad_cons (pd_var 2 (pv 2)) (pad_cons (pd_var 3 (pv 3)) pad_nil))))))))
end Q6

set_option Elab.async false
set_option linter.all false
set_option maxRecDepth 100000
set_option maxHeartbeats 1000000
namespace Q6
open PySem PySem.Spec PyProof.Rows L2 PD

variable [TheW]
abbrev s_answers_to : Stmt := topS 32
theorem sc_answers_to : FnScope ["machine", "state", "looks", "look"] ["machine", "state", "looks"] (defScope s_answers_to) := ⟨rfl, rfl, rfl, by decide +kernel, rfl, by decide +kernel, by decide +kernel⟩
theorem ok_answers_to {P : Program} {w : World} {K : PySem.W.Frag} {mg : Str → Option Value} {base : Heap} {tb : Addr → Prop} {f : Addr} {fd : FuncData} (F : Fun K "answers_to" "answers_to" s_answers_to f fd) (hm : mg "answers_to" = some (.ref f)) {c_ P_ : Addr} (TB : GxR.TabB base mg c_ P_) (htb : tb P_) (hC : fd.code = .ref c_) (m_tuple : mg "tuple" = none) :
    Cd P w K mg base tb 3 "answers_to" ["machine", "state", "looks"] [] D_answers_to := by
  refine Cd.ofC (k := 2) (N := ["machine", "state", "looks", "look"]) (bf := B_answers_to) F hm sc_answers_to (fun _ _ _ _ _ _ us hl => match us, hl with | [_, _, _], _ => rfl) (fun _ hq => nomatch hq) (fun cdv A outer s H hcd hr hgd Γ hT => ?_)
  have hN := sc_answers_to.nd
  exact (pss_oneD (ps_retD (pd_tupG (k := 0) (own := [("look", 3)]) hT htb (hr.mono (by decide)) (by rfl) m_tuple TB (hcd.symm.trans hC) hN (pid_val (pd_var 2 (pv 2))) (blkOk_by (by kernel_rfl)) (fun A1 s1 H1 C1 cd1 cl1 fp1 pn1 hr1 hg1 => have hgd1 := hg1.trans hgd; (pgd_name hN (i := 3) rfl (.inl rfl))) (fun A1 s1 H1 C1 cd1 cl1 fp1 pn1 hr1 hg1 => have hgd1 := hg1.trans hgd; ptsd_nil) (fun A1 s1 H1 C1 cd1 cl1 fp1 pn1 hr1 hg1 => have hgd1 := hg1.trans hgd; (pd_sub hr1.u1 (p2_ee (pd_sub hr1.u1 (p2_en 1 (pd_sub hr1.u1 (p2_ne 0 (pv 0) pd_int) (fun _ _ => rfl) (fun _ _ => rfl)) (pv 1)) (fun _ _ => rfl) (fun _ _ => rfl)) (pd_idx (pd_sub hr1.u1 (p2_ne 0 (pv 0) pd_int) (fun _ _ => rfl) (fun _ _ => rfl)) (pd_var 3 (pv 3)))) (fun _ _ => rfl) (fun _ _ => rfl))))))
abbrev s_least_with : Stmt := topS 33
theorem sc_least_with : FnScope ["keys", "firsts", "k", "key"] ["keys"] (defScope s_least_with) := ⟨rfl, rfl, rfl, by decide +kernel, rfl, by decide +kernel, by decide +kernel⟩
theorem ok_least_with {P : Program} {w : World} {K : PySem.W.Frag} {mg : Str → Option Value} {base : Heap} {tb : Addr → Prop} {f : Addr} {fd : FuncData} (F : Fun K "least_with" "least_with" s_least_with f fd) (hm : mg "least_with" = some (.ref f)) {c_ P_ : Addr} (TB : GxR.TabB base mg c_ P_) (htb : tb P_) (hC : fd.code = .ref c_) (hW : w = TheW.w) (m_enumerate : mg "enumerate" = none) (m_tuple : mg "tuple" = none) :
    Cd P w K mg base tb 3 "least_with" ["keys"] [] D_least_with := by
  refine Cd.ofC (k := 2) (N := ["keys", "firsts", "k", "key"]) (bf := B_least_with) F hm sc_least_with (fun _ _ _ _ _ _ us hl => match us, hl with | [_], _ => rfl) (fun _ hq => nomatch hq) (fun cdv A outer s H hcd hr hgd Γ hT => ?_)
  have hN := sc_least_with.nd
  exact (pss_consD (ps_asgD pd_newN (pgd_name hN (i := 1) rfl (.inr rfl))) (pss_consD (ps_forD PassesOwn.never rfl (pid_enum (pd_var 0 (pv 0)) (by rfl) m_enumerate) (pgd_tup rfl (pgs_consD (pgd_name hN (i := 2) rfl (.inl rfl)) (pgs_consD (pgd_name hN (i := 3) rfl (.inl rfl)) pgs_nilD)) rfl) (pss_oneD (ps_ifD (c_notInN hW hr.u64 (p2_nn 3 1 (pv 3) (pv 1))).t (pss_oneD (ps_setND hW hr.u64 (pv 1) (pd_var 2 (pv 2)) (pd_var 3 (pv 3)))) pss_nilD))) (pss_oneD (ps_retD (pd_tupG (k := 0) (own := [("key", 3)]) hT htb (hr.mono (by decide)) (by rfl) m_tuple TB (hcd.symm.trans hC) hN (pid_val (pd_var 0 (pv 0))) (blkOk_by (by kernel_rfl)) (fun A1 s1 H1 C1 cd1 cl1 fp1 pn1 hr1 hg1 => have hgd1 := hg1.trans hgd; (pgd_name hN (i := 3) rfl (.inl rfl))) (fun A1 s1 H1 C1 cd1 cl1 fp1 pn1 hr1 hg1 => have hgd1 := hg1.trans hgd; ptsd_nil) (fun A1 s1 H1 C1 cd1 cl1 fp1 pn1 hr1 hg1 => have hgd1 := hg1.trans hgd; (pd_subN hW hr1.u64 (p2_nn 1 3 (pv 1) (pv 3)) (fun _ _ => rfl))))))))
abbrev s_classes_by : Stmt := topS 34
theorem sc_classes_by : FnScope ["machine", "looks", "finer", "classes", "lates", "state", "row", "late"] ["machine", "looks"] (defScope s_classes_by) := ⟨rfl, rfl, rfl, by decide +kernel, rfl, by decide +kernel, by decide +kernel⟩
theorem ok_classes_by {P : Program} {w : World} {K : PySem.W.Frag} {mg : Str → Option Value} {base : Heap} {tb : Addr → Prop} {f : Addr} {fd : FuncData} (F : Fun K "classes_by" "classes_by" s_classes_by f fd) (hm : mg "classes_by" = some (.ref f)) (m_len : mg "len" = none) (m_list : mg "list" = none) (m_range : mg "range" = none) (m_tuple : mg "tuple" = none) (m_zip : mg "zip" = none) (c_answers_to : Cd P w K mg base tb 3 "answers_to" ["machine", "state", "looks"] [] D_answers_to) (c_least_with : Cd P w K mg base tb 3 "least_with" ["keys"] [] D_least_with) :
    Cd P w K mg base tb 4 "classes_by" ["machine", "looks"] [] D_classes_by := by
  refine Cd.ofC (k := 3) (N := ["machine", "looks", "finer", "classes", "lates", "state", "row", "late"]) (bf := B_classes_by) F hm sc_classes_by (fun _ _ _ _ _ _ us hl => match us, hl with | [_, _], _ => rfl) (fun _ hq => nomatch hq) (fun cdv A outer s H hcd hr hgd Γ hT => ?_)
  have hN := sc_classes_by.nd
  exact (pss_consD (ps_asgD (pd_cd c_least_with hT (hr.mono (by decide)) hgd (by rfl) (pad_cons (pd_lc rfl hN (own := [("state", 5)]) (pid_range1 (pd_len (p1_e (pd_sub hr.u1 (p2_ne 0 (pv 0) pd_int) (fun _ _ => rfl) (fun _ _ => rfl))) (by rfl) m_len) (by rfl) m_range) (blkOk_by (by kernel_rfl)) (fun _ _ _ _ _ => (pgd_name hN (i := 5) rfl (.inl rfl))) (fun _ _ _ _ _ => ptsd_nil) (fun _ _ _ _ _ => (pd_cd c_answers_to hT (hr.mono (by decide)) hgd (by rfl) (pad_cons (pd_var 0 (pv 0)) (pad_cons (pd_var 5 (pv 5)) (pad_cons (pd_var 1 (pv 1)) pad_nil)))))) pad_nil)) (pgd_name hN (i := 2) rfl (.inl rfl))) (pss_consD (ps_asgD (pd_tup pad_nil) (pgd_name hN (i := 3) rfl (.inr rfl))) (pss_consD (ps_whileD 64 PassesOwn.never (c_ne hr.u64 (p2_nn 2 3 (pv 2) (pv 3))).t (pss_consD (ps_asgD (pd_var 2 (pv 2)) (pgd_name hN (i := 3) rfl (.inr rfl))) (pss_consD (ps_setLcD (i := 4) rfl hN rfl rfl (by rfl) (own := [("row", 6)]) (pid_val (pd_sub hr.u1 (p2_ne 0 (pv 0) pd_int) (fun _ _ => rfl) (fun _ _ => rfl))) (blkOk_by (by kernel_rfl)) (fun _ _ _ _ _ => (pgd_name hN (i := 6) rfl (.inl rfl))) (fun _ _ _ _ _ => ptsd_nil) (fun _ _ _ _ _ => (pd_tupleOf (p1_e (pd_lc rfl hN (own := [("late", 7)]) (pid_val (pd_var 6 (pv 6))) (blkOk_by (by kernel_rfl)) (fun _ _ _ _ _ => (pgd_name hN (i := 7) rfl (.inl rfl))) (fun _ _ _ _ _ => ptsd_nil) (fun _ _ _ _ _ => (pd_sub hr.u1 (p2_nn 3 7 (pv 3) (pv 7)) (fun _ _ => rfl) (fun _ _ => rfl))))) (by rfl) m_tuple))) (pss_oneD (ps_asgD (pd_cd c_least_with hT (hr.mono (by decide)) hgd (by rfl) (pad_cons (pd_zipL rfl (pd_var 3 (pv 3)) (pd_var 4 (pv 4)) (by rfl) m_list (by rfl) m_zip) pad_nil)) (pgd_name hN (i := 2) rfl (.inl rfl))))))) (pss_oneD (ps_retVD (i := 3) (pv 3))))))
abbrev s_least_parting : Stmt := topS 35
theorem sc_least_parting : FnScope ["machine", "state", "other", "looks", "rows", "order", "k", "one", "two", "letter", "late", "beside"] ["machine", "state", "other", "looks"] (defScope s_least_parting) := ⟨rfl, rfl, rfl, by decide +kernel, rfl, by decide +kernel, by decide +kernel⟩
theorem ok_least_parting {P : Program} {w : World} {K : PySem.W.Frag} {mg : Str → Option Value} {base : Heap} {tb : Addr → Prop} {f : Addr} {fd : FuncData} (F : Fun K "least_parting" "least_parting" s_least_parting f fd) (hm : mg "least_parting" = some (.ref f)) (hW : w = TheW.w) (m_len : mg "len" = none) (m_zip : mg "zip" = none) (c_answers_to : Cd P w K mg base tb 3 "answers_to" ["machine", "state", "looks"] [] D_answers_to) :
    Cd P w K mg base tb 4 "least_parting" ["machine", "state", "other", "looks"] [] D_least_parting := by
  refine Cd.ofC (k := 3) (N := ["machine", "state", "other", "looks", "rows", "order", "k", "one", "two", "letter", "late", "beside"]) (bf := B_least_parting) F hm sc_least_parting (fun _ _ _ _ _ _ us hl => match us, hl with | [_, _, _, _], _ => rfl) (fun _ hq => nomatch hq) (fun cdv A outer s H hcd hr hgd Γ hT => ?_)
  have hN := sc_least_parting.nd
  exact (pss_consD (ps_asgD (pd_dicN hW hr.u64 (pd_tup (pad_cons (pd_var 1 (pv 1)) (pad_cons (pd_var 2 (pv 2)) pad_nil))) (pd_tup pad_nil)) (pgd_name hN (i := 4) rfl (.inl rfl))) (pss_consD (ps_asgD (pd_lst (pad_cons (pd_tup (pad_cons (pd_var 1 (pv 1)) (pad_cons (pd_var 2 (pv 2)) pad_nil))) pad_nil)) (pgd_name hN (i := 5) rfl (.inl rfl))) (pss_consD (ps_asgD pd_int (pgd_name hN (i := 6) rfl (.inl rfl))) (pss_consD (ps_whileD 64 PassesOwn.never (c_lt (p2_ne 6 (pv 6) (pd_len (p1_n 5 (pv 5)) (by rfl) m_len))).t (pss_consD (ps_asgD (pd_sub hr.u1 (p2_nn 5 6 (pv 5) (pv 6)) (fun _ _ => rfl) (fun _ _ => rfl)) (pgd_tup rfl (pgs_consD (pgd_name hN (i := 7) rfl (.inl rfl)) (pgs_consD (pgd_name hN (i := 8) rfl (.inl rfl)) pgs_nilD)) rfl)) (pss_consD (ps_ifD (c_ne hr.u64 (p2_ee (pd_cd c_answers_to hT (hr.mono (by decide)) hgd (by rfl) (pad_cons (pd_var 0 (pv 0)) (pad_cons (pd_var 7 (pv 7)) (pad_cons (pd_var 3 (pv 3)) pad_nil)))) (pd_cd c_answers_to hT (hr.mono (by decide)) hgd (by rfl) (pad_cons (pd_var 0 (pv 0)) (pad_cons (pd_var 8 (pv 8)) (pad_cons (pd_var 3 (pv 3)) pad_nil)))))).t (pss_oneD (ps_retD (pd_subN hW hr.u64 (p2_ne 4 (pv 4) (pd_tup (pad_cons (pd_var 7 (pv 7)) (pad_cons (pd_var 8 (pv 8)) pad_nil)))) (fun _ _ => rfl)))) pss_nilD) (pss_consD (ps_forD PassesOwn.never rfl (pid_zip3 (pd_sub hr.u1 (p2_ne 0 (pv 0) pd_int) (fun _ _ => rfl) (fun _ _ => rfl)) (pd_sub hr.u1 (p2_en 7 (pd_sub hr.u1 (p2_ne 0 (pv 0) pd_int) (fun _ _ => rfl) (fun _ _ => rfl)) (pv 7)) (fun _ _ => rfl) (fun _ _ => rfl)) (pd_sub hr.u1 (p2_en 8 (pd_sub hr.u1 (p2_ne 0 (pv 0) pd_int) (fun _ _ => rfl) (fun _ _ => rfl)) (pv 8)) (fun _ _ => rfl) (fun _ _ => rfl)) (by rfl) m_zip) (pgd_tup rfl (pgs_consD (pgd_name hN (i := 9) rfl (.inl rfl)) (pgs_consD (pgd_name hN (i := 10) rfl (.inl rfl)) (pgs_consD (pgd_name hN (i := 11) rfl (.inl rfl)) pgs_nilD))) rfl) (pss_oneD (ps_ifD (c_notInN hW hr.u64 (p2_en 4 (pd_tup (pad_cons (pd_var 10 (pv 10)) (pad_cons (pd_var 11 (pv 11)) pad_nil))) (pv 4))).t (pss_consD (ps_setND hW hr.u64 (pv 4) (pd_add (p2_ee (pd_subN hW hr.u64 (p2_ne 4 (pv 4) (pd_tup (pad_cons (pd_var 7 (pv 7)) (pad_cons (pd_var 8 (pv 8)) pad_nil)))) (fun _ _ => rfl)) (pd_tup (pad_cons (pd_var 9 (pv 9)) pad_nil)))) (pd_tup (pad_cons (pd_var 10 (pv 10)) (pad_cons (pd_var 11 (pv 11)) pad_nil)))) (pss_oneD (ps_exprD (pd_append (pv 5) (pd_tup (pad_cons (pd_var 10 (pv 10)) (pad_cons (pd_var 11 (pv 11)) pad_nil))))))) pss_nilD))) (pss_oneD (ps_asgD (pd_add (p2_ne 6 (pv 6) pd_int)) (pgd_name hN (i := 6) rfl (.inl rfl)))))))) (pss_oneD (ps_retD pd_non))))))
end Q6

set_option Elab.async false
set_option linter.all false
set_option maxRecDepth 100000
set_option maxHeartbeats 1000000
namespace Q6
open PySem PySem.Spec PyProof.Rows L2 PD

variable [TheW]
abbrev s__law_draw : Stmt := topS 38
theorem sc__law_draw : FnScope ["_law_feed_here", "_law_size", "_law_digit", "_law_cells", "_law_spot", "_law_cell", "_law_mixed"] ["_law_feed_here", "_law_size"] (defScope s__law_draw) := ⟨rfl, rfl, rfl, by decide +kernel, rfl, by decide +kernel, by decide +kernel⟩
theorem ok__law_draw {P : Program} {w : World} {K : PySem.W.Frag} {mg : Str → Option Value} {base : Heap} {tb : Addr → Prop} {f : Addr} {fd : FuncData} (F : Fun K "_law_draw" "_law_draw" s__law_draw f fd) (hm : mg "_law_draw" = some (.ref f)) (m_int : mg "int" = none) (m_len : mg "len" = none) :
    Cd P w K mg base tb 1 "_law_draw" ["_law_feed_here", "_law_size"] [] D__law_draw := by
  refine Cd.ofC (k := 0) (N := ["_law_feed_here", "_law_size", "_law_digit", "_law_cells", "_law_spot", "_law_cell", "_law_mixed"]) (bf := B__law_draw) F hm sc__law_draw (fun _ _ _ _ _ _ us hl => match us, hl with | [_, _], _ => rfl) (fun _ hq => nomatch hq) (fun cdv A outer s H hcd hr hgd Γ hT => ?_)
  have hN := sc__law_draw.nd
  exact (pss_consD (ps_fset hr.u1 (pv 0) (pd_add (p2_ee (pd_fget hr.u1 (pv 0)) pd_int))) (pss_consD (ps_ifD (c_gt (p2_ee (pd_fget hr.u1 (pv 0)) pd_int)).t (pss_consD (ps_asgD (pd_mod (p2_en 1 (pd_int1 (p1_e (pd_fget hr.u1 (pv 0))) (by rfl) m_int) (pv 1))) (pgd_name hN (i := 2) rfl (.inl rfl))) (pss_consD (ps_fset hr.u1 (pv 0) (pd_fdiv (p2_en 1 (pd_fget hr.u1 (pv 0)) (pv 1)))) (pss_oneD (ps_retVD (i := 2) (pv 2))))) pss_nilD) (pss_consD (ps_parD (i := 3) (j := 4) rfl hN rfl rfl (by decide) rfl rfl (pd_fget hr.u1 (pv 0)) (pd_fget hr.u1 (pv 0)) (by rfl)) (pss_consD (ps_fset hr.u1 (pv 0) (pd_add (p2_ne 4 (pv 4) pd_int))) (pss_consD (ps_asgD (pd_if (c_ne hr.u64 (p2_ne 3 (pv 3) (pd_lst pad_nil))).t (pd_sub hr.u1 (p2_ne 3 (pv 3) (pd_mod (p2_ee (pd_int1 (p1_n 4 (pv 4)) (by rfl) m_int) (pd_len (p1_n 3 (pv 3)) (by rfl) m_len)))) (fun _ _ => rfl) (fun _ _ => rfl)) pd_int) (pgd_name hN (i := 5) rfl (.inl rfl))) (pss_consD (ps_ifD ((pwd_and (c_ge (p2_ne 5 (pv 5) (pd_pow (p2_ee pd_int pd_int)))).t (pw_one (c_lt (p2_ne 4 (pv 4) (pd_len (p1_n 3 (pv 3)) (by rfl) m_len))).t))).pt (pss_consD (ps_fset hr.u1 (pv 0) (pd_fdiv (p2_nn 5 1 (pv 5) (pv 1)))) (pss_oneD (ps_retD (pd_mod (p2_en 1 (pd_int1 (p1_n 5 (pv 5)) (by rfl) m_int) (pv 1)))))) pss_nilD) (pss_consD (ps_asgD (pd_mod (p2_ee (pd_int1 (p1_e (pd_add (p2_ee (pd_add (p2_ee (pd_mod (p2_ee (pd_int1 (p1_n 5 (pv 5)) (by rfl) m_int) pd_int)) (pd_mul (p2_ee pd_int (pd_fget hr.u1 (pv 0)))))) pd_int))) (by rfl) m_int) pd_int)) (pgd_name hN (i := 6) rfl (.inl rfl))) (pss_consD (ps_asgD (pd_mod (p2_ee (pd_int1 (p1_e (pd_add (p2_ee (pd_add (p2_ee (pd_mul (p2_nn 6 6 (pv 6) (pv 6))) (pd_mul (p2_ee pd_int (pd_fget hr.u1 (pv 0)))))) pd_int))) (by rfl) m_int) pd_int)) (pgd_name hN (i := 6) rfl (.inl rfl))) (pss_oneD (ps_retD (pd_mod (p2_en 1 (pd_int1 (p1_e (pd_fdiv (p2_ee (pd_mod (p2_ee (pd_int1 (p1_e (pd_add (p2_ee (pd_mul (p2_nn 6 6 (pv 6) (pv 6))) (pd_mul (p2_en 6 pd_int (pv 6)))))) (by rfl) m_int) pd_int)) pd_int))) (by rfl) m_int) (pv 1)))))))))))))
abbrev s__law_any : Stmt := topS 39
theorem sc__law_any : FnScope ["_law_feed_here", "_law_some"] ["_law_feed_here", "_law_some"] (defScope s__law_any) := ⟨rfl, rfl, rfl, by decide +kernel, rfl, by decide +kernel, by decide +kernel⟩
theorem ok__law_any {P : Program} {w : World} {K : PySem.W.Frag} {mg : Str → Option Value} {base : Heap} {tb : Addr → Prop} {f : Addr} {fd : FuncData} (F : Fun K "_law_any" "_law_any" s__law_any f fd) (hm : mg "_law_any" = some (.ref f)) (m_len : mg "len" = none) (c__law_draw : Cd P w K mg base tb 1 "_law_draw" ["_law_feed_here", "_law_size"] [] D__law_draw) :
    Cd P w K mg base tb 2 "_law_any" ["_law_feed_here", "_law_some"] [] D__law_any := by
  refine Cd.ofC (k := 1) (N := ["_law_feed_here", "_law_some"]) (bf := B__law_any) F hm sc__law_any (fun _ _ _ _ _ _ us hl => match us, hl with | [_, _], _ => rfl) (fun _ hq => nomatch hq) (fun cdv A outer s H hcd hr hgd Γ hT => ?_)
  have hN := sc__law_any.nd
  exact (pss_oneD (ps_retD (pd_sub hr.u1 (p2_ne 1 (pv 1) (pd_cd c__law_draw hT (hr.mono (by decide)) hgd (by rfl) (pad_cons (pd_var 0 (pv 0)) (pad_cons (pd_len (p1_n 1 (pv 1)) (by rfl) m_len) pad_nil)))) (fun _ _ => rfl) (fun _ _ => rfl))))
abbrev s__law_same : Stmt := topS 40
theorem sc__law_same : FnScope ["_law_told", "_law_due"] ["_law_told", "_law_due"] (defScope s__law_same) := ⟨rfl, rfl, rfl, by decide +kernel, rfl, by decide +kernel, by decide +kernel⟩
theorem ok__law_same {P : Program} {w : World} {K : PySem.W.Frag} {mg : Str → Option Value} {base : Heap} {tb : Addr → Prop} {f : Addr} {fd : FuncData} (F : Fun K "_law_same" "_law_same" s__law_same f fd) (hm : mg "_law_same" = some (.ref f)) (m_repr : mg "repr" = none) :
    Cd P w K mg base tb 1 "_law_same" ["_law_told", "_law_due"] [] D__law_same := by
  refine Cd.ofC (k := 0) (N := ["_law_told", "_law_due"]) (bf := B__law_same) F hm sc__law_same (fun _ _ _ _ _ _ us hl => match us, hl with | [_, _], _ => rfl) (fun _ hq => nomatch hq) (fun cdv A outer s H hcd hr hgd Γ hT => ?_)
  have hN := sc__law_same.nd
  exact (pss_oneD (ps_retD (c_eqS (p2_ee (pd_repr hgd hr.u65 (p1_n 0 (pv 0)) (by rfl) m_repr) (pd_repr hgd hr.u65 (p1_n 1 (pv 1)) (by rfl) m_repr))).v))
abbrev s__law_name : Stmt := topS 41
theorem sc__law_name : FnScope ["_law_feed_here", "_law_size", "_law_stem", "_law_text", "_law_lap"] ["_law_feed_here"] (defScope s__law_name) := ⟨rfl, rfl, rfl, by decide +kernel, rfl, by decide +kernel, by decide +kernel⟩
theorem ok__law_name {P : Program} {w : World} {K : PySem.W.Frag} {mg : Str → Option Value} {base : Heap} {tb : Addr → Prop} {f : Addr} {fd : FuncData} (F : Fun K "_law_name" "_law_name" s__law_name f fd) (hm : mg "_law_name" = some (.ref f)) (m_int : mg "int" = none) (m_range : mg "range" = none) (c__law_draw : Cd P w K mg base tb 1 "_law_draw" ["_law_feed_here", "_law_size"] [] D__law_draw) :
    Cd P w K mg base tb 2 "_law_name" ["_law_feed_here"] [] D__law_name := by
  refine Cd.ofC (k := 1) (N := ["_law_feed_here", "_law_size", "_law_stem", "_law_text", "_law_lap"]) (bf := B__law_name) F hm sc__law_name (fun _ _ _ _ _ _ us hl => match us, hl with | [_], _ => rfl) (fun _ hq => nomatch hq) (fun cdv A outer s H hcd hr hgd Γ hT => ?_)
  have hN := sc__law_name.nd
  exact (pss_consD (ps_parD (i := 1) (j := 2) rfl hN rfl rfl (by decide) rfl rfl (pd_add (p2_ee pd_int (pd_cd c__law_draw hT (hr.mono (by decide)) hgd (by rfl) (pad_cons (pd_var 0 (pv 0)) (pad_cons pd_int pad_nil))))) (pd_cd c__law_draw hT (hr.mono (by decide)) hgd (by rfl) (pad_cons (pd_var 0 (pv 0)) (pad_cons pd_int pad_nil))) (by rfl)) (pss_consD (ps_asgD pd_str (pgd_name hN (i := 3) rfl (.inl rfl))) (pss_consD (ps_forD PassesOwn.never rfl (pid_range1 pd_int (by rfl) m_range) (pgd_name hN (i := 4) rfl (.inl rfl)) (pss_oneD (ps_parD (i := 3) (j := 2) rfl hN rfl rfl (by decide) rfl rfl (pd_add (p2_ne 3 (pv 3) (pd_sub hr.u1 (p2_ee pd_str (pd_mod (p2_ee (pd_int1 (p1_n 2 (pv 2)) (by rfl) m_int) pd_int))) (fun _ _ => rfl) (fun _ _ => rfl)))) (pd_fdiv (p2_ne 2 (pv 2) pd_int)) (by rfl)))) (pss_consD (ps_asgD (pd_cut (pd_add (p2_ne 3 (pv 3) (pd_revS (pd_var 3 (pv 3))))) pod_none (pod_some (pd_var 1 (pv 1)))) (pgd_name hN (i := 3) rfl (.inl rfl))) (pss_oneD (ps_retD (pd_if (c_ne hr.u64 (p2_ne 3 (pv 3) pd_str)).t (pd_var 3 (pv 3)) pd_str)))))))
abbrev s__law_names : Stmt := topS 42
theorem sc__law_names : FnScope ["_law_feed_here", "_law_many", "_law_found", "_law_lap", "_law_late_here"] ["_law_feed_here", "_law_many"] (defScope s__law_names) := ⟨rfl, rfl, rfl, by decide +kernel, rfl, by decide +kernel, by decide +kernel⟩
theorem ok__law_names {P : Program} {w : World} {K : PySem.W.Frag} {mg : Str → Option Value} {base : Heap} {tb : Addr → Prop} {f : Addr} {fd : FuncData} (F : Fun K "_law_names" "_law_names" s__law_names f fd) (hm : mg "_law_names" = some (.ref f)) (m_len : mg "len" = none) (m_range : mg "range" = none) (m_sorted : mg "sorted" = none) (m_tuple : mg "tuple" = none) (c__law_name : Cd P w K mg base tb 2 "_law_name" ["_law_feed_here"] [] D__law_name) :
    Cd P w K mg base tb 3 "_law_names" ["_law_feed_here", "_law_many"] [] D__law_names := by
  refine Cd.ofC (k := 2) (N := ["_law_feed_here", "_law_many", "_law_found", "_law_lap", "_law_late_here"]) (bf := B__law_names) F hm sc__law_names (fun _ _ _ _ _ _ us hl => match us, hl with | [_, _], _ => rfl) (fun _ hq => nomatch hq) (fun cdv A outer s H hcd hr hgd Γ hT => ?_)
  have hN := sc__law_names.nd
  exact (pss_consD (ps_asgD (pd_lst pad_nil) (pgd_name hN (i := 2) rfl (.inl rfl))) (pss_consD (ps_forD PassesOwn.never rfl (pid_range1 (pd_var 1 (pv 1)) (by rfl) m_range) (pgd_name hN (i := 3) rfl (.inl rfl)) (pss_consD (ps_asgD (pd_cd c__law_name hT (hr.mono (by decide)) hgd (by rfl) (pad_cons (pd_var 0 (pv 0)) pad_nil)) (pgd_name hN (i := 4) rfl (.inl rfl))) (pss_oneD (ps_asgD (pd_if (c_notIn hr.u65 (p2_nn 4 2 (pv 4) (pv 2))).t (pd_add (p2_ne 2 (pv 2) (pd_lst (pad_cons (pd_var 4 (pv 4)) pad_nil)))) (pd_var 2 (pv 2))) (pgd_name hN (i := 2) rfl (.inl rfl)))))) (pss_consD (ps_forD PassesOwn.never rfl (pid_val (pd_lst (pad_cons pd_str (pad_cons pd_str (pad_cons pd_str (pad_cons pd_str pad_nil)))))) (pgd_name hN (i := 4) rfl (.inl rfl)) (pss_oneD (ps_asgD (pd_if ((pwd_and (c_notIn hr.u65 (p2_nn 4 2 (pv 4) (pv 2))).t (pw_one (c_lt (p2_en 1 (pd_len (p1_n 2 (pv 2)) (by rfl) m_len) (pv 1))).t))).pt (pd_add (p2_ne 2 (pv 2) (pd_lst (pad_cons (pd_var 4 (pv 4)) pad_nil)))) (pd_var 2 (pv 2))) (pgd_name hN (i := 2) rfl (.inl rfl))))) (pss_oneD (ps_retD (pd_tupleOf (p1_e (pd_sorted rfl (p1_n 2 (pv 2)) (by rfl) m_sorted)) (by rfl) m_tuple))))))
abbrev s__law_shape : Stmt := topS 43
theorem sc__law_shape : FnScope ["_law_feed_here", "_law_way", "_law_many", "_law_wide", "_law_half", "_law_found", "_law_s", "_law_late_here", "_law_k", "_law_t"] ["_law_feed_here", "_law_way", "_law_many", "_law_wide"] (defScope s__law_shape) := ⟨rfl, rfl, rfl, by decide +kernel, rfl, by decide +kernel, by decide +kernel⟩
theorem ok__law_shape {P : Program} {w : World} {K : PySem.W.Frag} {mg : Str → Option Value} {base : Heap} {tb : Addr → Prop} {f : Addr} {fd : FuncData} (F : Fun K "_law_shape" "_law_shape" s__law_shape f fd) (hm : mg "_law_shape" = some (.ref f)) (m_int : mg "int" = none) (m_max : mg "max" = none) (m_min : mg "min" = none) (m_range : mg "range" = none) (c__law_any : Cd P w K mg base tb 2 "_law_any" ["_law_feed_here", "_law_some"] [] D__law_any) (c__law_draw : Cd P w K mg base tb 1 "_law_draw" ["_law_feed_here", "_law_size"] [] D__law_draw) :
    Cd P w K mg base tb 3 "_law_shape" ["_law_feed_here", "_law_way", "_law_many", "_law_wide"] [] D__law_shape := by
  refine Cd.ofC (k := 2) (N := ["_law_feed_here", "_law_way", "_law_many", "_law_wide", "_law_half", "_law_found", "_law_s", "_law_late_here", "_law_k", "_law_t"]) (bf := B__law_shape) F hm sc__law_shape (fun _ _ _ _ _ _ us hl => match us, hl with | [_, _, _, _], _ => rfl) (fun _ hq => nomatch hq) (fun cdv A outer s H hcd hr hgd Γ hT => ?_)
  have hN := sc__law_shape.nd
  exact (pss_consD (ps_parC (i := 4) (j := 5) rfl hN rfl rfl (.inr rfl) (.inl rfl) (pd_fdiv (p2_ee (pd_add (p2_ne 2 (pv 2) pd_int)) pd_int)) (pd_lst pad_nil) (by rfl)) (pss_consD (ps_forD PassesOwn.never rfl (pid_range1 (pd_var 2 (pv 2)) (by rfl) m_range) (pgd_name hN (i := 6) rfl (.inr rfl)) (pss_consD (ps_ifD (c_eq hr.u64 (p2_ne 1 (pv 1) pd_int)).t (pss_oneD (ps_asgD (pd_add (p2_ee (pd_lst (pad_cons (pd_min rfl (p1_e (pd_lst (pad_cons (pd_add (p2_ne 6 (pv 6) pd_int)) (pad_cons (pd_subI (p2_ne 2 (pv 2) pd_int)) pad_nil)))) (by rfl) m_min) pad_nil)) (pd_lc rfl hN (own := [("_law_k", 8)]) (pid_range1 (pd_subI (p2_ne 3 (pv 3) pd_int)) (by rfl) m_range) (blkOk_by (by kernel_rfl)) (fun _ _ _ _ _ => (pgd_name hN (i := 8) rfl (.inl rfl))) (fun _ _ _ _ _ => ptsd_nil) (fun _ _ _ _ _ => (pd_cd c__law_any hT (hr.mono (by decide)) hgd (by rfl) (pad_cons (pd_var 0 (pv 0)) (pad_cons (pd_lst (pad_cons pd_int (pad_cons (pd_var 6 (pv 6)) (pad_cons (pd_min rfl (p1_e (pd_lst (pad_cons (pd_add (p2_ne 6 (pv 6) pd_int)) (pad_cons (pd_subI (p2_ne 2 (pv 2) pd_int)) pad_nil)))) (by rfl) m_min) pad_nil)))) pad_nil))))))) (pgd_name hN (i := 7) rfl (.inl rfl)))) (pss_oneD (ps_ifD (c_eq hr.u64 (p2_ne 1 (pv 1) pd_int)).t (pss_oneD (ps_setLcD (i := 7) rfl hN rfl rfl (by rfl) (own := [("_law_k", 8)]) (pid_range1 (pd_var 3 (pv 3)) (by rfl) m_range) (blkOk_by (by kernel_rfl)) (fun _ _ _ _ _ => (pgd_name hN (i := 8) rfl (.inl rfl))) (fun _ _ _ _ _ => ptsd_nil) (fun _ _ _ _ _ => (pd_mod (p2_en 2 (pd_int1 (p1_e (pd_add (p2_en 8 (pd_mul (p2_nn 6 3 (pv 6) (pv 3))) (pv 8)))) (by rfl) m_int) (pv 2)))))) (pss_oneD (ps_ifD (c_eq hr.u64 (p2_ne 1 (pv 1) pd_int)).t (pss_oneD (ps_setLcD (i := 7) rfl hN rfl rfl (by rfl) (own := [("_law_k", 8)]) (pid_range1 (pd_var 3 (pv 3)) (by rfl) m_range) (blkOk_by (by kernel_rfl)) (fun _ _ _ _ _ => (pgd_name hN (i := 8) rfl (.inl rfl))) (fun _ _ _ _ _ => ptsd_nil) (fun _ _ _ _ _ => (pd_max hr rfl (p1_e (pd_lst (pad_cons (pd_subI (p2_ee (pd_subI (p2_ne 6 (pv 6) pd_int)) (pd_cd c__law_draw hT (hr.mono (by decide)) hgd (by rfl) (pad_cons (pd_var 0 (pv 0)) (pad_cons pd_int pad_nil))))) (pad_cons pd_int pad_nil)))) (by rfl) m_max)))) (pss_oneD (ps_ifD ((pwd_and (c_eq hr.u64 (p2_ne 1 (pv 1) pd_int)).t (pw_one (c_ge (p2_nn 6 4 (pv 6) (pv 4))).t))).pt (pss_consD (ps_setLcD (i := 7) rfl hN rfl rfl (by rfl) (own := [("_law_t", 9)]) (pid_val (pd_sub hr.u1 (p2_ne 5 (pv 5) (pd_subI (p2_nn 6 4 (pv 6) (pv 4)))) (fun _ _ => rfl) (fun _ _ => rfl))) (blkOk_by (by kernel_rfl)) (fun _ _ _ _ _ => (pgd_name hN (i := 9) rfl (.inl rfl))) (fun _ _ _ _ _ => ptsd_nil) (fun _ _ _ _ _ => (pd_mod (p2_en 4 (pd_int1 (p1_n 9 (pv 9)) (by rfl) m_int) (pv 4))))) (pss_consD (ps_setLcD (i := 7) rfl hN rfl rfl (by rfl) (own := [("_law_t", 9)]) (pid_val (pd_var 7 (pv 7))) (blkOk_by (by kernel_rfl)) (fun _ _ _ _ _ => (pgd_name hN (i := 9) rfl (.inl rfl))) (fun _ _ _ _ _ => ptsd_nil) (fun _ _ _ _ _ => (pd_add (p2_ne 9 (pv 9) (pd_mul (p2_ne 4 (pv 4) (pd_cd c__law_draw hT (hr.mono (by decide)) hgd (by rfl) (pad_cons (pd_var 0 (pv 0)) (pad_cons pd_int pad_nil))))))))) (pss_oneD (ps_setLcD (i := 7) rfl hN rfl rfl (by rfl) (own := [("_law_t", 9)]) (pid_val (pd_var 7 (pv 7))) (blkOk_by (by kernel_rfl)) (fun _ _ _ _ _ => (pgd_name hN (i := 9) rfl (.inl rfl))) (fun _ _ _ _ _ => ptsd_nil) (fun _ _ _ _ _ => (pd_if (c_lt (p2_nn 9 2 (pv 9) (pv 2))).t (pd_var 9 (pv 9)) (pd_subI (p2_nn 9 4 (pv 9) (pv 4))))))))) (pss_oneD (ps_setLcD (i := 7) rfl hN rfl rfl (by rfl) (own := [("_law_k", 8)]) (pid_range1 (pd_var 3 (pv 3)) (by rfl) m_range) (blkOk_by (by kernel_rfl)) (fun _ _ _ _ _ => (pgd_name hN (i := 8) rfl (.inl rfl))) (fun _ _ _ _ _ => ptsd_nil) (fun _ _ _ _ _ => (pd_cd c__law_draw hT (hr.mono (by decide)) hgd (by rfl) (pad_cons (pd_var 0 (pv 0)) (pad_cons (pd_var 2 (pv 2)) pad_nil))))))))))))) (pss_oneD (ps_exprD (pd_append (pv 5) (pd_var 7 (pv 7))))))) (pss_oneD (ps_retVD (i := 5) (pv 5)))))
abbrev s__law_seen : Stmt := topS 44
theorem sc__law_seen : FnScope ["_law_feed_here", "_law_way", "_law_many", "_law_wide", "_law_half", "_law_top", "_law_found", "_law_s", "_law_late_here", "_law_k"] ["_law_feed_here", "_law_way", "_law_many", "_law_wide"] (defScope s__law_seen) := ⟨rfl, rfl, rfl, by decide +kernel, rfl, by decide +kernel, by decide +kernel⟩
theorem ok__law_seen {P : Program} {w : World} {K : PySem.W.Frag} {mg : Str → Option Value} {base : Heap} {tb : Addr → Prop} {f : Addr} {fd : FuncData} (F : Fun K "_law_seen" "_law_seen" s__law_seen f fd) (hm : mg "_law_seen" = some (.ref f)) (m_list : mg "list" = none) (m_range : mg "range" = none) (c__law_any : Cd P w K mg base tb 2 "_law_any" ["_law_feed_here", "_law_some"] [] D__law_any) (c__law_draw : Cd P w K mg base tb 1 "_law_draw" ["_law_feed_here", "_law_size"] [] D__law_draw) :
    Cd P w K mg base tb 3 "_law_seen" ["_law_feed_here", "_law_way", "_law_many", "_law_wide"] [] D__law_seen := by
  refine Cd.ofC (k := 2) (N := ["_law_feed_here", "_law_way", "_law_many", "_law_wide", "_law_half", "_law_top", "_law_found", "_law_s", "_law_late_here", "_law_k"]) (bf := B__law_seen) F hm sc__law_seen (fun _ _ _ _ _ _ us hl => match us, hl with | [_, _, _, _], _ => rfl) (fun _ hq => nomatch hq) (fun cdv A outer s H hcd hr hgd Γ hT => ?_)
  have hN := sc__law_seen.nd
  exact (pss_consD (ps_par3D (i := 4) (j := 5) (l := 6) rfl hN rfl rfl rfl (.inl rfl) (.inr rfl) (.inl rfl) (pd_fdiv (p2_ee (pd_add (p2_ne 2 (pv 2) pd_int)) pd_int)) (pd_cd c__law_any hT (hr.mono (by decide)) hgd (by rfl) (pad_cons (pd_var 0 (pv 0)) (pad_cons (pd_lst (pad_cons pd_int (pad_cons pd_int (pad_cons pd_int (pad_cons (pd_pow (p2_ee pd_int pd_int)) pad_nil))))) pad_nil))) (pd_lst pad_nil) (by rfl)) (pss_consD (ps_forD PassesOwn.never rfl (pid_range1 (pd_var 2 (pv 2)) (by rfl) m_range) (pgd_name hN (i := 7) rfl (.inl rfl)) (pss_consD (ps_setLcD (i := 8) rfl hN rfl rfl (by rfl) (own := [("_law_k", 9)]) (pid_range1 (pd_var 3 (pv 3)) (by rfl) m_range) (blkOk_by (by kernel_rfl)) (fun _ _ _ _ _ => (pgd_name hN (i := 9) rfl (.inl rfl))) (fun _ _ _ _ _ => ptsd_nil) (fun _ _ _ _ _ => (pd_if (c_lt (p2_ne 5 (pv 5) pd_int)).t (pd_cd c__law_draw hT (hr.mono (by decide)) hgd (by rfl) (pad_cons (pd_var 0 (pv 0)) (pad_cons (pd_var 5 (pv 5)) pad_nil))) (pd_subI (p2_ne 5 (pv 5) (pd_cd c__law_draw hT (hr.mono (by decide)) hgd (by rfl) (pad_cons (pd_var 0 (pv 0)) (pad_cons pd_int pad_nil)))))))) (pss_consD (ps_ifD ((pwd_and (c_eq hr.u64 (p2_ne 1 (pv 1) pd_int)).t (pw_one (c_ge (p2_nn 7 4 (pv 7) (pv 4))).t))).pt (pss_oneD (ps_asgD (pd_sub hr.u1 (p2_ne 6 (pv 6) (pd_subI (p2_nn 7 4 (pv 7) (pv 4)))) (fun _ _ => rfl) (fun _ _ => rfl)) (pgd_name hN (i := 8) rfl (.inl rfl)))) pss_nilD) (pss_consD (ps_ifD ((pwd_and (c_eq hr.u64 (p2_ne 1 (pv 1) pd_int)).t (pwd_and (c_gt (p2_ne 7 (pv 7) pd_int)).t (pw_one (c_lt (p2_ne 7 (pv 7) (pd_subI (p2_ne 2 (pv 2) pd_int)))).t)))).pt (pss_oneD (ps_asgD (pd_sub hr.u1 (p2_ne 6 (pv 6) pd_int) (fun _ _ => rfl) (fun _ _ => rfl)) (pgd_name hN (i := 8) rfl (.inl rfl)))) pss_nilD) (pss_oneD (ps_exprD (pd_append (pv 6) (pd_listOf rfl (p1_n 8 (pv 8)) (by rfl) m_list)))))))) (pss_oneD (ps_retVD (i := 6) (pv 6)))))
abbrev s__law_box : Stmt := topS 45
theorem sc__law_box : FnScope ["_law_feed_here", "_law_way", "_law_many", "_law_signs", "_law_eyes", "_law_moves", "_law_seen_here", "_law_turn", "_law_late_here", "_law_s", "_law_one", "_law_t"] ["_law_feed_here"] (defScope s__law_box) := ⟨rfl, rfl, rfl, by decide +kernel, rfl, by decide +kernel, by decide +kernel⟩
theorem ok__law_box {P : Program} {w : World} {K : PySem.W.Frag} {mg : Str → Option Value} {base : Heap} {tb : Addr → Prop} {f : Addr} {fd : FuncData} (F : Fun K "_law_box" "_law_box" s__law_box f fd) (hm : mg "_law_box" = some (.ref f)) (m_int : mg "int" = none) (m_len : mg "len" = none) (m_range : mg "range" = none) (m_tuple : mg "tuple" = none) (c__law_draw : Cd P w K mg base tb 1 "_law_draw" ["_law_feed_here", "_law_size"] [] D__law_draw) (c__law_names : Cd P w K mg base tb 3 "_law_names" ["_law_feed_here", "_law_many"] [] D__law_names) (c__law_seen : Cd P w K mg base tb 3 "_law_seen" ["_law_feed_here", "_law_way", "_law_many", "_law_wide"] [] D__law_seen) (c__law_shape : Cd P w K mg base tb 3 "_law_shape" ["_law_feed_here", "_law_way", "_law_many", "_law_wide"] [] D__law_shape) :
    Cd P w K mg base tb 4 "_law_box" ["_law_feed_here"] [] D__law_box := by
  refine Cd.ofC (k := 3) (N := ["_law_feed_here", "_law_way", "_law_many", "_law_signs", "_law_eyes", "_law_moves", "_law_seen_here", "_law_turn", "_law_late_here", "_law_s", "_law_one", "_law_t"]) (bf := B__law_box) F hm sc__law_box (fun _ _ _ _ _ _ us hl => match us, hl with | [_], _ => rfl) (fun _ hq => nomatch hq) (fun cdv A outer s H hcd hr hgd Γ hT => ?_)
  have hN := sc__law_box.nd
  exact (pss_consD (ps_parC (i := 1) (j := 2) rfl hN rfl rfl (.inl rfl) (.inr rfl) (pd_cd c__law_draw hT (hr.mono (by decide)) hgd (by rfl) (pad_cons (pd_var 0 (pv 0)) (pad_cons pd_int pad_nil))) (pd_add (p2_ee pd_int (pd_cd c__law_draw hT (hr.mono (by decide)) hgd (by rfl) (pad_cons (pd_var 0 (pv 0)) (pad_cons pd_int pad_nil))))) (by rfl)) (pss_consD (ps_parD (i := 3) (j := 4) rfl hN rfl rfl (by decide) rfl rfl (pd_cd c__law_names hT (hr.mono (by decide)) hgd (by rfl) (pad_cons (pd_var 0 (pv 0)) (pad_cons (pd_add (p2_ee pd_int (pd_cd c__law_draw hT (hr.mono (by decide)) hgd (by rfl) (pad_cons (pd_var 0 (pv 0)) (pad_cons pd_int pad_nil))))) pad_nil))) (pd_cd c__law_names hT (hr.mono (by decide)) hgd (by rfl) (pad_cons (pd_var 0 (pv 0)) (pad_cons (pd_add (p2_ee pd_int (pd_cd c__law_draw hT (hr.mono (by decide)) hgd (by rfl) (pad_cons (pd_var 0 (pv 0)) (pad_cons pd_int pad_nil))))) pad_nil))) (by rfl)) (pss_consD (ps_ifD (c_eq hr.u64 (p2_ne 1 (pv 1) pd_int)).t (pss_oneD (ps_asgD (pd_if ((pwd_and (c_eq hr.u64 (p2_ee (pd_len (p1_n 3 (pv 3)) (by rfl) m_len) pd_int)).t (pw_one (c_eq hr.u64 (p2_ee (pd_cd c__law_draw hT (hr.mono (by decide)) hgd (by rfl) (pad_cons (pd_var 0 (pv 0)) (pad_cons pd_int pad_nil))) pd_int)).t))).pt pd_int (pd_len (p1_n 3 (pv 3)) (by rfl) m_len)) (pgd_name hN (i := 2) rfl (.inr rfl)))) pss_nilD) (pss_consD (ps_parC (i := 5) (j := 6) rfl hN rfl rfl (.inr rfl) (.inr rfl) (pd_cd c__law_shape hT (hr.mono (by decide)) hgd (by rfl) (pad_cons (pd_var 0 (pv 0)) (pad_cons (pd_var 1 (pv 1)) (pad_cons (pd_var 2 (pv 2)) (pad_cons (pd_len (p1_n 3 (pv 3)) (by rfl) m_len) pad_nil))))) (pd_cd c__law_seen hT (hr.mono (by decide)) hgd (by rfl) (pad_cons (pd_var 0 (pv 0)) (pad_cons (pd_var 1 (pv 1)) (pad_cons (pd_var 2 (pv 2)) (pad_cons (pd_len (p1_n 4 (pv 4)) (by rfl) m_len) pad_nil))))) (by rfl)) (pss_consD (ps_asgD (pd_if (c_eq hr.u64 (p2_ee (pd_cd c__law_draw hT (hr.mono (by decide)) hgd (by rfl) (pad_cons (pd_var 0 (pv 0)) (pad_cons pd_int pad_nil))) pd_int)).t (pd_cd c__law_draw hT (hr.mono (by decide)) hgd (by rfl) (pad_cons (pd_var 0 (pv 0)) (pad_cons (pd_var 2 (pv 2)) pad_nil))) pd_int) (pgd_name hN (i := 7) rfl (.inr rfl))) (pss_consD (ps_setLcD (i := 8) rfl hN rfl rfl (by rfl) (own := [("_law_s", 9)]) (pid_range1 (pd_var 2 (pv 2)) (by rfl) m_range) (blkOk_by (by kernel_rfl)) (fun _ _ _ _ _ => (pgd_name hN (i := 9) rfl (.inl rfl))) (fun _ _ _ _ _ => ptsd_nil) (fun _ _ _ _ _ => (pd_sub hr.u1 (p2_ne 5 (pv 5) (pd_mod (p2_en 2 (pd_int1 (p1_e (pd_add (p2_nn 9 7 (pv 9) (pv 7)))) (by rfl) m_int) (pv 2)))) (fun _ _ => rfl) (fun _ _ => rfl)))) (pss_consD (ps_setLcD (i := 8) rfl hN rfl rfl (by rfl) (own := [("_law_one", 10)]) (pid_val (pd_var 8 (pv 8))) (blkOk_by (by kernel_rfl)) (fun _ _ _ _ _ => (pgd_name hN (i := 10) rfl (.inl rfl))) (fun _ _ _ _ _ => ptsd_nil) (fun _ _ _ _ _ => (pd_tupleOf (p1_e (pd_lc rfl hN (own := [("_law_t", 11)]) (pid_val (pd_var 10 (pv 10))) (blkOk_by (by kernel_rfl)) (fun _ _ _ _ _ => (pgd_name hN (i := 11) rfl (.inl rfl))) (fun _ _ _ _ _ => ptsd_nil) (fun _ _ _ _ _ => (pd_mod (p2_en 2 (pd_int1 (p1_e (pd_subI (p2_nn 11 7 (pv 11) (pv 7)))) (by rfl) m_int) (pv 2)))))) (by rfl) m_tuple))) (pss_oneD (ps_retD (pd_tup (pad_cons (pd_var 3 (pv 3)) (pad_cons (pd_var 4 (pv 4)) (pad_cons (pd_tupleOf (p1_n 8 (pv 8)) (by rfl) m_tuple) (pad_cons (pd_tupleOf (p1_e (pd_lc rfl hN (own := [("_law_s", 9)]) (pid_range1 (pd_var 2 (pv 2)) (by rfl) m_range) (blkOk_by (by kernel_rfl)) (fun _ _ _ _ _ => (pgd_name hN (i := 9) rfl (.inl rfl))) (fun _ _ _ _ _ => ptsd_nil) (fun _ _ _ _ _ => (pd_tupleOf (p1_e (pd_sub hr.u1 (p2_ne 6 (pv 6) (pd_mod (p2_en 2 (pd_int1 (p1_e (pd_add (p2_nn 9 7 (pv 9) (pv 7)))) (by rfl) m_int) (pv 2)))) (fun _ _ => rfl) (fun _ _ => rfl))) (by rfl) m_tuple)))) (by rfl) m_tuple) pad_nil))))))))))))))
end Q6

set_option Elab.async false
set_option linter.all false
set_option maxRecDepth 100000
set_option maxHeartbeats 1000000
namespace Q6
open PySem PySem.Spec PyProof.Rows L2 PD

variable [TheW]
abbrev s__law_late : Stmt := topS 46
theorem sc__law_late : FnScope ["_law_box_here", "_law_level", "_law_found", "_law_s", "_law_k", "_law_t", "_law_far"] ["_law_box_here", "_law_level"] (defScope s__law_late) := ⟨rfl, rfl, rfl, by decide +kernel, rfl, by decide +kernel, by decide +kernel⟩
theorem ok__law_late {P : Program} {w : World} {K : PySem.W.Frag} {mg : Str → Option Value} {base : Heap} {tb : Addr → Prop} {f : Addr} {fd : FuncData} (F : Fun K "_law_late" "_law_late" s__law_late f fd) (hm : mg "_law_late" = some (.ref f)) (m_len : mg "len" = none) (m_range : mg "range" = none) :
    Cd P w K mg base tb 1 "_law_late" ["_law_box_here", "_law_level"] [] D__law_late := by
  refine Cd.ofC (k := 0) (N := ["_law_box_here", "_law_level", "_law_found", "_law_s", "_law_k", "_law_t", "_law_far"]) (bf := B__law_late) F hm sc__law_late (fun _ _ _ _ _ _ us hl => match us, hl with | [_, _], _ => rfl) (fun _ hq => nomatch hq) (fun cdv A outer s H hcd hr hgd Γ hT => ?_)
  have hN := sc__law_late.nd
  exact (pss_consD (ps_asgD (pd_mul (p2_ee (pd_lst (pad_cons pd_non pad_nil)) (pd_len (p1_e (pd_sub hr.u1 (p2_ne 0 (pv 0) pd_int) (fun _ _ => rfl) (fun _ _ => rfl))) (by rfl) m_len))) (pgd_name hN (i := 2) rfl (.inl rfl))) (pss_consD (ps_forD PassesOwn.never rfl (pid_range1 (pd_len (p1_e (pd_sub hr.u1 (p2_ne 0 (pv 0) pd_int) (fun _ _ => rfl) (fun _ _ => rfl))) (by rfl) m_len) (by rfl) m_range) (pgd_name hN (i := 3) rfl (.inl rfl)) (pss_oneD (ps_ifD (c_notN (p1_e (pd_sub hr.u1 (p2_nn 1 3 (pv 1) (pv 3)) (fun _ _ => rfl) (fun _ _ => rfl)))).t (pss_oneD (ps_forD PassesOwn.never rfl (pid_range1 (pd_len (p1_e (pd_sub hr.u1 (p2_ne 0 (pv 0) pd_int) (fun _ _ => rfl) (fun _ _ => rfl))) (by rfl) m_len) (by rfl) m_range) (pgd_name hN (i := 4) rfl (.inl rfl)) (pss_consD (ps_parD (i := 5) (j := 6) rfl hN rfl rfl (by decide) rfl rfl (pd_sub hr.u1 (p2_en 4 (pd_sub hr.u1 (p2_en 3 (pd_sub hr.u1 (p2_ne 0 (pv 0) pd_int) (fun _ _ => rfl) (fun _ _ => rfl)) (pv 3)) (fun _ _ => rfl) (fun _ _ => rfl)) (pv 4)) (fun _ _ => rfl) (fun _ _ => rfl)) (pd_add (p2_ee (pd_sub hr.u1 (p2_nn 1 3 (pv 1) (pv 3)) (fun _ _ => rfl) (fun _ _ => rfl)) (pd_tup (pad_cons (pd_sub hr.u1 (p2_en 4 (pd_sub hr.u1 (p2_ne 0 (pv 0) pd_int) (fun _ _ => rfl) (fun _ _ => rfl)) (pv 4)) (fun _ _ => rfl) (fun _ _ => rfl)) pad_nil)))) (by rfl)) (pss_oneD (ps_ifD ((pwd_or (c_isN (p1_e (pd_sub hr.u1 (p2_nn 2 5 (pv 2) (pv 5)) (fun _ _ => rfl) (fun _ _ => rfl)))).t (pw_one (c_ltT hr.u65 (p2_ne 6 (pv 6) (pd_sub hr.u1 (p2_nn 2 5 (pv 2) (pv 5)) (fun _ _ => rfl) (fun _ _ => rfl)))).t))).pt (pss_oneD (ps_setLD (pv 2) (pd_var 6 (pv 6)) (pd_var 5 (pv 5)))) pss_nilD))))) pss_nilD))) (pss_oneD (ps_retVD (i := 2) (pv 2)))))
abbrev s__law_rows : Stmt := topS 47
theorem sc__law_rows : FnScope ["_law_box_here", "_law_many", "_law_best", "_law_level", "_law_lap", "_law_s"] ["_law_box_here"] (defScope s__law_rows) := ⟨rfl, rfl, rfl, by decide +kernel, rfl, by decide +kernel, by decide +kernel⟩
theorem ok__law_rows {P : Program} {w : World} {K : PySem.W.Frag} {mg : Str → Option Value} {base : Heap} {tb : Addr → Prop} {f : Addr} {fd : FuncData} (F : Fun K "_law_rows" "_law_rows" s__law_rows f fd) (hm : mg "_law_rows" = some (.ref f)) (m_len : mg "len" = none) (m_range : mg "range" = none) (c__law_late : Cd P w K mg base tb 1 "_law_late" ["_law_box_here", "_law_level"] [] D__law_late) :
    Cd P w K mg base tb 2 "_law_rows" ["_law_box_here"] [] D__law_rows := by
  refine Cd.ofC (k := 1) (N := ["_law_box_here", "_law_many", "_law_best", "_law_level", "_law_lap", "_law_s"]) (bf := B__law_rows) F hm sc__law_rows (fun _ _ _ _ _ _ us hl => match us, hl with | [_], _ => rfl) (fun _ hq => nomatch hq) (fun cdv A outer s H hcd hr hgd Γ hT => ?_)
  have hN := sc__law_rows.nd
  exact (pss_consD (ps_asgD (pd_len (p1_e (pd_sub hr.u1 (p2_ne 0 (pv 0) pd_int) (fun _ _ => rfl) (fun _ _ => rfl))) (by rfl) m_len) (pgd_name hN (i := 1) rfl (.inl rfl))) (pss_consD (ps_parC (i := 2) (j := 3) rfl hN rfl rfl (.inr rfl) (.inr rfl) (pd_mul (p2_en 1 (pd_lst (pad_cons pd_non pad_nil)) (pv 1))) (pd_add (p2_ee (pd_lst (pad_cons (pd_tup pad_nil) pad_nil)) (pd_mul (p2_ee (pd_lst (pad_cons pd_non pad_nil)) (pd_subI (p2_ne 1 (pv 1) pd_int)))))) (by rfl)) (pss_consD (ps_forD PassesOwn.never rfl (pid_range1 (pd_var 1 (pv 1)) (by rfl) m_range) (pgd_name hN (i := 4) rfl (.inl rfl)) (pss_consD (ps_asgD (pd_lc rfl hN (own := [("_law_s", 5)]) (pid_range1 (pd_var 1 (pv 1)) (by rfl) m_range) (blkOk_by (by kernel_rfl)) (fun _ _ _ _ _ => (pgd_name hN (i := 5) rfl (.inl rfl))) (fun _ _ _ _ _ => ptsd_nil) (fun _ _ _ _ _ => (pd_if (c_isN (p1_e (pd_sub hr.u1 (p2_nn 2 5 (pv 2) (pv 5)) (fun _ _ => rfl) (fun _ _ => rfl)))).t (pd_sub hr.u1 (p2_nn 3 5 (pv 3) (pv 5)) (fun _ _ => rfl) (fun _ _ => rfl)) (pd_sub hr.u1 (p2_nn 2 5 (pv 2) (pv 5)) (fun _ _ => rfl) (fun _ _ => rfl))))) (pgd_name hN (i := 2) rfl (.inr rfl))) (pss_oneD (ps_asgD (pd_cd c__law_late hT (hr.mono (by decide)) hgd (by rfl) (pad_cons (pd_var 0 (pv 0)) (pad_cons (pd_var 3 (pv 3)) pad_nil))) (pgd_name hN (i := 3) rfl (.inr rfl)))))) (pss_oneD (ps_retVD (i := 2) (pv 2))))))
abbrev s__law_parted : Stmt := topS 48
theorem sc__law_parted : FnScope ["_law_box_here", "_law_some", "_law_many", "_law_spots", "_law_pairs", "_law_level", "_law_best", "_law_s", "_law_t", "_law_unlike", "_law_lap", "_law_late_here", "_law_ways", "_law_k", "_law_one"] ["_law_box_here", "_law_some"] (defScope s__law_parted) := ⟨rfl, rfl, rfl, by decide +kernel, rfl, by decide +kernel, by decide +kernel⟩
theorem ok__law_parted {P : Program} {w : World} {K : PySem.W.Frag} {mg : Str → Option Value} {base : Heap} {tb : Addr → Prop} {f : Addr} {fd : FuncData} (F : Fun K "_law_parted" "_law_parted" s__law_parted f fd) (hm : mg "_law_parted" = some (.ref f)) (hW : w = TheW.w) (m_len : mg "len" = none) (m_range : mg "range" = none) :
    Cd P w K mg base tb 1 "_law_parted" ["_law_box_here", "_law_some"] [] D__law_parted := by
  refine Cd.ofC (k := 0) (N := ["_law_box_here", "_law_some", "_law_many", "_law_spots", "_law_pairs", "_law_level", "_law_best", "_law_s", "_law_t", "_law_unlike", "_law_lap", "_law_late_here", "_law_ways", "_law_k", "_law_one"]) (bf := B__law_parted) F hm sc__law_parted (fun _ _ _ _ _ _ us hl => match us, hl with | [_, _], _ => rfl) (fun _ hq => nomatch hq) (fun cdv A outer s H hcd hr hgd Γ hT => ?_)
  have hN := sc__law_parted.nd
  exact (pss_consD (ps_parD (i := 2) (j := 3) rfl hN rfl rfl (by decide) rfl rfl (pd_len (p1_e (pd_sub hr.u1 (p2_ne 0 (pv 0) pd_int) (fun _ _ => rfl) (fun _ _ => rfl))) (by rfl) m_len) (pd_lc rfl hN (own := [("_law_one", 14)]) (pid_val (pd_var 1 (pv 1))) (blkOk_by (by kernel_rfl)) (fun _ _ _ _ _ => (pgd_name hN (i := 14) rfl (.inl rfl))) (fun _ _ _ _ _ => ptsd_nil) (fun _ _ _ _ _ => (pd_idx (pd_sub hr.u1 (p2_ne 0 (pv 0) pd_int) (fun _ _ => rfl) (fun _ _ => rfl)) (pd_var 14 (pv 14))))) (by rfl)) (pss_consD (ps_par3D (i := 4) (j := 5) (l := 6) rfl hN rfl rfl rfl (.inl rfl) (.inr rfl) (.inl rfl) (pd_lst pad_nil) pd_newN pd_newN (by rfl)) (pss_consD (ps_forD PassesOwn.never rfl (pid_range1 (pd_var 2 (pv 2)) (by rfl) m_range) (pgd_name hN (i := 7) rfl (.inr rfl)) (pss_oneD (ps_asgD (pd_add (p2_ne 4 (pv 4) (pd_lc rfl hN (own := [("_law_t", 8)]) (pid_range1 (pd_var 2 (pv 2)) (by rfl) m_range) (blkOk_by (by kernel_rfl)) (fun _ _ _ _ _ => (pgd_name hN (i := 8) rfl (.inl rfl))) (fun _ _ _ _ _ => ptsd_nil) (fun _ _ _ _ _ => (pd_tup (pad_cons (pd_var 7 (pv 7)) (pad_cons (pd_var 8 (pv 8)) pad_nil))))))) (pgd_name hN (i := 4) rfl (.inl rfl))))) (pss_consD (ps_forD PassesOwn.never rfl (pid_val (pd_var 4 (pv 4))) (pgd_tup rfl (pgs_consD (pgd_name hN (i := 7) rfl (.inr rfl)) (pgs_consD (pgd_name hN (i := 8) rfl (.inr rfl)) pgs_nilD)) rfl) (pss_consD (ps_setLcD (i := 9) rfl hN rfl rfl (by rfl) (own := [("_law_k", 13)]) (pid_val (pd_var 3 (pv 3))) (blkOk_by (by kernel_rfl)) (fun _ _ _ _ _ => (pgd_name hN (i := 13) rfl (.inl rfl))) (fun _ _ _ _ _ => (ptsd_one (c_ne hr.u64 (p2_ee (pd_sub hr.u1 (p2_en 13 (pd_sub hr.u1 (p2_en 7 (pd_sub hr.u1 (p2_ne 0 (pv 0) pd_int) (fun _ _ => rfl) (fun _ _ => rfl)) (pv 7)) (fun _ _ => rfl) (fun _ _ => rfl)) (pv 13)) (fun _ _ => rfl) (fun _ _ => rfl)) (pd_sub hr.u1 (p2_en 13 (pd_sub hr.u1 (p2_en 8 (pd_sub hr.u1 (p2_ne 0 (pv 0) pd_int) (fun _ _ => rfl) (fun _ _ => rfl)) (pv 8)) (fun _ _ => rfl) (fun _ _ => rfl)) (pv 13)) (fun _ _ => rfl) (fun _ _ => rfl)))).t)) (fun _ _ _ _ _ => (pd_var 13 (pv 13)))) (pss_oneD (ps_set2ND (i := 5) (j := 6) hW hr.u64 rfl (pv 5) (pv 6) (pd_tup (pad_cons (pd_if (c_ne hr.u64 (p2_ne 9 (pv 9) (pd_lst pad_nil))).t (pd_tup pad_nil) pd_non) (pad_cons pd_non pad_nil))) (pd_tup (pad_cons (pd_var 7 (pv 7)) (pad_cons (pd_var 8 (pv 8)) pad_nil))) (pd_tup (pad_cons (pd_var 7 (pv 7)) (pad_cons (pd_var 8 (pv 8)) pad_nil))))))) (pss_consD (ps_forD PassesOwn.never rfl (pid_range1 (pd_var 2 (pv 2)) (by rfl) m_range) (pgd_name hN (i := 10) rfl (.inl rfl)) (pss_consD (ps_asgD pd_newN (pgd_name hN (i := 11) rfl (.inl rfl))) (pss_consD (ps_forD PassesOwn.never rfl (pid_val (pd_var 4 (pv 4))) (pgd_tup rfl (pgs_consD (pgd_name hN (i := 7) rfl (.inr rfl)) (pgs_consD (pgd_name hN (i := 8) rfl (.inr rfl)) pgs_nilD)) rfl) (pss_consD (ps_ifD (c_isN (p1_e (pd_subN hW hr.u64 (p2_ne 6 (pv 6) (pd_tup (pad_cons (pd_var 7 (pv 7)) (pad_cons (pd_var 8 (pv 8)) pad_nil)))) (fun _ _ => rfl)))).t (pss_oneD (ps_setND hW hr.u64 (pv 6) (pd_subN hW hr.u64 (p2_ne 5 (pv 5) (pd_tup (pad_cons (pd_var 7 (pv 7)) (pad_cons (pd_var 8 (pv 8)) pad_nil)))) (fun _ _ => rfl)) (pd_tup (pad_cons (pd_var 7 (pv 7)) (pad_cons (pd_var 8 (pv 8)) pad_nil))))) pss_nilD) (pss_consD (ps_setLcD (i := 12) rfl hN rfl rfl (by rfl) (own := [("_law_k", 13)]) (pid_range1 (pd_len (p1_e (pd_sub hr.u1 (p2_ne 0 (pv 0) pd_int) (fun _ _ => rfl) (fun _ _ => rfl))) (by rfl) m_len) (by rfl) m_range) (blkOk_by (by kernel_rfl)) (fun _ _ _ _ _ => (pgd_name hN (i := 13) rfl (.inl rfl))) (fun _ _ _ _ _ => (ptsd_one (c_notN (p1_e (pd_subN hW hr.u64 (p2_ne 5 (pv 5) (pd_tup (pad_cons (pd_sub hr.u1 (p2_en 13 (pd_sub hr.u1 (p2_en 7 (pd_sub hr.u1 (p2_ne 0 (pv 0) pd_int) (fun _ _ => rfl) (fun _ _ => rfl)) (pv 7)) (fun _ _ => rfl) (fun _ _ => rfl)) (pv 13)) (fun _ _ => rfl) (fun _ _ => rfl)) (pad_cons (pd_sub hr.u1 (p2_en 13 (pd_sub hr.u1 (p2_en 8 (pd_sub hr.u1 (p2_ne 0 (pv 0) pd_int) (fun _ _ => rfl) (fun _ _ => rfl)) (pv 8)) (fun _ _ => rfl) (fun _ _ => rfl)) (pv 13)) (fun _ _ => rfl) (fun _ _ => rfl)) pad_nil)))) (fun _ _ => rfl)))).t)) (fun _ _ _ _ _ => (pd_var 13 (pv 13)))) (pss_consD (ps_setND hW hr.u64 (pv 11) pd_non (pd_tup (pad_cons (pd_var 7 (pv 7)) (pad_cons (pd_var 8 (pv 8)) pad_nil)))) (pss_oneD (ps_ifD (c_ne hr.u64 (p2_ne 12 (pv 12) (pd_lst pad_nil))).t (pss_consD (ps_asgD (pd_sub hr.u1 (p2_ne 12 (pv 12) pd_int) (fun _ _ => rfl) (fun _ _ => rfl)) (pgd_name hN (i := 13) rfl (.inl rfl))) (pss_oneD (ps_setND hW hr.u64 (pv 11) (pd_add (p2_ee (pd_tup (pad_cons (pd_sub hr.u1 (p2_en 13 (pd_sub hr.u1 (p2_ne 0 (pv 0) pd_int) (fun _ _ => rfl) (fun _ _ => rfl)) (pv 13)) (fun _ _ => rfl) (fun _ _ => rfl)) pad_nil)) (pd_subN hW hr.u64 (p2_ne 5 (pv 5) (pd_tup (pad_cons (pd_sub hr.u1 (p2_en 13 (pd_sub hr.u1 (p2_en 7 (pd_sub hr.u1 (p2_ne 0 (pv 0) pd_int) (fun _ _ => rfl) (fun _ _ => rfl)) (pv 7)) (fun _ _ => rfl) (fun _ _ => rfl)) (pv 13)) (fun _ _ => rfl) (fun _ _ => rfl)) (pad_cons (pd_sub hr.u1 (p2_en 13 (pd_sub hr.u1 (p2_en 8 (pd_sub hr.u1 (p2_ne 0 (pv 0) pd_int) (fun _ _ => rfl) (fun _ _ => rfl)) (pv 8)) (fun _ _ => rfl) (fun _ _ => rfl)) (pv 13)) (fun _ _ => rfl) (fun _ _ => rfl)) pad_nil)))) (fun _ _ => rfl)))) (pd_tup (pad_cons (pd_var 7 (pv 7)) (pad_cons (pd_var 8 (pv 8)) pad_nil)))))) pss_nilD)))))) (pss_oneD (ps_asgD (pd_var 11 (pv 11)) (pgd_name hN (i := 5) rfl (.inr rfl))))))) (pss_oneD (ps_retVD (i := 6) (pv 6))))))))
abbrev s__law_are_rows_right : Stmt := topS 49
theorem sc__law_are_rows_right : FnScope ["_law_box_here", "_law_best", "_law_due", "_law_told", "_law_s"] ["_law_box_here"] (defScope s__law_are_rows_right) := ⟨rfl, rfl, rfl, by decide +kernel, rfl, by decide +kernel, by decide +kernel⟩
theorem ok__law_are_rows_right {P : Program} {w : World} {K : PySem.W.Frag} {mg : Str → Option Value} {base : Heap} {tb : Addr → Prop} {f : Addr} {fd : FuncData} (F : Fun K "_law_are_rows_right" "_law_are_rows_right" s__law_are_rows_right f fd) (hm : mg "_law_are_rows_right" = some (.ref f)) (m_len : mg "len" = none) (m_range : mg "range" = none) (m_tuple : mg "tuple" = none) (c__law_rows : Cd P w K mg base tb 2 "_law_rows" ["_law_box_here"] [] D__law_rows) (c__law_same : Cd P w K mg base tb 1 "_law_same" ["_law_told", "_law_due"] [] D__law_same) (c_reachable_states : Cd P w K mg base tb 7 "reachable_states" ["machine"] [(["machine"], [0])] D_reachable_states) (c_row_to : Cd P w K mg base tb 8 "row_to" ["machine", "state"] [(["state", "machine"], [1, 0])] D_row_to) :
    Cd P w K mg base tb 9 "_law_are_rows_right" ["_law_box_here"] [] D__law_are_rows_right := by
  refine Cd.ofC (k := 8) (N := ["_law_box_here", "_law_best", "_law_due", "_law_told", "_law_s"]) (bf := B__law_are_rows_right) F hm sc__law_are_rows_right (fun _ _ _ _ _ _ us hl => match us, hl with | [_], _ => rfl) (fun _ hq => nomatch hq) (fun cdv A outer s H hcd hr hgd Γ hT => ?_)
  have hN := sc__law_are_rows_right.nd
  exact (pss_consD (ps_asgD (pd_cd c__law_rows hT (hr.mono (by decide)) hgd (by rfl) (pad_cons (pd_var 0 (pv 0)) pad_nil)) (pgd_name hN (i := 1) rfl (.inr rfl))) (pss_consD (ps_asgD (pd_tupleOf (p1_e (pd_lc rfl hN (own := [("_law_s", 4)]) (pid_range1 (pd_len (p1_n 1 (pv 1)) (by rfl) m_len) (by rfl) m_range) (blkOk_by (by kernel_rfl)) (fun _ _ _ _ _ => (pgd_name hN (i := 4) rfl (.inl rfl))) (fun _ _ _ _ _ => (ptsd_one (c_notN (p1_e (pd_sub hr.u1 (p2_nn 1 4 (pv 1) (pv 4)) (fun _ _ => rfl) (fun _ _ => rfl)))).t)) (fun _ _ _ _ _ => (pd_var 4 (pv 4))))) (by rfl) m_tuple) (pgd_name hN (i := 2) rfl (.inl rfl))) (pss_consD (ps_asgD (pd_lst (pad_cons (pd_cd c_reachable_states hT (hr.mono (by decide)) hgd (by rfl) (pad_cons (pd_var 0 (pv 0)) pad_nil)) (pad_cons (pd_cdK (ks := ["machine"]) [0] c_reachable_states hT (List.mem_singleton.mpr rfl) (hr.mono (by decide)) hgd (by rfl) (pkd_cons (pd_var 0 (pv 0)) pkd_nil)) pad_nil))) (pgd_name hN (i := 3) rfl (.inl rfl))) (pss_consD (ps_asgD (pd_add (p2_ne 3 (pv 3) (pd_lc rfl hN (own := [("_law_s", 4)]) (pid_range1 (pd_len (p1_n 1 (pv 1)) (by rfl) m_len) (by rfl) m_range) (blkOk_by (by kernel_rfl)) (fun _ _ _ _ _ => (pgd_name hN (i := 4) rfl (.inl rfl))) (fun _ _ _ _ _ => ptsd_nil) (fun _ _ _ _ _ => (pd_cd c_row_to hT (hr.mono (by decide)) hgd (by rfl) (pad_cons (pd_var 0 (pv 0)) (pad_cons (pd_var 4 (pv 4)) pad_nil))))))) (pgd_name hN (i := 3) rfl (.inl rfl))) (pss_consD (ps_exprD (pd_append (pv 3) (pd_cdK (ks := ["state", "machine"]) [1, 0] c_row_to hT (List.mem_singleton.mpr rfl) (hr.mono (by decide)) hgd (by rfl) (pkd_cons (pd_subI (p2_ee (pd_len (p1_n 1 (pv 1)) (by rfl) m_len) pd_int)) (pkd_cons (pd_var 0 (pv 0)) pkd_nil))))) (pss_oneD (ps_retD (pd_cd c__law_same hT (hr.mono (by decide)) hgd (by rfl) (pad_cons (pd_var 3 (pv 3)) (pad_cons (pd_add (p2_ee (pd_add (p2_en 1 (pd_lst (pad_cons (pd_var 2 (pv 2)) (pad_cons (pd_var 2 (pv 2)) pad_nil))) (pv 1))) (pd_lst (pad_cons (pd_sub hr.u1 (p2_ne 1 (pv 1) (pd_neg pd_int)) (fun _ _ => rfl) (fun _ _ => rfl)) pad_nil)))) pad_nil))))))))))
abbrev s__law_are_alike_right : Stmt := topS 50
theorem sc__law_are_alike_right : FnScope ["_law_feed_here", "_law_box_here", "_law_some", "_law_best", "_law_many", "_law_due", "_law_told", "_law_lap", "_law_s", "_law_t", "_law_late_here"] ["_law_feed_here", "_law_box_here", "_law_some"] (defScope s__law_are_alike_right) := ⟨rfl, rfl, rfl, by decide +kernel, rfl, by decide +kernel, by decide +kernel⟩
theorem ok__law_are_alike_right {P : Program} {w : World} {K : PySem.W.Frag} {mg : Str → Option Value} {base : Heap} {tb : Addr → Prop} {f : Addr} {fd : FuncData} (F : Fun K "_law_are_alike_right" "_law_are_alike_right" s__law_are_alike_right f fd) (hm : mg "_law_are_alike_right" = some (.ref f)) (hW : w = TheW.w) (m_len : mg "len" = none) (m_min : mg "min" = none) (m_range : mg "range" = none) (m_tuple : mg "tuple" = none) (c__law_draw : Cd P w K mg base tb 1 "_law_draw" ["_law_feed_here", "_law_size"] [] D__law_draw) (c__law_parted : Cd P w K mg base tb 1 "_law_parted" ["_law_box_here", "_law_some"] [] D__law_parted) (c__law_same : Cd P w K mg base tb 1 "_law_same" ["_law_told", "_law_due"] [] D__law_same) (c_alike_classes : Cd P w K mg base tb 8 "alike_classes" ["machine", "looks"] [(["looks", "machine"], [1, 0])] D_alike_classes) (c_are_alike : Cd P w K mg base tb 9 "are_alike" ["machine", "state", "other", "looks"] [(["looks", "other", "state", "machine"], [3, 2, 1, 0])] D_are_alike) (c_parting_row : Cd P w K mg base tb 9 "parting_row" ["machine", "state", "other", "looks"] [(["looks", "other", "state", "machine"], [3, 2, 1, 0])] D_parting_row) :
    Cd P w K mg base tb 10 "_law_are_alike_right" ["_law_feed_here", "_law_box_here", "_law_some"] [] D__law_are_alike_right := by
  refine Cd.ofC (k := 9) (N := ["_law_feed_here", "_law_box_here", "_law_some", "_law_best", "_law_many", "_law_due", "_law_told", "_law_lap", "_law_s", "_law_t", "_law_late_here"]) (bf := B__law_are_alike_right) F hm sc__law_are_alike_right (fun _ _ _ _ _ _ us hl => match us, hl with | [_, _, _], _ => rfl) (fun _ hq => nomatch hq) (fun cdv A outer s H hcd hr hgd Γ hT => ?_)
  have hN := sc__law_are_alike_right.nd
  exact (pss_consD (ps_parC (i := 3) (j := 4) rfl hN rfl rfl (.inr rfl) (.inr rfl) (pd_cd c__law_parted hT (hr.mono (by decide)) hgd (by rfl) (pad_cons (pd_var 1 (pv 1)) (pad_cons (pd_var 2 (pv 2)) pad_nil))) (pd_len (p1_e (pd_sub hr.u1 (p2_ne 1 (pv 1) pd_int) (fun _ _ => rfl) (fun _ _ => rfl))) (by rfl) m_len) (by rfl)) (pss_consD (ps_setLcD (i := 5) rfl hN rfl rfl (by rfl) (own := [("_law_s", 8)]) (pid_range1 (pd_var 4 (pv 4)) (by rfl) m_range) (blkOk_by (by kernel_rfl)) (fun _ _ _ _ _ => (pgd_name hN (i := 8) rfl (.inr rfl))) (fun _ _ _ _ _ => ptsd_nil) (fun _ _ _ _ _ => (pd_min rfl (p1_e (pd_lc rfl hN (own := [("_law_t", 9)]) (pid_range1 (pd_var 4 (pv 4)) (by rfl) m_range) (blkOk_by (by kernel_rfl)) (fun _ _ _ _ _ => (pgd_name hN (i := 9) rfl (.inl rfl))) (fun _ _ _ _ _ => (ptsd_one (c_isN (p1_e (pd_subN hW hr.u64 (p2_ne 3 (pv 3) (pd_tup (pad_cons (pd_var 8 (pv 8)) (pad_cons (pd_var 9 (pv 9)) pad_nil)))) (fun _ _ => rfl)))).t)) (fun _ _ _ _ _ => (pd_var 9 (pv 9))))) (by rfl) m_min))) (pss_consD (ps_asgD (pd_lst (pad_cons (pd_cd c_alike_classes hT (hr.mono (by decide)) hgd (by rfl) (pad_cons (pd_var 1 (pv 1)) (pad_cons (pd_var 2 (pv 2)) pad_nil))) (pad_cons (pd_cdK (ks := ["looks", "machine"]) [1, 0] c_alike_classes hT (List.mem_singleton.mpr rfl) (hr.mono (by decide)) hgd (by rfl) (pkd_cons (pd_var 2 (pv 2)) (pkd_cons (pd_var 1 (pv 1)) pkd_nil))) pad_nil))) (pgd_name hN (i := 6) rfl (.inl rfl))) (pss_consD (ps_ifD (ptd_not (pt_tru (p1_e (pd_cd c__law_same hT (hr.mono (by decide)) hgd (by rfl) (pad_cons (pd_var 6 (pv 6)) (pad_cons (pd_lst (pad_cons (pd_tupleOf (p1_n 5 (pv 5)) (by rfl) m_tuple) (pad_cons (pd_tupleOf (p1_n 5 (pv 5)) (by rfl) m_tuple) pad_nil))) pad_nil)))))) (pss_oneD (ps_retD pd_bl)) pss_nilD) (pss_consD (ps_forD PassesOwn.never rfl (pid_range1 pd_int (by rfl) m_range) (pgd_name hN (i := 7) rfl (.inl rfl)) (pss_consD (ps_parD (i := 8) (j := 9) rfl hN rfl rfl (by decide) rfl rfl (pd_cd c__law_draw hT (hr.mono (by decide)) hgd (by rfl) (pad_cons (pd_var 0 (pv 0)) (pad_cons (pd_var 4 (pv 4)) pad_nil))) (pd_cd c__law_draw hT (hr.mono (by decide)) hgd (by rfl) (pad_cons (pd_var 0 (pv 0)) (pad_cons (pd_var 4 (pv 4)) pad_nil))) (by rfl)) (pss_consD (ps_asgD (pd_lst (pad_cons (pd_cd c_are_alike hT (hr.mono (by decide)) hgd (by rfl) (pad_cons (pd_var 1 (pv 1)) (pad_cons (pd_var 8 (pv 8)) (pad_cons (pd_var 9 (pv 9)) (pad_cons (pd_var 2 (pv 2)) pad_nil))))) (pad_cons (pd_cdK (ks := ["looks", "other", "state", "machine"]) [3, 2, 1, 0] c_are_alike hT (List.mem_singleton.mpr rfl) (hr.mono (by decide)) hgd (by rfl) (pkd_cons (pd_var 2 (pv 2)) (pkd_cons (pd_var 9 (pv 9)) (pkd_cons (pd_var 8 (pv 8)) (pkd_cons (pd_var 1 (pv 1)) pkd_nil))))) pad_nil))) (pgd_name hN (i := 6) rfl (.inl rfl))) (pss_consD (ps_asgD (pd_add (p2_ne 6 (pv 6) (pd_lst (pad_cons (pd_cd c_parting_row hT (hr.mono (by decide)) hgd (by rfl) (pad_cons (pd_var 1 (pv 1)) (pad_cons (pd_var 8 (pv 8)) (pad_cons (pd_var 9 (pv 9)) (pad_cons (pd_var 2 (pv 2)) pad_nil))))) (pad_cons (pd_cdK (ks := ["looks", "other", "state", "machine"]) [3, 2, 1, 0] c_parting_row hT (List.mem_singleton.mpr rfl) (hr.mono (by decide)) hgd (by rfl) (pkd_cons (pd_var 2 (pv 2)) (pkd_cons (pd_var 9 (pv 9)) (pkd_cons (pd_var 8 (pv 8)) (pkd_cons (pd_var 1 (pv 1)) pkd_nil))))) pad_nil))))) (pgd_name hN (i := 6) rfl (.inl rfl))) (pss_consD (ps_exprD (pd_append (pv 6) (pd_cd c_parting_row hT (hr.mono (by decide)) hgd (by rfl) (pad_cons (pd_var 1 (pv 1)) (pad_cons (pd_var 9 (pv 9)) (pad_cons (pd_var 8 (pv 8)) (pad_cons (pd_var 2 (pv 2)) pad_nil))))))) (pss_consD (ps_asgD (pd_subN hW hr.u64 (p2_ne 3 (pv 3) (pd_tup (pad_cons (pd_var 8 (pv 8)) (pad_cons (pd_var 9 (pv 9)) pad_nil)))) (fun _ _ => rfl)) (pgd_name hN (i := 10) rfl (.inl rfl))) (pss_oneD (ps_ifD (ptd_not (pt_tru (p1_e (pd_cd c__law_same hT (hr.mono (by decide)) hgd (by rfl) (pad_cons (pd_var 6 (pv 6)) (pad_cons (pd_lst (pad_cons (c_isN (p1_n 10 (pv 10))).v (pad_cons (c_isN (p1_n 10 (pv 10))).v (pad_cons (pd_var 10 (pv 10)) (pad_cons (pd_var 10 (pv 10)) (pad_cons (pd_var 10 (pv 10)) pad_nil)))))) pad_nil)))))) (pss_oneD (ps_retD pd_bl)) pss_nilD)))))))) (pss_oneD (ps_retD pd_bl)))))))
end Q6

set_option Elab.async false
set_option linter.all false
set_option maxRecDepth 100000
set_option maxHeartbeats 0
namespace Q6
open PySem PySem.Spec PyProof.Rows L2 PD
variable [TheW]
theorem facts {P : Program} {w : World} {K : PySem.W.Frag} {h : Heap} {mg : Str → Option Value} {f : Addr} (hW : w = TheW.w) (X : K.In h) (G : h.Ns mainGlobals mg) (hfa : mg ("law" : Str) = some (.ref f)) (cx : He.SaysX faL fnA [] tfL (fun _ => true) w h K)
    (hrun : ∀ fs : FS, ∃ s', B_law ⟨none :: some .fd :: List.replicate 5 none, fs⟩ = some (.rt (.val (.bool true)) s')) :
    ∃ fd : FuncData, (∀ (s : Shared) (v : Value), BindsTo s fd ⟨[v], []⟩ [("_law_script", v)]) ∧ ∀ base : Heap, K.In base → base.Ns mainGlobals mg → (∀ p ∈ tfL.map (He.cT K), GxR.TabB base mg p.1 p.2) → FnG P w K mg base 11 f fd ["_law_script"] (spLaw K (tbs K)) := by
  have c : He.SaysD faL fnA K := cx.t.d
  have m_all : mg "all" = none := He.free_ok X G (c.fact 42 rfl)
  have m_bool : mg "bool" = none := He.free_ok X G (c.fact 43 rfl)
  have m_enumerate : mg "enumerate" = none := He.free_ok X G (c.fact 44 rfl)
  have m_int : mg "int" = none := He.free_ok X G (c.fact 45 rfl)
  have m_isinstance : mg "isinstance" = none := He.free_ok X G (c.fact 46 rfl)
  have m_len : mg "len" = none := He.free_ok X G (c.fact 47 rfl)
  have m_list : mg "list" = none := He.free_ok X G (c.fact 48 rfl)
  have m_max : mg "max" = none := He.free_ok X G (c.fact 49 rfl)
  have m_min : mg "min" = none := He.free_ok X G (c.fact 50 rfl)
  have m_range : mg "range" = none := He.free_ok X G (c.fact 51 rfl)
  have m_repr : mg "repr" = none := He.free_ok X G (c.fact 52 rfl)
  have m_sorted : mg "sorted" = none := He.free_ok X G (c.fact 53 rfl)
  have m_str : mg "str" = none := He.free_ok X G (c.fact 54 rfl)
  have m_tuple : mg "tuple" = none := He.free_ok X G (c.fact 55 rfl)
  have m_zip : mg "zip" = none := He.free_ok X G (c.fact 56 rfl)
  obtain ⟨t_LOWERCASE, g_LOWERCASE⟩ := He.str_ok X G (c.fact 57 rfl)
  obtain ⟨fd_is_integer, F_is_integer⟩ := c.def_ 0 (d := d_at_is_integer) rfl
  have z_is_integer : Fun K "is_integer" "is_integer" (topS 2) (He.ga K "is_integer") fd_is_integer := fun_of (x := "is_integer") (qual := "is_integer") (st := topS 2) F_is_integer
  have a_is_integer : mg "is_integer" = some (.ref (He.ga K "is_integer")) := He.glo_ok X G (c.fact 0 rfl)
  obtain ⟨fd_is_number, F_is_number⟩ := c.def_ 1 (d := d_at_is_number) rfl
  have z_is_number : Fun K "is_number" "is_number" (topS 3) (He.ga K "is_number") fd_is_number := fun_of (x := "is_number") (qual := "is_number") (st := topS 3) F_is_number
  have a_is_number : mg "is_number" = some (.ref (He.ga K "is_number")) := He.glo_ok X G (c.fact 1 rfl)
  obtain ⟨fd_is_name, F_is_name⟩ := c.def_ 2 (d := d_at_is_name) rfl
  have z_is_name : Fun K "is_name" "is_name" (topS 4) (He.ga K "is_name") fd_is_name := fun_of (x := "is_name") (qual := "is_name") (st := topS 4) F_is_name
  have a_is_name : mg "is_name" = some (.ref (He.ga K "is_name")) := He.glo_ok X G (c.fact 2 rfl)
  obtain ⟨fd_is_tuple, F_is_tuple⟩ := c.def_ 3 (d := d_at_is_tuple) rfl
  have z_is_tuple : Fun K "is_tuple" "is_tuple" (topS 5) (He.ga K "is_tuple") fd_is_tuple := fun_of (x := "is_tuple") (qual := "is_tuple") (st := topS 5) F_is_tuple
  have a_is_tuple : mg "is_tuple" = some (.ref (He.ga K "is_tuple")) := He.glo_ok X G (c.fact 3 rfl)
  obtain ⟨fd_ascends, F_ascends⟩ := c.def_ 4 (d := d_at_ascends) rfl
  have z_ascends : Fun K "ascends" "ascends" (topS 6) (He.ga K "ascends") fd_ascends := fun_of (x := "ascends") (qual := "ascends") (st := topS 6) F_ascends
  have a_ascends : mg "ascends" = some (.ref (He.ga K "ascends")) := He.glo_ok X G (c.fact 4 rfl)
  obtain ⟨fd_are_names, F_are_names⟩ := c.def_ 5 (d := d_at_are_names) rfl
  have z_are_names : Fun K "are_names" "are_names" (topS 7) (He.ga K "are_names") fd_are_names := fun_of (x := "are_names") (qual := "are_names") (st := topS 7) F_are_names
  have a_are_names : mg "are_names" = some (.ref (He.ga K "are_names")) := He.glo_ok X G (c.fact 5 rfl)
  obtain ⟨fd_is_set_of, F_is_set_of⟩ := c.def_ 6 (d := d_at_is_set_of) rfl
  have z_is_set_of : Fun K "is_set_of" "is_set_of" (topS 8) (He.ga K "is_set_of") fd_is_set_of := fun_of (x := "is_set_of") (qual := "is_set_of") (st := topS 8) F_is_set_of
  have a_is_set_of : mg "is_set_of" = some (.ref (He.ga K "is_set_of")) := He.glo_ok X G (c.fact 6 rfl)
  obtain ⟨fd_is_machine, F_is_machine⟩ := c.def_ 7 (d := d_at_is_machine) rfl
  have z_is_machine : Fun K "is_machine" "is_machine" (topS 9) (He.ga K "is_machine") fd_is_machine := fun_of (x := "is_machine") (qual := "is_machine") (st := topS 9) F_is_machine
  have a_is_machine : mg "is_machine" = some (.ref (He.ga K "is_machine")) := He.glo_ok X G (c.fact 7 rfl)
  obtain ⟨fd_machine_fault, F_machine_fault⟩ := c.def_ 8 (d := d_at_machine_fault) rfl
  have z_machine_fault : Fun K "machine_fault" "machine_fault" (topS 10) (He.ga K "machine_fault") fd_machine_fault := fun_of (x := "machine_fault") (qual := "machine_fault") (st := topS 10) F_machine_fault
  have a_machine_fault : mg "machine_fault" = some (.ref (He.ga K "machine_fault")) := He.glo_ok X G (c.fact 8 rfl)
  obtain ⟨fd_are_numbers, F_are_numbers⟩ := c.def_ 9 (d := d_at_are_numbers) rfl
  have z_are_numbers : Fun K "are_numbers" "are_numbers" (topS 11) (He.ga K "are_numbers") fd_are_numbers := fun_of (x := "are_numbers") (qual := "are_numbers") (st := topS 11) F_are_numbers
  have a_are_numbers : mg "are_numbers" = some (.ref (He.ga K "are_numbers")) := He.glo_ok X G (c.fact 9 rfl)
  obtain ⟨fd_is_index, F_is_index⟩ := c.def_ 10 (d := d_at_is_index) rfl
  have z_is_index : Fun K "is_index" "is_index" (topS 12) (He.ga K "is_index") fd_is_index := fun_of (x := "is_index") (qual := "is_index") (st := topS 12) F_is_index
  have a_is_index : mg "is_index" = some (.ref (He.ga K "is_index")) := He.glo_ok X G (c.fact 10 rfl)
  obtain ⟨fd_is_state, F_is_state⟩ := c.def_ 11 (d := d_at_is_state) rfl
  have z_is_state : Fun K "is_state" "is_state" (topS 13) (He.ga K "is_state") fd_is_state := fun_of (x := "is_state") (qual := "is_state") (st := topS 13) F_is_state
  have a_is_state : mg "is_state" = some (.ref (He.ga K "is_state")) := He.glo_ok X G (c.fact 11 rfl)
  obtain ⟨fd_need, F_need⟩ := c.def_ 12 (d := d_at_need) rfl
  have z_need : Fun K "need" "need" (topS 19) (He.ga K "need") fd_need := fun_of (x := "need") (qual := "need") (st := topS 19) F_need
  have a_need : mg "need" = some (.ref (He.ga K "need")) := He.glo_ok X G (c.fact 12 rfl)
  obtain ⟨fd_need_machine, F_need_machine⟩ := c.def_ 13 (d := d_at_need_machine) rfl
  have z_need_machine : Fun K "need_machine" "need_machine" (topS 20) (He.ga K "need_machine") fd_need_machine := fun_of (x := "need_machine") (qual := "need_machine") (st := topS 20) F_need_machine
  have a_need_machine : mg "need_machine" = some (.ref (He.ga K "need_machine")) := He.glo_ok X G (c.fact 13 rfl)
  obtain ⟨fd_need_state, F_need_state⟩ := c.def_ 14 (d := d_at_need_state) rfl
  have z_need_state : Fun K "need_state" "need_state" (topS 21) (He.ga K "need_state") fd_need_state := fun_of (x := "need_state") (qual := "need_state") (st := topS 21) F_need_state
  have a_need_state : mg "need_state" = some (.ref (He.ga K "need_state")) := He.glo_ok X G (c.fact 14 rfl)
  obtain ⟨fd_need_looks, F_need_looks⟩ := c.def_ 15 (d := d_at_need_looks) rfl
  have z_need_looks : Fun K "need_looks" "need_looks" (topS 22) (He.ga K "need_looks") fd_need_looks := fun_of (x := "need_looks") (qual := "need_looks") (st := topS 22) F_need_looks
  have a_need_looks : mg "need_looks" = some (.ref (He.ga K "need_looks")) := He.glo_ok X G (c.fact 15 rfl)
  obtain ⟨fd_need_two_states, F_need_two_states⟩ := c.def_ 16 (d := d_at_need_two_states) rfl
  have z_need_two_states : Fun K "need_two_states" "need_two_states" (topS 23) (He.ga K "need_two_states") fd_need_two_states := fun_of (x := "need_two_states") (qual := "need_two_states") (st := topS 23) F_need_two_states
  have a_need_two_states : mg "need_two_states" = some (.ref (He.ga K "need_two_states")) := He.glo_ok X G (c.fact 16 rfl)
  obtain ⟨fd_reachable_states, F_reachable_states⟩ := c.def_ 17 (d := d_at_reachable_states) rfl
  have z_reachable_states : Fun K "reachable_states" "reachable_states" (topS 25) (He.ga K "reachable_states") fd_reachable_states := fun_of (x := "reachable_states") (qual := "reachable_states") (st := topS 25) F_reachable_states
  have a_reachable_states : mg "reachable_states" = some (.ref (He.ga K "reachable_states")) := He.glo_ok X G (c.fact 17 rfl)
  obtain ⟨fd_row_to, F_row_to⟩ := c.def_ 18 (d := d_at_row_to) rfl
  have z_row_to : Fun K "row_to" "row_to" (topS 26) (He.ga K "row_to") fd_row_to := fun_of (x := "row_to") (qual := "row_to") (st := topS 26) F_row_to
  have a_row_to : mg "row_to" = some (.ref (He.ga K "row_to")) := He.glo_ok X G (c.fact 18 rfl)
  obtain ⟨fd_least_rows, F_least_rows⟩ := c.def_ 19 (d := d_at_least_rows) rfl
  have z_least_rows : Fun K "least_rows" "least_rows" (topS 27) (He.ga K "least_rows") fd_least_rows := fun_of (x := "least_rows") (qual := "least_rows") (st := topS 27) F_least_rows
  have a_least_rows : mg "least_rows" = some (.ref (He.ga K "least_rows")) := He.glo_ok X G (c.fact 19 rfl)
  obtain ⟨fd_alike_classes, F_alike_classes⟩ := c.def_ 20 (d := d_at_alike_classes) rfl
  have z_alike_classes : Fun K "alike_classes" "alike_classes" (topS 29) (He.ga K "alike_classes") fd_alike_classes := fun_of (x := "alike_classes") (qual := "alike_classes") (st := topS 29) F_alike_classes
  have a_alike_classes : mg "alike_classes" = some (.ref (He.ga K "alike_classes")) := He.glo_ok X G (c.fact 20 rfl)
  obtain ⟨fd_are_alike, F_are_alike⟩ := c.def_ 21 (d := d_at_are_alike) rfl
  have z_are_alike : Fun K "are_alike" "are_alike" (topS 30) (He.ga K "are_alike") fd_are_alike := fun_of (x := "are_alike") (qual := "are_alike") (st := topS 30) F_are_alike
  have a_are_alike : mg "are_alike" = some (.ref (He.ga K "are_alike")) := He.glo_ok X G (c.fact 21 rfl)
  obtain ⟨fd_parting_row, F_parting_row⟩ := c.def_ 22 (d := d_at_parting_row) rfl
  have z_parting_row : Fun K "parting_row" "parting_row" (topS 31) (He.ga K "parting_row") fd_parting_row := fun_of (x := "parting_row") (qual := "parting_row") (st := topS 31) F_parting_row
  have a_parting_row : mg "parting_row" = some (.ref (He.ga K "parting_row")) := He.glo_ok X G (c.fact 22 rfl)
  obtain ⟨fd_answers_to, F_answers_to⟩ := c.def_ 23 (d := d_at_answers_to) rfl
  have z_answers_to : Fun K "answers_to" "answers_to" (topS 32) (He.ga K "answers_to") fd_answers_to := fun_of (x := "answers_to") (qual := "answers_to") (st := topS 32) F_answers_to
  have a_answers_to : mg "answers_to" = some (.ref (He.ga K "answers_to")) := He.glo_ok X G (c.fact 23 rfl)
  obtain ⟨fd_least_with, F_least_with⟩ := c.def_ 24 (d := d_at_least_with) rfl
  have z_least_with : Fun K "least_with" "least_with" (topS 33) (He.ga K "least_with") fd_least_with := fun_of (x := "least_with") (qual := "least_with") (st := topS 33) F_least_with
  have a_least_with : mg "least_with" = some (.ref (He.ga K "least_with")) := He.glo_ok X G (c.fact 24 rfl)
  obtain ⟨fd_classes_by, F_classes_by⟩ := c.def_ 25 (d := d_at_classes_by) rfl
  have z_classes_by : Fun K "classes_by" "classes_by" (topS 34) (He.ga K "classes_by") fd_classes_by := fun_of (x := "classes_by") (qual := "classes_by") (st := topS 34) F_classes_by
  have a_classes_by : mg "classes_by" = some (.ref (He.ga K "classes_by")) := He.glo_ok X G (c.fact 25 rfl)
  obtain ⟨fd_least_parting, F_least_parting⟩ := c.def_ 26 (d := d_at_least_parting) rfl
  have z_least_parting : Fun K "least_parting" "least_parting" (topS 35) (He.ga K "least_parting") fd_least_parting := fun_of (x := "least_parting") (qual := "least_parting") (st := topS 35) F_least_parting
  have a_least_parting : mg "least_parting" = some (.ref (He.ga K "least_parting")) := He.glo_ok X G (c.fact 26 rfl)
  obtain ⟨fd__law_feed, F__law_feed⟩ := c.def_ 27 (d := d_at__law_feed) rfl
  have z__law_feed : Fun K "_law_feed" "_law_feed" (topS 37) (He.ga K "_law_feed") fd__law_feed := fun_of (x := "_law_feed") (qual := "_law_feed") (st := topS 37) F__law_feed
  have a__law_feed : mg "_law_feed" = some (.ref (He.ga K "_law_feed")) := He.glo_ok X G (c.fact 27 rfl)
  obtain ⟨fd__law_draw, F__law_draw⟩ := c.def_ 28 (d := d_at__law_draw) rfl
  have z__law_draw : Fun K "_law_draw" "_law_draw" (topS 38) (He.ga K "_law_draw") fd__law_draw := fun_of (x := "_law_draw") (qual := "_law_draw") (st := topS 38) F__law_draw
  have a__law_draw : mg "_law_draw" = some (.ref (He.ga K "_law_draw")) := He.glo_ok X G (c.fact 28 rfl)
  obtain ⟨fd__law_any, F__law_any⟩ := c.def_ 29 (d := d_at__law_any) rfl
  have z__law_any : Fun K "_law_any" "_law_any" (topS 39) (He.ga K "_law_any") fd__law_any := fun_of (x := "_law_any") (qual := "_law_any") (st := topS 39) F__law_any
  have a__law_any : mg "_law_any" = some (.ref (He.ga K "_law_any")) := He.glo_ok X G (c.fact 29 rfl)
  obtain ⟨fd__law_same, F__law_same⟩ := c.def_ 30 (d := d_at__law_same) rfl
  have z__law_same : Fun K "_law_same" "_law_same" (topS 40) (He.ga K "_law_same") fd__law_same := fun_of (x := "_law_same") (qual := "_law_same") (st := topS 40) F__law_same
  have a__law_same : mg "_law_same" = some (.ref (He.ga K "_law_same")) := He.glo_ok X G (c.fact 30 rfl)
  obtain ⟨fd__law_name, F__law_name⟩ := c.def_ 31 (d := d_at__law_name) rfl
  have z__law_name : Fun K "_law_name" "_law_name" (topS 41) (He.ga K "_law_name") fd__law_name := fun_of (x := "_law_name") (qual := "_law_name") (st := topS 41) F__law_name
  have a__law_name : mg "_law_name" = some (.ref (He.ga K "_law_name")) := He.glo_ok X G (c.fact 31 rfl)
  obtain ⟨fd__law_names, F__law_names⟩ := c.def_ 32 (d := d_at__law_names) rfl
  have z__law_names : Fun K "_law_names" "_law_names" (topS 42) (He.ga K "_law_names") fd__law_names := fun_of (x := "_law_names") (qual := "_law_names") (st := topS 42) F__law_names
  have a__law_names : mg "_law_names" = some (.ref (He.ga K "_law_names")) := He.glo_ok X G (c.fact 32 rfl)
  obtain ⟨fd__law_shape, F__law_shape⟩ := c.def_ 33 (d := d_at__law_shape) rfl
  have z__law_shape : Fun K "_law_shape" "_law_shape" (topS 43) (He.ga K "_law_shape") fd__law_shape := fun_of (x := "_law_shape") (qual := "_law_shape") (st := topS 43) F__law_shape
  have a__law_shape : mg "_law_shape" = some (.ref (He.ga K "_law_shape")) := He.glo_ok X G (c.fact 33 rfl)
  obtain ⟨fd__law_seen, F__law_seen⟩ := c.def_ 34 (d := d_at__law_seen) rfl
  have z__law_seen : Fun K "_law_seen" "_law_seen" (topS 44) (He.ga K "_law_seen") fd__law_seen := fun_of (x := "_law_seen") (qual := "_law_seen") (st := topS 44) F__law_seen
  have a__law_seen : mg "_law_seen" = some (.ref (He.ga K "_law_seen")) := He.glo_ok X G (c.fact 34 rfl)
  obtain ⟨fd__law_box, F__law_box⟩ := c.def_ 35 (d := d_at__law_box) rfl
  have z__law_box : Fun K "_law_box" "_law_box" (topS 45) (He.ga K "_law_box") fd__law_box := fun_of (x := "_law_box") (qual := "_law_box") (st := topS 45) F__law_box
  have a__law_box : mg "_law_box" = some (.ref (He.ga K "_law_box")) := He.glo_ok X G (c.fact 35 rfl)
  obtain ⟨fd__law_late, F__law_late⟩ := c.def_ 36 (d := d_at__law_late) rfl
  have z__law_late : Fun K "_law_late" "_law_late" (topS 46) (He.ga K "_law_late") fd__law_late := fun_of (x := "_law_late") (qual := "_law_late") (st := topS 46) F__law_late
  have a__law_late : mg "_law_late" = some (.ref (He.ga K "_law_late")) := He.glo_ok X G (c.fact 36 rfl)
  obtain ⟨fd__law_rows, F__law_rows⟩ := c.def_ 37 (d := d_at__law_rows) rfl
  have z__law_rows : Fun K "_law_rows" "_law_rows" (topS 47) (He.ga K "_law_rows") fd__law_rows := fun_of (x := "_law_rows") (qual := "_law_rows") (st := topS 47) F__law_rows
  have a__law_rows : mg "_law_rows" = some (.ref (He.ga K "_law_rows")) := He.glo_ok X G (c.fact 37 rfl)
  obtain ⟨fd__law_parted, F__law_parted⟩ := c.def_ 38 (d := d_at__law_parted) rfl
  have z__law_parted : Fun K "_law_parted" "_law_parted" (topS 48) (He.ga K "_law_parted") fd__law_parted := fun_of (x := "_law_parted") (qual := "_law_parted") (st := topS 48) F__law_parted
  have a__law_parted : mg "_law_parted" = some (.ref (He.ga K "_law_parted")) := He.glo_ok X G (c.fact 38 rfl)
  obtain ⟨fd__law_are_rows_right, F__law_are_rows_right⟩ := c.def_ 39 (d := d_at__law_are_rows_right) rfl
  have z__law_are_rows_right : Fun K "_law_are_rows_right" "_law_are_rows_right" (topS 49) (He.ga K "_law_are_rows_right") fd__law_are_rows_right := fun_of (x := "_law_are_rows_right") (qual := "_law_are_rows_right") (st := topS 49) F__law_are_rows_right
  have a__law_are_rows_right : mg "_law_are_rows_right" = some (.ref (He.ga K "_law_are_rows_right")) := He.glo_ok X G (c.fact 39 rfl)
  obtain ⟨fd__law_are_alike_right, F__law_are_alike_right⟩ := c.def_ 40 (d := d_at__law_are_alike_right) rfl
  have z__law_are_alike_right : Fun K "_law_are_alike_right" "_law_are_alike_right" (topS 50) (He.ga K "_law_are_alike_right") fd__law_are_alike_right := fun_of (x := "_law_are_alike_right") (qual := "_law_are_alike_right") (st := topS 50) F__law_are_alike_right
  have a__law_are_alike_right : mg "_law_are_alike_right" = some (.ref (He.ga K "_law_are_alike_right")) := He.glo_ok X G (c.fact 40 rfl)
  obtain ⟨fd_law, F_law⟩ := c.def_ 41 (d := d_at_law) rfl
  have z_law : Fun K "law" "law" (topS 51) (He.ga K "law") fd_law := fun_of (x := "law") (qual := "law") (st := topS 51) F_law
  have a_law : mg "law" = some (.ref (He.ga K "law")) := He.glo_ok X G (c.fact 41 rfl)
  have el := hfa.symm.trans a_law
  cases el
  refine ⟨fd_law, fun s v => FunD.bindsA (ps := ["_law_script"]) F_law (fun _ _ _ _ _ _ us hl => match us, hl with | [_], _ => rfl) s [v] rfl, fun base _ _ hTB => ?_⟩
  have e_answers_to : (("answers_to", none) : He.Defn) ∈ tfL := by simp [tfL]
  have T_answers_to : GxR.TabB base mg (He.codeOf K ("answers_to", none)) (He.cT K ("answers_to", none)).2 := hTB _ (List.mem_map.mpr ⟨_, e_answers_to, rfl⟩)
  have u_answers_to : tbs K (He.cT K ("answers_to", none)).2 := ⟨_, e_answers_to, rfl⟩
  have C_answers_to : fd_answers_to.code = .ref (He.codeOf K ("answers_to", none)) := fun_code (p := ("answers_to", none)) z_answers_to
  have e_least_with : (("least_with", none) : He.Defn) ∈ tfL := by simp [tfL]
  have T_least_with : GxR.TabB base mg (He.codeOf K ("least_with", none)) (He.cT K ("least_with", none)).2 := hTB _ (List.mem_map.mpr ⟨_, e_least_with, rfl⟩)
  have u_least_with : tbs K (He.cT K ("least_with", none)).2 := ⟨_, e_least_with, rfl⟩
  have C_least_with : fd_least_with.code = .ref (He.codeOf K ("least_with", none)) := fun_code (p := ("least_with", none)) z_least_with
  have c__law_draw := ok__law_draw (P := P) (w := w) (base := base) (tb := tbs K) z__law_draw a__law_draw m_int m_len
  have c__law_any := ok__law_any (P := P) (w := w) (base := base) (tb := tbs K) z__law_any a__law_any m_len c__law_draw
  have c__law_parted := ok__law_parted (P := P) (w := w) (base := base) (tb := tbs K) z__law_parted a__law_parted hW m_len m_range
  have c__law_same := ok__law_same (P := P) (w := w) (base := base) (tb := tbs K) z__law_same a__law_same m_repr
  have c_answers_to := ok_answers_to (P := P) (w := w) (base := base) (tb := tbs K) z_answers_to a_answers_to T_answers_to u_answers_to C_answers_to m_tuple
  have c_least_with := ok_least_with (P := P) (w := w) (base := base) (tb := tbs K) z_least_with a_least_with T_least_with u_least_with C_least_with hW m_enumerate m_tuple
  have c_classes_by := ok_classes_by (P := P) (w := w) (base := base) (tb := tbs K) z_classes_by a_classes_by m_len m_list m_range m_tuple m_zip c_answers_to c_least_with
  have c_ascends := ok_ascends (P := P) (w := w) (base := base) (tb := tbs K) z_ascends a_ascends m_all m_zip
  have c_is_set_of := ok_is_set_of (P := P) (w := w) (base := base) (tb := tbs K) z_is_set_of a_is_set_of m_all m_isinstance m_tuple c_ascends
  have c_need := ok_need (P := P) (w := w) (base := base) (tb := tbs K) z_need a_need
  have c_is_name := ok_is_name (P := P) (w := w) (base := base) (tb := tbs K) z_is_name a_is_name m_all m_isinstance m_len m_str g_LOWERCASE
  have c_are_names := ok_are_names (P := P) (w := w) (base := base) (tb := tbs K) z_are_names a_are_names m_all m_isinstance m_len m_tuple c_ascends c_is_name
  have c_is_integer := ok_is_integer (P := P) (w := w) (base := base) (tb := tbs K) z_is_integer a_is_integer m_bool m_int m_isinstance
  have c_is_number := ok_is_number (P := P) (w := w) (base := base) (tb := tbs K) z_is_number a_is_number c_is_integer
  have c_is_tuple := ok_is_tuple (P := P) (w := w) (base := base) (tb := tbs K) z_is_tuple a_is_tuple m_isinstance m_len m_tuple
  have c_are_numbers := ok_are_numbers (P := P) (w := w) (base := base) (tb := tbs K) z_are_numbers a_are_numbers m_all c_is_number c_is_tuple
  have c_machine_fault := ok_machine_fault (P := P) (w := w) (base := base) (tb := tbs K) z_machine_fault a_machine_fault m_enumerate m_isinstance m_len m_max m_tuple c_are_names c_are_numbers c_is_tuple
  have c_is_machine := ok_is_machine (P := P) (w := w) (base := base) (tb := tbs K) z_is_machine a_is_machine c_machine_fault
  have c_need_machine := ok_need_machine (P := P) (w := w) (base := base) (tb := tbs K) z_need_machine a_need_machine c_is_machine c_need
  have c_need_looks := ok_need_looks (P := P) (w := w) (base := base) (tb := tbs K) z_need_looks a_need_looks c_is_set_of c_need c_need_machine
  have c_alike_classes := ok_alike_classes (P := P) (w := w) (base := base) (tb := tbs K) z_alike_classes a_alike_classes c_classes_by c_need_looks
  have c_is_index := ok_is_index (P := P) (w := w) (base := base) (tb := tbs K) z_is_index a_is_index m_len c_is_number
  have c_is_state := ok_is_state (P := P) (w := w) (base := base) (tb := tbs K) z_is_state a_is_state c_is_index
  have c_need_state := ok_need_state (P := P) (w := w) (base := base) (tb := tbs K) z_need_state a_need_state c_is_state c_need c_need_machine
  have c_need_two_states := ok_need_two_states (P := P) (w := w) (base := base) (tb := tbs K) z_need_two_states a_need_two_states c_is_set_of c_is_state c_need c_need_state
  have c_are_alike := ok_are_alike (P := P) (w := w) (base := base) (tb := tbs K) z_are_alike a_are_alike c_classes_by c_need_two_states
  have c_least_parting := ok_least_parting (P := P) (w := w) (base := base) (tb := tbs K) z_least_parting a_least_parting hW m_len m_zip c_answers_to
  have c_parting_row := ok_parting_row (P := P) (w := w) (base := base) (tb := tbs K) z_parting_row a_parting_row c_least_parting c_need_two_states
  have c__law_are_alike_right := ok__law_are_alike_right (P := P) (w := w) (base := base) (tb := tbs K) z__law_are_alike_right a__law_are_alike_right hW m_len m_min m_range m_tuple c__law_draw c__law_parted c__law_same c_alike_classes c_are_alike c_parting_row
  have c__law_late := ok__law_late (P := P) (w := w) (base := base) (tb := tbs K) z__law_late a__law_late m_len m_range
  have c__law_rows := ok__law_rows (P := P) (w := w) (base := base) (tb := tbs K) z__law_rows a__law_rows m_len m_range c__law_late
  have c_least_rows := ok_least_rows (P := P) (w := w) (base := base) (tb := tbs K) z_least_rows a_least_rows m_len m_zip
  have c_reachable_states := ok_reachable_states (P := P) (w := w) (base := base) (tb := tbs K) z_reachable_states a_reachable_states m_sorted m_tuple c_least_rows c_need_machine
  have c_row_to := ok_row_to (P := P) (w := w) (base := base) (tb := tbs K) z_row_to a_row_to c_least_rows c_need_state
  have c__law_are_rows_right := ok__law_are_rows_right (P := P) (w := w) (base := base) (tb := tbs K) z__law_are_rows_right a__law_are_rows_right m_len m_range m_tuple c__law_rows c__law_same c_reachable_states c_row_to
  have c__law_name := ok__law_name (P := P) (w := w) (base := base) (tb := tbs K) z__law_name a__law_name m_int m_range c__law_draw
  have c__law_names := ok__law_names (P := P) (w := w) (base := base) (tb := tbs K) z__law_names a__law_names m_len m_range m_sorted m_tuple c__law_name
  have c__law_seen := ok__law_seen (P := P) (w := w) (base := base) (tb := tbs K) z__law_seen a__law_seen m_list m_range c__law_any c__law_draw
  have c__law_shape := ok__law_shape (P := P) (w := w) (base := base) (tb := tbs K) z__law_shape a__law_shape m_int m_max m_min m_range c__law_any c__law_draw
  have c__law_box := ok__law_box (P := P) (w := w) (base := base) (tb := tbs K) z__law_box a__law_box m_int m_len m_range m_tuple c__law_draw c__law_names c__law_seen c__law_shape
  exact ok_law z_law z__law_feed a__law_feed m_int m_range m_tuple c__law_any c__law_are_alike_right c__law_are_rows_right c__law_box c__law_draw hrun
end Q6

set_option Elab.async false
set_option linter.all false
set_option maxRecDepth 100000
set_option maxHeartbeats 1000000
/-! Q6m: machines; the program's functions on them: kinds. -/
namespace Q6
open PySem PySem.Spec PyProof.Rows L2 PD
theorem d_is_integer (d : PyData) (fs : FS) : D_is_integer [.val d] fs = some (.val (.bool (isi "int" d && !isi "bool" d)), fs) := by
  simp [D_is_integer, B_is_integer]
  cases isi "int" d <;> simp
theorem d_is_number (i : Int) (fs : FS) : D_is_number [.val (.int i)] fs = some (.val (.bool (decide (0 ≤ i))), fs) := by
  simp [D_is_number, B_is_number, d_is_integer, isi, tyName]
theorem d_is_tuple_t (ds : List PyData) (n : Nat) (fs : FS) : D_is_tuple [.val (.tuple ds), .val (.int n)] fs = some (.val (.bool (decide (ds.length = n))), fs) := by
  have e : ((ds.length : Int) == (n : Int)) = decide (ds.length = n) := by
    rw [Bool.eq_iff_iff]
    simp
    omega
  simp [D_is_tuple, B_is_tuple, isi, tyName, shaped_int, PyData.eqv, e]
theorem d_is_tuple_n {d : PyData} (h : isi "tuple" d = false) (n : Nat) (fs : FS) : D_is_tuple [.val d, .val (.int n)] fs = some (.val (.bool false), fs) := by
  simp [D_is_tuple, B_is_tuple, h]
abbrev lowerS : Str := "abcdefghijklmnopqrstuvwxyz"
structure NameOk (x : Str) : Prop where
  na : x ≠ "any"
  l1 : 1 ≤ x.length
  l8 : x.length ≤ 8
  low : ∀ c ∈ x.cps.toList, c ∈ lowerS.cps.toList
theorem lower_lt : ∀ c ∈ lowerS.cps.toList, c < 0x110000 := by decide +kernel
theorem NameOk.ok {x : Str} (h : NameOk x) : okS x = true := by
  show x.cps.all (· < 0x110000) = true
  rw [← Array.all_toList, List.all_eq_true]
  exact fun c hc => decide_eq_true (lower_lt c (h.low c hc))
theorem eqv_str (x y : Str) : PyData.eqv (.str x) (.str y) = decide (x = y) := by
  unfold PyData.eqv
  rfl
theorem all_true {l : List Bool} (h : ∀ b ∈ l, b = true) : l.all id = true := List.all_eq_true.mpr h
theorem d_is_name {x : Str} (h : NameOk x) (fs : FS) : D_is_name [.val (.str x)] fs = some (.val (.bool true), fs) := by
  have hs := shaped_str h.ok
  have ha : SeqAt.shaped (.str "any") = true := shaped_str (by decide +kernel)
  have hz : x.length ≤ sizeLine := by rw [sizeLine_eq]; have := h.l8; omega
  have h1 := h.na
  have h2 : (1 : Int) ≤ x.length := by have := h.l1; omega
  have h3 : (x.length : Int) ≤ 8 := by have := h.l8; omega
  obtain ⟨bs, e, hb⟩ := lc_bools (vs := [1]) (t := .nm 1) (fe := Ce0_is_name) (fun c => .str ⟨#[c]⟩) (fun _ => true) x.cps.toList ⟨[some (.val (.str x)), none], fs⟩ (by rw [Array.length_toList]; exact hz) fun c hc => by
    have := h.low c hc
    simp [Ce0_is_name, this]
  simp [D_is_name, B_is_name, isi, tyName, hs, ha, eqv_str, h1, h2, h3, hz, plainAt, e]
  simp [hb]
/-! ### tuples of texts -/
abbrev tS (xs : List Str) : PyData := .tuple (xs.map .str)
abbrev tI (xs : List Int) : PyData := .tuple (xs.map .int)
def castL (xs : List Nat) : List Int := xs.map Int.ofNat
abbrev tN (xs : List Nat) : PyData := tI (castL xs)
structure NamesOk (xs : List Str) : Prop where
  all : ∀ x ∈ xs, NameOk x
  asc : xs.Pairwise (fun x y => x.cps.toList < y.cps.toList)
  len : xs.length ≤ 1000
theorem zipD_str : ∀ (xs ys : List Str), zipD (xs.map PyData.str) (ys.map PyData.str) = (xs.zip ys).map fun p => .tuple [.str p.1, .str p.2]
  | [], _ => by simp [zipD]
  | _ :: _, [] => by simp [zipD]
  | a :: r, b :: t => by simp [zipD, zipD_str r t]
theorem asc_zip {xs : List Str} (h : xs.Pairwise (fun x y => x.cps.toList < y.cps.toList)) : ∀ p ∈ xs.zip xs.tail, p.1.cps.toList < p.2.cps.toList := by
  induction h with
  | nil => intro p hp; simp at hp
  | @cons a l h1 h2 ih =>
    intro p hp
    cases l with
    | nil => simp at hp
    | cons b r =>
      simp only [List.tail_cons, List.zip_cons_cons, List.mem_cons] at hp
      rcases hp with rfl | hp
      · exact h1 b List.mem_cons_self
      · exact ih p (by simpa using hp)
theorem d_ascends {xs : List Str} (h : NamesOk xs) (fs : FS) : D_ascends [.val (tS xs)] fs = some (.val (.bool true), fs) := by
  obtain ⟨bs, e, hb⟩ := lc_bools (vs := [1, 2]) (t := .tp [.nm 1, .nm 2]) (fe := Ce0_ascends) (fun p : Str × Str => .tuple [.str p.1, .str p.2]) (fun _ => true) (xs.zip xs.tail) ⟨[some (.val (tS xs)), none, none], fs⟩
    (by rw [sizeLine_eq]; have := h.len; simp; omega) fun p hp => by
      have := asc_zip h.asc p hp
      simp [Ce0_ascends, this]
  have ez : zipD (xs.map PyData.str) (xs.map PyData.str).tail = (xs.zip xs.tail).map fun p => .tuple [.str p.1, .str p.2] := by rw [← List.map_tail, zipD_str]
  simp [D_ascends, B_ascends, plainAt, ez, e]
  simp [hb]
theorem d_are_names {xs : List Str} (h : NamesOk xs) {n : Nat} (hn : n ≤ xs.length) (fs : FS) : D_are_names [.val (tS xs), .val (.int n)] fs = some (.val (.bool true), fs) := by
  obtain ⟨bs, e, hb⟩ := lc_bools (vs := [2]) (t := .nm 2) (fe := Ce0_are_names) PyData.str (fun _ => true) xs ⟨[some (.val (tS xs)), some (.val (.int n)), none], fs⟩
    (by rw [sizeLine_eq]; have := h.len; omega) fun x hx => by
      simp [Ce0_are_names, d_is_name (h.all x hx)]
  have hn' : ¬ ((xs.length : Int) < (n : Int)) := by omega
  have eb : bs.all id = true := by simp [hb]
  simp [D_are_names, B_are_names, plainAt, e, hn', isi, tyName, d_ascends h, eb]
theorem d_are_numbers {xs : List Int} (h : ∀ i ∈ xs, 0 ≤ i) (hl : xs.length ≤ 1000) {n : Nat} (hn : xs.length = n) (fs : FS) : D_are_numbers [.val (tI xs), .val (.int n)] fs = some (.val (.bool true), fs) := by
  obtain ⟨bs, e, hb⟩ := lc_bools (vs := [2]) (t := .nm 2) (fe := Ce0_are_numbers) PyData.int (fun _ => true) xs ⟨[some (.val (tI xs)), some (.val (.int n)), none], fs⟩
    (by rw [sizeLine_eq]; omega) fun x hx => by
      simp [Ce0_are_numbers, d_is_number, h x hx]
  have eb : bs.all id = true := by simp [hb]
  have et := d_is_tuple_t (xs.map .int) n fs
  simp [D_are_numbers, B_are_numbers, plainAt, e, et, hn, eb]
/-! ### machines -/
structure Mach where
  ls : List Str
  ks : List Str
  mv : List (List Nat)
  an : List (List Int)
abbrev mvD (M : Mach) : PyData := .tuple (M.mv.map tN)
abbrev anD (M : Mach) : PyData := .tuple (M.an.map tI)
abbrev mD (M : Mach) : PyData := .tuple [tS M.ls, tS M.ks, mvD M, anD M]
structure Mach.Ok (M : Mach) : Prop where
  ln : NamesOk M.ls
  kn : NamesOk M.ks
  l2 : 2 ≤ M.ls.length
  l9 : M.ls.length ≤ 9
  k1 : 1 ≤ M.ks.length
  k9 : M.ks.length ≤ 9
  n1 : 1 ≤ M.mv.length
  n9 : M.mv.length ≤ 9
  row : ∀ r ∈ M.mv, r.length = M.ls.length ∧ ∀ t ∈ r, t < M.mv.length
  al : M.an.length = M.mv.length
  ar : ∀ r ∈ M.an, r.length = M.ks.length ∧ ∀ i ∈ r, 0 ≤ i
theorem maxI_lt {ns : List Int} {b : Int} (h0 : ns ≠ []) (h : ∀ i ∈ ns, i < b) : ∃ m, maxI ns = some m ∧ m < b := by
  cases ns with
  | nil => exact absurd rfl h0
  | cons a r =>
    refine ⟨_, rfl, ?_⟩
    rcases foldl_max_mem r a with e | e
    · rw [e]; exact h a List.mem_cons_self
    · exact h _ (List.mem_cons_of_mem _ e)
theorem enumD_typed {α : Type} (enc : α → PyData) : ∀ (n : Nat) (xs : List α), enumD n (xs.map enc) = (xs.zipIdx n).map fun p => .tuple [.int (p.2 : Nat), enc p.1]
  | _, [] => rfl
  | n, x :: r => by simp [enumD, enumD_typed enc (n + 1) r]
theorem castL_len (r : List Nat) : (castL r).length = r.length := by simp [castL]
theorem castL_nn {r : List Nat} : ∀ i ∈ castL r, 0 ≤ i := by simp [castL]
theorem castL_lt {r : List Nat} {n : Nat} (h : ∀ t ∈ r, t < n) : ∀ i ∈ castL r, i < n := by
  simp [castL]
  exact fun t ht => by have := h t ht; omega
theorem mem_zipIdx' {α : Type} {xs : List α} {p : α × Nat} (h : p ∈ xs.zipIdx) : p.1 ∈ xs := by
  exact List.mem_of_getElem? (List.mem_zipIdx_iff_getElem?.mp h)
theorem d_machine_fault {M : Mach} (h : M.Ok) (fs : FS) : D_machine_fault [.val (mD M)] fs = some (.val .none, fs) := by
  have et : D_is_tuple [.val (mD M), .val (.int 4)] fs = some (.val (.bool true), fs) := d_is_tuple_t _ 4 fs
  have el : D_are_names [.val (tS M.ls), .val (.int 2)] fs = some (.val (.bool true), fs) := d_are_names h.ln (n := 2) h.l2 fs
  have ek : D_are_names [.val (tS M.ks), .val (.int 1)] fs = some (.val (.bool true), fs) := d_are_names h.kn (n := 1) h.k1 fs
  have ea : D_is_tuple [.val (anD M), .val (.int M.mv.length)] fs = some (.val (.bool true), fs) := by
    rw [d_is_tuple_t]
    simp [h.al]
  have hne : M.mv ≠ [] := fun z => by have := h.n1; rw [z] at this; simp at this
  have f1 := sFor_typed (t := .tp [.nm 5, .nm 6]) (f := L0_machine_fault)
    (fun p : List Nat × Nat => .tuple [.int (p.2 : Nat), tN p.1]) (fun a : Option Pl × Option Pl => ⟨[some (.val (mD M)), some (.val (tS M.ls)), some (.val (tS M.ks)), some (.val (mvD M)), some (.val (anD M)), a.1, a.2], fs⟩)
    (fun a p => (some (.val (.int (p.2 : Nat))), some (.val (tN p.1)))) M.mv.zipIdx (none, none) fun a p hp => by
      have hr := h.row p.1 (mem_zipIdx' hp)
      have e1 := d_are_numbers (xs := castL p.1) castL_nn (by rw [castL_len, hr.1]; have := h.l9; omega) (n := M.ls.length) (by rw [castL_len, hr.1]) fs
      obtain ⟨m, hm, hm2⟩ := maxI_lt (ns := castL p.1) (b := M.mv.length) (fun z => by have e := congrArg List.length z; rw [castL_len, hr.1] at e; have := h.l2; simp at e; rw [e] at this; simp at this) (castL_lt hr.2)
      have hm3 : ¬ ((M.mv.length : Int) ≤ m) := by omega
      simp [L0_machine_fault, e1, hm, hm3]
  rw [← enumD_typed] at f1
  generalize (List.foldl (fun (a : Option Pl × Option Pl) (p : List Nat × Nat) => (some (Pl.val (.int (p.2 : Nat))), some (Pl.val (tN p.1)))) (none, none) M.mv.zipIdx) = q at f1
  have f2 := sFor_typed (t := .tp [.nm 5, .nm 6]) (f := L1_machine_fault)
    (fun p : List Int × Nat => .tuple [.int (p.2 : Nat), tI p.1]) (fun a : Option Pl × Option Pl => ⟨[some (.val (mD M)), some (.val (tS M.ls)), some (.val (tS M.ks)), some (.val (mvD M)), some (.val (anD M)), a.1, a.2], fs⟩)
    (fun a p => (some (.val (.int (p.2 : Nat))), some (.val (tI p.1)))) M.an.zipIdx q fun a p hp => by
      have hr := h.ar p.1 (mem_zipIdx' hp)
      have e1 := d_are_numbers (xs := p.1) hr.2 (by rw [hr.1]; have := h.k9; omega) (n := M.ks.length) hr.1 fs
      simp [L1_machine_fault, e1]
  rw [← enumD_typed] at f2
  simp (maxSteps := 10000000) [D_machine_fault, B_machine_fault, et, el, ek, ea, f1, f2, isi, tyName, hne]
theorem d_is_machine {M : Mach} (h : M.Ok) (fs : FS) : D_is_machine [.val (mD M)] fs = some (.val (.bool true), fs) := by
  simp [D_is_machine, B_is_machine, d_machine_fault h, isNone]
theorem d_need (w : Str) (fs : FS) : D_need [.val (.bool true), .val (.str w)] fs = some (.val .none, fs) := by
  simp [D_need, B_need]
theorem d_need_machine {M : Mach} (h : M.Ok) (fs : FS) : D_need_machine [.val (mD M)] fs = some (.val .none, fs) := by
  simp [D_need_machine, B_need_machine, d_is_machine h, d_need]
theorem lay_tS {xs : List Str} (h : NamesOk xs) : SeqAt.shaped (tS xs) = true := by
  refine shaped_tupleI fun d hd => ?_
  obtain ⟨x, hx, rfl⟩ := List.mem_map.mp hd
  exact ⟨lay_str (h.all x hx).ok, Nat.zero_le _⟩
theorem any_eqv_str (xs : List Str) (x : Str) : ((xs.map PyData.str).any fun z => PyData.eqv z (.str x)) = decide (x ∈ xs) := by
  induction xs with
  | nil => rfl
  | cons a r ih =>
    rw [List.map_cons, List.any_cons, ih, eqv_str, Bool.eq_iff_iff]
    simp [@eq_comm _ a x]
end Q6

set_option Elab.async false
set_option linter.all false
set_option maxRecDepth 100000
set_option maxHeartbeats 1000000
/-! Q6n: answers, walks by letters. -/
namespace Q6
open PySem PySem.Spec PyProof.Rows L2 PD
def lN (xs : List Nat) : List PyData := (castL xs).map .int
theorem lN_len (xs : List Nat) : (lN xs).length = xs.length := by simp [lN, castL]
theorem lN_app (xs ys : List Nat) : lN (xs ++ ys) = lN xs ++ lN ys := by simp [lN, castL]
theorem lN_get (xs : List Nat) (i : Nat) : (lN xs)[i]? = (xs[i]?).map fun n => .int (n : Int) := by simp [lN, castL, List.getElem?_map]; rfl
theorem lN_one (n : Nat) : lN [n] = [.int (n : Int)] := rfl
theorem lN_nil : lN [] = [] := rfl
theorem lN_cons (n : Nat) (xs : List Nat) : lN (n :: xs) = .int (n : Int) :: lN xs := rfl
theorem lN_last (xs : List Nat) : (lN xs).getLast? = xs.getLast?.map fun n => .int (n : Int) := by simp [lN, castL, List.getLast?_map]; rfl
theorem lN_map (xs : List Nat) : lN xs = xs.map fun n => .int (n : Int) := by simp [lN, castL]
theorem tN_eq (r : List Nat) : tN r = .tuple (lN r) := rfl
def Mach.nx (M : Mach) (s : Nat) : List Nat := M.mv.getD s []
def Mach.as (M : Mach) (s k : Nat) : Int := (M.an.getD s []).getD k 0
def Mach.lx (M : Mach) (l : Str) : Nat := (M.ls.findIdx? fun y => decide (y = l)).getD 0
def Mach.st (M : Mach) (s : Nat) (l : Str) : Nat := (M.nx s).getD (M.lx l) 0
/-- the states behind each letter -/
def Mach.run (M : Mach) (s : Nat) : List Str → List Nat
  | [] => []
  | l :: r => M.st s l :: M.run (M.st s l) r
def Mach.fin (M : Mach) (s : Nat) (r : List Str) : Nat := r.foldl M.st s
section
variable {M : Mach}
theorem Mach.Ok.mv_at (h : M.Ok) {s : Nat} (hs : s < M.mv.length) : M.mv[s]? = some (M.nx s) ∧ (M.nx s).length = M.ls.length ∧ ∀ t ∈ M.nx s, t < M.mv.length := by
  have e : M.mv[s]? = some M.mv[s] := List.getElem?_eq_getElem hs
  have e2 : M.nx s = M.mv[s] := by simp [Mach.nx, hs]
  rw [e2]
  exact ⟨e, h.row _ (List.getElem_mem hs)⟩
theorem Mach.Ok.an_at (h : M.Ok) {s k : Nat} (hs : s < M.mv.length) (hk : k < M.ks.length) : ∃ r, M.an[s]? = some r ∧ r[k]? = some (M.as s k) := by
  have hs' : s < M.an.length := by rw [h.al]; exact hs
  refine ⟨M.an[s], List.getElem?_eq_getElem hs', ?_⟩
  have hr := h.ar _ (List.getElem_mem hs')
  have hk' : k < (M.an[s]).length := by rw [hr.1]; exact hk
  rw [List.getElem?_eq_getElem hk']
  simp [Mach.as, hs', hk']
theorem idx_of {xs : List Str} (h : xs.Pairwise (fun x y => x.cps.toList < y.cps.toList)) {k : Nat} {l : Str} (hk : xs[k]? = some l) : (xs.findIdx? fun y => decide (y = l)) = some k := by
  rw [List.findIdx?_eq_some_iff_getElem]
  obtain ⟨hl, e⟩ := List.getElem?_eq_some_iff.mp hk
  refine ⟨hl, by simp [e], fun j hj => ?_⟩
  have := List.pairwise_iff_getElem.mp h j k (by omega) hl hj
  rw [e] at this
  simp
  intro z
  rw [z] at this
  exact List.lt_irrefl _ this
theorem idx_mem {xs : List Str} {l : Str} (h : l ∈ xs) : ∃ j, (xs.findIdx? fun y => decide (y = l)) = some j ∧ j < xs.length := by
  cases e : xs.findIdx? fun y => decide (y = l) with
  | none =>
    rw [List.findIdx?_eq_none_iff] at e
    have := e l h
    simp at this
  | some j =>
    obtain ⟨h1, _⟩ := List.findIdx?_eq_some_iff_getElem.mp e
    exact ⟨j, rfl, h1⟩
theorem Mach.st_lt (h : M.Ok) {s : Nat} (hs : s < M.mv.length) {l : Str} (hl : l ∈ M.ls) : M.st s l < M.mv.length ∧ (M.nx s)[M.lx l]? = some (M.st s l) ∧ (M.ls.findIdx? fun y => decide (y = l)) = some (M.lx l) := by
  obtain ⟨j, e, hj⟩ := idx_mem hl
  obtain ⟨_, e2, h3⟩ := h.mv_at hs
  have hj' : j < (M.nx s).length := by rw [e2]; exact hj
  have e3 : M.lx l = j := by simp [Mach.lx, e]
  have e4 : M.st s l = (M.nx s)[j] := by simp [Mach.st, e3, hj']
  rw [e3, e4]
  exact ⟨h3 _ (List.getElem_mem hj'), List.getElem?_eq_getElem hj', e⟩
theorem Mach.run_app (s : Nat) (a b : List Str) : M.run s (a ++ b) = M.run s a ++ M.run (M.fin s a) b := by
  induction a generalizing s with
  | nil => rfl
  | cons l r ih => simp [Mach.run, ih, Mach.fin]
theorem Mach.run_len (s : Nat) (a : List Str) : (M.run s a).length = a.length := by
  induction a generalizing s with
  | nil => rfl
  | cons l r ih => simp [Mach.run, ih]
theorem Mach.run_last (s : Nat) (a : List Str) : (s :: M.run s a).getLast? = some (M.fin s a) := by
  induction a generalizing s with
  | nil => rfl
  | cons l r ih =>
    show (s :: M.st s l :: M.run (M.st s l) r).getLast? = _
    rw [List.getLast?_cons_cons]
    exact ih _
theorem Mach.fin_app (s : Nat) (a b : List Str) : M.fin s (a ++ b) = M.fin (M.fin s a) b := by simp [Mach.fin]
theorem Mach.fin_lt (h : M.Ok) {s : Nat} (hs : s < M.mv.length) {a : List Str} (ha : ∀ l ∈ a, l ∈ M.ls) : M.fin s a < M.mv.length := by
  induction a generalizing s with
  | nil => exact hs
  | cons l r ih => exact ih (M.st_lt h hs (ha l List.mem_cons_self)).1 fun x hx => ha x (List.mem_cons_of_mem _ hx)
end
end Q6

set_option Elab.async false
set_option linter.all false
set_option maxRecDepth 100000
set_option maxHeartbeats 1000000
/-! Q6o: least_rows. -/
namespace Q6
open PySem PySem.Spec PyProof.Rows L2 PD
abbrev RowsL := List (Nat × List Str)
def keysR (L : RowsL) : List Nat := L.map (·.1)
def encR (L : RowsL) : List (Key × PyData) := L.map fun p => (.inl (p.1 : Int), tS p.2)
def rowOf (L : RowsL) (t : Nat) : Option (List Str) := (L.find? fun p => p.1 == t).map (·.2)
def addP (row : List Str) (L : RowsL) (p : Str × Nat) : RowsL := if (rowOf L p.2).isSome then L else L ++ [(p.2, row ++ [p.1])]
theorem lookD_enc (L : RowsL) (t : Nat) : lookD (encR L) (.inl (t : Int)) = (rowOf L t).map tS := by
  induction L with
  | nil => rfl
  | cons p r ih =>
    by_cases e : p.1 = t
    · simp [lookD, encR, rowOf, List.find?_cons, e]
    · have e' : ¬ ((p.1 : Int) = (t : Int)) := by omega
      have e2 : (p.1 == t) = false := by simp [e]
      have : lookD (encR (p :: r)) (.inl (t : Int)) = lookD (encR r) (.inl (t : Int)) := by simp [lookD, encR, List.find?_cons, e']
      rw [this, ih]
      simp [rowOf, List.find?_cons, e2]
theorem rowOf_none {L : RowsL} {t : Nat} (h : rowOf L t = none) : ∀ p ∈ L, p.1 ≠ t := fun p hp e => by
  unfold rowOf at h
  rw [Option.map_eq_none_iff, List.find?_eq_none] at h
  exact h p hp (by simp [e])
theorem putD_enc {L : RowsL} {t : Nat} {r : List Str} (h : rowOf L t = none) : putD (encR L) (.inl (t : Int)) (tS r) = encR (L ++ [(t, r)]) := by
  have hn := rowOf_none h
  have e : (encR L).any (fun kv => decide (kv.1 = (.inl (t : Int) : Key))) = false := by
    rw [List.any_eq_false]
    intro kv hkv
    obtain ⟨p, hp, rfl⟩ := List.mem_map.mp hkv
    have := hn p hp
    simp
    omega
  unfold putD
  rw [e]
  simp [encR]
theorem rowOf_mem {L : RowsL} (nd : (keysR L).Nodup) {p : Nat × List Str} (hp : p ∈ L) : rowOf L p.1 = some p.2 := by
  induction L with
  | nil => cases hp
  | cons q r ih =>
    have nd' : q.1 ∉ keysR r ∧ (keysR r).Nodup := by simpa [keysR] using nd
    rcases List.mem_cons.mp hp with rfl | hp
    · simp [rowOf, List.find?_cons]
    · have hne : (q.1 == p.1) = false := by
        simp
        intro e
        exact nd'.1 (e ▸ List.mem_map.mpr ⟨p, hp, rfl⟩)
      have := ih nd'.2 hp
      simpa [rowOf, List.find?_cons, hne] using this
theorem rowOf_some {L : RowsL} {t : Nat} {r : List Str} (h : rowOf L t = some r) : (t, r) ∈ L := by
  unfold rowOf at h
  cases e : L.find? fun p => p.1 == t with
  | none => rw [e] at h; cases h
  | some p =>
    rw [e] at h
    cases h
    have h1 := List.mem_of_find?_eq_some e
    have h2 := List.find?_some e
    have : p.1 = t := by simpa using h2
    rw [← this]
    exact h1
theorem rowOf_isSome {L : RowsL} {t : Nat} : (rowOf L t).isSome = true ↔ t ∈ keysR L := by
  constructor
  · intro h
    obtain ⟨r, hr⟩ := Option.isSome_iff_exists.mp h
    exact List.mem_map.mpr ⟨_, rowOf_some hr, rfl⟩
  · intro h
    cases e : rowOf L t with
    | some r => rfl
    | none =>
      obtain ⟨p, hp, e2⟩ := List.mem_map.mp h
      exact absurd e2 (rowOf_none e p hp)
theorem rowOf_app {L : RowsL} {t : Nat} {r : List Str} (h : rowOf L t = some r) (M : RowsL) : rowOf (L ++ M) t = some r := by
  unfold rowOf at h ⊢
  rw [List.find?_append]
  cases e : L.find? fun p => p.1 == t with
  | none => rw [e] at h; cases h
  | some p => rw [e] at h; exact h
theorem zipD_strN : ∀ (xs : List Str) (ys : List Nat), zipD (xs.map PyData.str) (lN ys) = (xs.zip ys).map fun p => .tuple [.str p.1, .int (p.2 : Int)]
  | [], _ => by simp [zipD]
  | _ :: _, [] => by simp [zipD, lN_nil]
  | a :: r, b :: t => by simp [zipD, lN_cons, zipD_strN r t]
/-- what holds of the rows at all times -/
structure JR (M : Mach) (b : Nat) (L : RowsL) : Prop where
  hd : L[0]? = some (b, [])
  nd : (keysR L).Nodup
  row : ∀ (i : Nat) (p : Nat × List Str), L[i]? = some p → p.1 < M.mv.length ∧ (∀ l ∈ p.2, l ∈ M.ls) ∧ M.fin b p.2 = p.1 ∧ p.2.length ≤ i
theorem nodup_len : ∀ (n : Nat) (xs : List Nat), xs.Nodup → (∀ x ∈ xs, x < n) → xs.length ≤ n
  | 0, xs, _, h => by
    cases xs with
    | nil => exact Nat.le_refl _
    | cons x r => exact absurd (h x List.mem_cons_self) (Nat.not_lt_zero _)
  | n + 1, xs, nd, h => by
    have h1 : (xs.filter (· != n)).length ≤ n := nodup_len n _ (nd.filter _) fun x hx => by
      obtain ⟨a, b⟩ := List.mem_filter.mp hx
      have := h x a
      have : x ≠ n := by simpa using b
      omega
    have h2 : xs.length ≤ (xs.filter (· != n)).length + 1 := by
      clear h h1
      induction xs with
      | nil => simp
      | cons x r ih =>
        obtain ⟨n1, n2⟩ := List.nodup_cons.mp nd
        by_cases e : x = n
        · subst e
          rw [List.filter_cons_of_neg (by simp), List.filter_eq_self.mpr (fun y hy => by simp; rintro rfl; exact n1 hy)]
          simp
        · rw [List.filter_cons_of_pos (by simpa using e)]
          have := ih n2
          simp only [List.length_cons]
          omega
    omega
theorem JR.len {M : Mach} {b : Nat} {L : RowsL} (h : JR M b L) : L.length ≤ M.mv.length := by
  have := nodup_len M.mv.length (keysR L) h.nd fun x hx => by
    obtain ⟨p, hp, rfl⟩ := List.mem_map.mp hx
    obtain ⟨i, hi, e⟩ := List.getElem_of_mem hp
    exact (h.row i p (by rw [List.getElem?_eq_getElem hi, e])).1
  simpa [keysR] using this
theorem JR.add {M : Mach} {b : Nat} {L : RowsL} (h : JR M b L) {t : Nat} {r : List Str} (h0 : rowOf L t = none) (h1 : t < M.mv.length) (h2 : ∀ l ∈ r, l ∈ M.ls) (h3 : M.fin b r = t) (h4 : r.length ≤ L.length) : JR M b (L ++ [(t, r)]) := by
  refine ⟨?_, ?_, fun i p hp => ?_⟩
  · have : 0 < L.length := (List.getElem?_eq_some_iff.mp h.hd).1
    rw [List.getElem?_append_left this]
    exact h.hd
  · show ((L ++ [(t, r)]).map (·.1)).Nodup
    rw [List.map_append, List.nodup_append]
    refine ⟨h.nd, by simp, fun x hx y hy => ?_⟩
    have hy' : y = t := by simpa using hy
    rw [hy']
    obtain ⟨p, hp, rfl⟩ := List.mem_map.mp hx
    exact rowOf_none h0 p hp
  · by_cases hi : i < L.length
    · rw [List.getElem?_append_left hi] at hp
      exact h.row i p hp
    · rw [List.getElem?_append_right (by omega)] at hp
      have hi' : i - L.length = 0 := by
        have := (List.getElem?_eq_some_iff.mp hp).1
        simp at this
        omega
      rw [hi'] at hp
      cases hp
      exact ⟨h1, h2, h3, by show r.length ≤ i; omega⟩
end Q6

set_option Elab.async false
set_option linter.all false
set_option maxRecDepth 100000
set_option maxHeartbeats 1000000
/-! Q6oa: words by length first, the search by breadth: each row is the least one. -/
namespace Q6
open PySem PySem.Spec PyProof.Rows L2 PD
abbrev slt (a b : Str) : Prop := a.cps.toList < b.cps.toList
theorem slt_irrefl (a : Str) : ¬ slt a a := List.lt_irrefl _
theorem slt_trans {a b c : Str} (h : slt a b) (g : slt b c) : slt a c := List.lt_trans h g
/-- at most, of words of one length -/
def leW : List Str → List Str → Prop
  | [], [] => True
  | a :: r, b :: t => (slt a b ∧ r.length = t.length) ∨ (a = b ∧ leW r t)
  | _, _ => False
theorem leW_len : ∀ {a b : List Str}, leW a b → a.length = b.length
  | [], [], _ => rfl
  | a :: r, b :: t, h => by
    rcases h with ⟨_, h⟩ | ⟨_, h⟩
    · simp [h]
    · simp [leW_len h]
  | [], _ :: _, h => h.elim
  | _ :: _, [], h => h.elim
theorem leW_refl : ∀ a : List Str, leW a a
  | [] => trivial
  | a :: r => .inr ⟨rfl, leW_refl r⟩
theorem leW_trans : ∀ {a b c : List Str}, leW a b → leW b c → leW a c
  | [], [], [], _, _ => trivial
  | a :: r, b :: t, c :: u, h, g => by
    rcases h with ⟨h1, h2⟩ | ⟨h1, h2⟩ <;> rcases g with ⟨g1, g2⟩ | ⟨g1, g2⟩
    · exact .inl ⟨slt_trans h1 g1, h2.trans g2⟩
    · subst g1; exact .inl ⟨h1, h2.trans (leW_len g2)⟩
    · subst h1; exact .inl ⟨g1, (leW_len h2).trans g2⟩
    · exact .inr ⟨h1.trans g1, leW_trans h2 g2⟩
  | [], [], _ :: _, _, g => g.elim
  | [], _ :: _, _, h, _ => h.elim
  | _ :: _, [], _, h, _ => h.elim
  | _ :: _, _ :: _, [], _, g => g.elim
theorem leW_antisymm : ∀ {a b : List Str}, leW a b → leW b a → a = b
  | [], [], _, _ => rfl
  | a :: r, b :: t, h, g => by
    rcases h with ⟨h1, h2⟩ | ⟨h1, h2⟩ <;> rcases g with ⟨g1, g2⟩ | ⟨g1, g2⟩
    · exact absurd (slt_trans h1 g1) (slt_irrefl _)
    · subst g1; exact absurd h1 (slt_irrefl _)
    · subst h1; exact absurd g1 (slt_irrefl _)
    · rw [h1, leW_antisymm h2 g2]
  | [], _ :: _, h, _ => h.elim
  | _ :: _, [], h, _ => h.elim
theorem leW_snoc : ∀ {a b : List Str} (l : Str), leW a b → leW (a ++ [l]) (b ++ [l])
  | [], [], l, _ => leW_refl _
  | a :: r, b :: t, l, h => by
    rcases h with ⟨h1, h2⟩ | ⟨h1, h2⟩
    · exact .inl ⟨h1, by simp [h2]⟩
    · exact .inr ⟨h1, leW_snoc l h2⟩
  | [], _ :: _, _, h => h.elim
  | _ :: _, [], _, h => h.elim
theorem leW_snoc_ne : ∀ {a b : List Str} (l m : Str), leW a b → a ≠ b → leW (a ++ [l]) (b ++ [m])
  | [], [], l, m, _, hn => absurd rfl hn
  | a :: r, b :: t, l, m, h, hn => by
    rcases h with ⟨h1, h2⟩ | ⟨h1, h2⟩
    · exact .inl ⟨h1, by simp [h2]⟩
    · subst h1
      exact .inr ⟨rfl, leW_snoc_ne l m h2 fun e => hn (by rw [e])⟩
  | [], _ :: _, _, _, h, _ => h.elim
  | _ :: _, [], _, _, h, _ => h.elim
theorem leW_last : ∀ (a : List Str) {l m : Str}, slt l m → leW (a ++ [l]) (a ++ [m])
  | [], _, _, h => .inl ⟨h, rfl⟩
  | a :: r, _, _, h => .inr ⟨rfl, leW_last r h⟩
/-- at most: by the length first -/
def sl (a b : List Str) : Prop := a.length < b.length ∨ leW a b
theorem sl_refl (a : List Str) : sl a a := .inr (leW_refl a)
theorem sl_len {a b : List Str} (h : sl a b) : a.length ≤ b.length := by
  rcases h with h | h
  · omega
  · have := leW_len h; omega
theorem sl_trans {a b c : List Str} (h : sl a b) (g : sl b c) : sl a c := by
  rcases h with h | h
  · exact .inl (Nat.lt_of_lt_of_le h (sl_len g))
  · rcases g with g | g
    · exact .inl (by rw [leW_len h]; exact g)
    · exact .inr (leW_trans h g)
theorem sl_antisymm {a b : List Str} (h : sl a b) (g : sl b a) : a = b := by
  have h1 := sl_len h
  have g1 := sl_len g
  rcases h with h | h
  · omega
  · rcases g with g | g
    · omega
    · exact leW_antisymm h g
theorem sl_snoc {a b : List Str} (l : Str) (h : sl a b) : sl (a ++ [l]) (b ++ [l]) := by
  rcases h with h | h
  · exact .inl (by simp; omega)
  · exact .inr (leW_snoc l h)
theorem sl_snoc_ne {a b : List Str} (l m : Str) (h : sl a b) (hn : a ≠ b) : sl (a ++ [l]) (b ++ [m]) := by
  rcases h with h | h
  · exact .inl (by simp; omega)
  · exact .inr (leW_snoc_ne l m h hn)
theorem sl_last (a : List Str) {l m : Str} (h : slt l m) : sl (a ++ [l]) (a ++ [m]) := .inr (leW_last a h)
theorem sl_self (a : List Str) (l : Str) : sl a (a ++ [l]) := .inl (by simp)
/-! ### the search -/
section
variable {α : Type} [DecidableEq α]
abbrev RowsG (α : Type) := List (α × List Str)
def keysG (L : RowsG α) : List α := L.map (·.1)
def rowG (L : RowsG α) (t : α) : Option (List Str) := (L.find? fun p => p.1 == t).map (·.2)
def addG (row : List Str) (L : RowsG α) (p : Str × α) : RowsG α := if (rowG L p.2).isSome then L else L ++ [(p.2, row ++ [p.1])]
theorem rowG_app {L : RowsG α} {t : α} {r : List Str} (h : rowG L t = some r) (M : RowsG α) : rowG (L ++ M) t = some r := by
  unfold rowG at h ⊢
  rw [List.find?_append]
  cases e : L.find? fun p => p.1 == t with
  | none => rw [e] at h; cases h
  | some p => rw [e] at h; exact h
theorem rowG_some {L : RowsG α} {t : α} {r : List Str} (h : rowG L t = some r) : (t, r) ∈ L := by
  unfold rowG at h
  cases e : L.find? fun p => p.1 == t with
  | none => rw [e] at h; cases h
  | some p =>
    rw [e] at h
    cases h
    have h1 := List.mem_of_find?_eq_some e
    have h2 := List.find?_some e
    have : p.1 = t := by simpa using h2
    rw [← this]
    exact h1
theorem rowG_none {L : RowsG α} {t : α} (h : rowG L t = none) : ∀ p ∈ L, p.1 ≠ t := fun p hp e => by
  unfold rowG at h
  rw [Option.map_eq_none_iff, List.find?_eq_none] at h
  exact h p hp (by simp [e])
theorem rowG_new {L : RowsG α} {t : α} (h : rowG L t = none) (r : List Str) : rowG (L ++ [(t, r)]) t = some r := by
  unfold rowG at h ⊢
  rw [Option.map_eq_none_iff] at h
  rw [List.find?_append, h]
  simp
/-- the rows ascend; those of the places that were looked at are led on; what was found is at most what comes -/
structure SL (st : α → Str → α) (ls : List Str) (L : RowsG α) (k : Nat) : Prop where
  s1 : L.Pairwise fun p q => sl p.2 q.2
  s2 : ∀ (i : Nat) (p : α × List Str), i < k → L[i]? = some p → ∀ l ∈ ls, ∃ r, rowG L (st p.1 l) = some r ∧ sl r (p.2 ++ [l])
  s3 : ∀ p ∈ L, ∀ (i : Nat) (q : α × List Str), k ≤ i → L[i]? = some q → ∀ l ∈ ls, sl p.2 (q.2 ++ [l])
theorem addG_all (row : List Str) : ∀ (ps : List (Str × α)) (L : RowsG α), (ps.map (·.1)).Pairwise slt → (∀ p ∈ L, ∀ q ∈ ps, sl p.2 (row ++ [q.1])) → L.Pairwise (fun p q => sl p.2 q.2) →
    (∃ T, ps.foldl (addG row) L = L ++ T ∧ ∀ p ∈ T, ∃ q ∈ ps, p = (q.2, row ++ [q.1])) ∧ (ps.foldl (addG row) L).Pairwise (fun p q => sl p.2 q.2) ∧ ∀ q ∈ ps, ∃ r, rowG (ps.foldl (addG row) L) q.2 = some r ∧ sl r (row ++ [q.1])
  | [], L, _, _, h => ⟨⟨[], by simp, fun _ h => nomatch h⟩, h, fun _ h => nomatch h⟩
  | q :: ps, L, ha, hl, hp => by
    have ha' : (∀ a ∈ ps.map (·.1), slt q.1 a) ∧ (ps.map (·.1)).Pairwise slt := by simpa using ha
    cases e : rowG L q.2 with
    | some r =>
      have ea : addG row L q = L := by simp [addG, e]
      obtain ⟨⟨T, i1, i2⟩, i3, i4⟩ := addG_all row ps L ha'.2 (fun p hp' x hx => hl p hp' x (List.mem_cons_of_mem _ hx)) hp
      rw [List.foldl_cons, ea]
      refine ⟨⟨T, i1, fun p hpT => ?_⟩, i3, fun x hx => ?_⟩
      · obtain ⟨x, hx, ex⟩ := i2 p hpT
        exact ⟨x, List.mem_cons_of_mem _ hx, ex⟩
      · rcases List.mem_cons.mp hx with rfl | hx
        · exact ⟨r, by rw [i1]; exact rowG_app e T, hl _ (rowG_some e) _ List.mem_cons_self⟩
        · exact i4 x hx
    | none =>
      have ea : addG row L q = L ++ [(q.2, row ++ [q.1])] := by simp [addG, e]
      obtain ⟨⟨T, i1, i2⟩, i3, i4⟩ := addG_all row ps (L ++ [(q.2, row ++ [q.1])]) ha'.2 (fun p hp' x hx => by
        rcases List.mem_append.mp hp' with h | h
        · exact hl p h x (List.mem_cons_of_mem _ hx)
        · rw [List.mem_singleton.mp h]
          exact sl_last row (ha'.1 _ (List.mem_map.mpr ⟨x, hx, rfl⟩))) (by
        rw [List.pairwise_append]
        exact ⟨hp, by simp, fun a h b hb => by rw [List.mem_singleton.mp hb]; exact hl a h q List.mem_cons_self⟩)
      rw [List.foldl_cons, ea]
      refine ⟨⟨(q.2, row ++ [q.1]) :: T, by rw [i1]; simp, fun p hpT => ?_⟩, i3, fun x hx => ?_⟩
      · rcases List.mem_cons.mp hpT with rfl | h
        · exact ⟨q, List.mem_cons_self, rfl⟩
        · obtain ⟨x, hx, ex⟩ := i2 p h
          exact ⟨x, List.mem_cons_of_mem _ hx, ex⟩
      · rcases List.mem_cons.mp hx with rfl | hx
        · exact ⟨row ++ [x.1], by rw [i1]; exact rowG_app (rowG_new e _) T, sl_refl _⟩
        · exact i4 x hx
/-- one place looked at -/
theorem SL.step {st : α → Str → α} {ls : List Str} {L : RowsG α} {k : Nat} (J : SL st ls L k) (hls : ls.Pairwise slt) {s : α} {row : List Str} (hp : L[k]? = some (s, row)) {ps : List (Str × α)} (h1 : ps.map (·.1) = ls) (h2 : ∀ p ∈ ps, st s p.1 = p.2)
    (hne : ∀ (i : Nat) (q : α × List Str), k < i → L[i]? = some q → row ≠ q.2) : SL st ls (ps.foldl (addG row) L) (k + 1) := by
  have hlt : k < L.length := (List.getElem?_eq_some_iff.mp hp).1
  have mem : ∀ q ∈ ps, q.1 ∈ ls := fun q hq => h1 ▸ List.mem_map.mpr ⟨q, hq, rfl⟩
  obtain ⟨⟨T, i1, i2⟩, i3, i4⟩ := addG_all row ps L (by rw [h1]; exact hls) (fun p hp' q hq => J.s3 p hp' k _ (Nat.le_refl _) hp q.1 (mem q hq)) J.s1
  refine ⟨i3, fun i p hi hp' l hl => ?_, fun p hpL i q hi hq l hl => ?_⟩
  · have hiL : i < L.length := by omega
    have hp2 : L[i]? = some p := by rw [i1, List.getElem?_append_left hiL] at hp'; exact hp'
    by_cases e : i = k
    · subst e
      rw [hp] at hp2
      cases hp2
      obtain ⟨x, hx, ex⟩ := List.mem_map.mp (h1 ▸ hl : l ∈ ps.map (·.1))
      obtain ⟨r, r1, r2⟩ := i4 x hx
      subst ex
      exact ⟨r, by rw [h2 x hx]; exact r1, r2⟩
    · obtain ⟨r, r1, r2⟩ := J.s2 i p (by omega) hp2 l hl
      exact ⟨r, by rw [i1]; exact rowG_app r1 T, r2⟩
  · have hkq : sl row q.2 ∧ row ≠ q.2 ∨ ∃ x ∈ ls, q.2 = row ++ [x] := by
      by_cases hiL : i < L.length
      · rw [i1, List.getElem?_append_left hiL] at hq
        refine .inl ⟨?_, hne i q (by omega) hq⟩
        have e1 := (List.getElem?_eq_some_iff.mp hp).2
        have e2 := (List.getElem?_eq_some_iff.mp hq).2
        have := List.pairwise_iff_getElem.mp J.s1 k i hlt hiL (by omega)
        rw [e1, e2] at this
        exact this
      · rw [i1, List.getElem?_append_right (by omega)] at hq
        obtain ⟨x, hx, ex⟩ := i2 q (List.mem_of_getElem? hq)
        exact .inr ⟨x.1, mem x hx, by rw [ex]⟩
    have row_q : sl (row ++ [l]) (q.2 ++ [l]) := by
      rcases hkq with ⟨h, _⟩ | ⟨x, _, ex⟩
      · exact sl_snoc l h
      · rw [ex]; exact .inl (by simp)
    rw [i1] at hpL
    rcases List.mem_append.mp hpL with h | h
    · exact sl_trans (J.s3 p h k _ (Nat.le_refl _) hp l hl) row_q
    · obtain ⟨x, hx, ex⟩ := i2 p h
      rw [ex]
      rcases hkq with ⟨h, hn⟩ | ⟨y, _, ey⟩
      · exact sl_snoc_ne _ _ h hn
      · rw [ey]; exact .inl (by simp)
/-- at the end: each word that leads to a state is at least its row -/
theorem SL.least {st : α → Str → α} {ls : List Str} {L : RowsG α} {b : α} (J : SL st ls L L.length) (hb : rowG L b = some []) : ∀ (n : Nat) (w : List Str), w.length = n → (∀ l ∈ w, l ∈ ls) → ∃ r, rowG L (w.foldl st b) = some r ∧ sl r w
  | 0, w, hw, _ => by
    have : w = [] := List.eq_nil_of_length_eq_zero hw
    subst this
    exact ⟨[], hb, sl_refl _⟩
  | n + 1, w, hw, hm => by
    have hne : w ≠ [] := by intro e; simp [e] at hw
    obtain ⟨q, l, rfl⟩ : ∃ q l, w = q ++ [l] := ⟨w.dropLast, w.getLast hne, (List.dropLast_concat_getLast hne).symm⟩
    obtain ⟨r, r1, r2⟩ := SL.least J hb n q (by simpa using hw) fun x hx => hm x (List.mem_append_left _ hx)
    obtain ⟨i, hi, e⟩ := List.getElem_of_mem (rowG_some r1)
    obtain ⟨r', e1, e2⟩ := J.s2 i _ hi (by rw [List.getElem?_eq_getElem hi, e]) l (hm l (by simp))
    exact ⟨r', by rw [List.foldl_append]; exact e1, sl_trans e2 (sl_snoc l r2)⟩
theorem SL.one (st : α → Str → α) (ls : List Str) (b : α) : SL st ls [(b, [])] 0 := by
  refine ⟨by simp, fun i p hi => absurd hi (Nat.not_lt_zero _), fun p hp i q _ hq l _ => ?_⟩
  rw [List.mem_singleton.mp hp]
  exact .inl (by simp)
end
end Q6

set_option Elab.async false
set_option linter.all false
set_option maxRecDepth 100000
set_option maxHeartbeats 1000000
/-! Q6p: least_rows, run. -/
namespace Q6
open PySem PySem.Spec PyProof.Rows L2 PD
section
variable {M : Mach} {b s k : Nat} {fs : FS}
abbrev StR (M : Mach) (b : Nat) (L : RowsL) (k : Nat) (q5 q6 q7 : Option Pl) (fs : FS) : DS := ⟨[some (.val (mD M)), some (.val (.int b)), some (.ownK (encR L)), some (.ownL (lN (keysR L))), some (.val (.int k)), q5, q6, q7], fs⟩
theorem encR_len (L : RowsL) : (encR L).length = L.length := by simp [encR]
theorem keysR_len (L : RowsL) : (keysR L).length = L.length := by simp [keysR]
theorem inner_rows (h : M.Ok) {row : List Str} (hs : s < M.mv.length) : ∀ (ps : List (Str × Nat)) (L : RowsL), JR M b L → rowOf L s = some row → row.length + 1 ≤ L.length → (∀ l ∈ row, l ∈ M.ls) → M.fin b row = s →
    (∀ p ∈ ps, p.1 ∈ M.ls ∧ p.2 < M.mv.length ∧ M.st s p.1 = p.2) →
    (∀ fs q6 q7, ∃ q6' q7', sFor (.tp [.nm 6, .nm 7]) L0_least_rows (ps.map fun p => .tuple [.str p.1, .int (p.2 : Int)]) (StR M b L k (some (.val (.int s))) q6 q7 fs) = some (.nx (StR M b (ps.foldl (addP row) L) k (some (.val (.int s))) q6' q7' fs))) ∧
    JR M b (ps.foldl (addP row) L) ∧ (∃ T, ps.foldl (addP row) L = L ++ T) ∧ ∀ p ∈ ps, p.2 ∈ keysR (ps.foldl (addP row) L)
  | [], L, J, _, _, _, _, _ => ⟨fun fs q6 q7 => ⟨q6, q7, rfl⟩, J, ⟨[], by simp⟩, fun _ h => nomatch h⟩
  | p :: ps, L, J, hr, hl, hm, hf, hp => by
    obtain ⟨p1, p2, p3⟩ := hp p List.mem_cons_self
    have hn := J.len
    have h9 := h.n9
    have hz := sizeLine_eq
    have key : (∀ fs q6 q7, ∃ q6' q7', ((Tg.tp [.nm 6, .nm 7]).put (.val (.tuple [.str p.1, .int (p.2 : Int)])) (StR M b L k (some (.val (.int s))) q6 q7 fs)).bind L0_least_rows = some (.nx (StR M b (addP row L p) k (some (.val (.int s))) q6' q7' fs))) ∧
        JR M b (addP row L p) ∧ (∃ T, addP row L p = L ++ T) ∧ p.2 ∈ keysR (addP row L p) := by
      cases e : rowOf L p.2 with
      | some r =>
        have ea : addP row L p = L := by simp [addP, e]
        rw [ea]
        refine ⟨fun fs q6 q7 => ⟨some (.val (.str p.1)), some (.val (.int p.2)), ?_⟩, J, ⟨[], by simp⟩, rowOf_isSome.mp (by rw [e]; rfl)⟩
        simp [L0_least_rows, keyD, lookD_enc, e]
      | none =>
        have ea : addP row L p = L ++ [(p.2, row ++ [p.1])] := by simp [addP, e]
        rw [ea]
        have hlen : (tS (row ++ [p.1])) = .tuple (row.map .str ++ [.str p.1]) := by simp
        refine ⟨fun fs q6 q7 => ⟨some (.val (.str p.1)), some (.val (.int p.2)), ?_⟩, J.add e p2 (fun l hl' => ?_) ?_ ?_, ⟨_, rfl⟩, ?_⟩
        · have e2 := putD_enc (r := row ++ [p.1]) e
          rw [hlen] at e2
          have z1 : row.length + 1 ≤ sizeLine := by omega
          have z2 : L.length < sizeLine := by omega
          have z3 : 1 ≤ sizeLine := by omega
          simp [L0_least_rows, keyD, lookD_enc, e, hr, z1, z2, z3, e2, encR_len, lN_len, keysR_len]
          simp [keysR, lN_app, lN_one]
        · rcases List.mem_append.mp hl' with h1 | h1
          · exact hm l h1
          · rw [List.mem_singleton.mp h1]; exact p1
        · rw [Mach.fin_app, hf]; exact p3
        · simp; omega
        · simp [keysR]
    obtain ⟨k1, k2, ⟨T, k3⟩, k4⟩ := key
    obtain ⟨i1, i2, ⟨T', i3⟩, i4⟩ := inner_rows h hs ps (addP row L p) k2 (by rw [k3]; exact rowOf_app hr T) (by rw [k3, List.length_append]; omega) hm hf fun q hq => hp q (List.mem_cons_of_mem _ hq)
    refine ⟨fun fs q6 q7 => ?_, i2, ⟨T ++ T', by rw [List.foldl_cons, i3, k3, List.append_assoc]⟩, fun q hq => ?_⟩
    · obtain ⟨q6', q7', e1⟩ := k1 fs q6 q7
      obtain ⟨q6'', q7'', e2⟩ := i1 fs q6' q7'
      refine ⟨q6'', q7'', ?_⟩
      rw [List.map_cons, sFor_cons]
      cases ep : (Tg.tp [.nm 6, .nm 7]).put (.val (.tuple [.str p.1, .int (p.2 : Int)])) (StR M b L k (some (.val (.int s))) q6 q7 fs) with
      | none => rw [ep] at e1; cases e1
      | some s1 =>
        rw [ep, Option.bind_some] at e1
        rw [Option.bind_some, e1, Option.bind_some]
        exact e2
    · rcases List.mem_cons.mp hq with rfl | hq
      · show q.2 ∈ keysR (ps.foldl (addP row) (addP row L q))
        rw [i3]
        simp only [keysR, List.map_append, List.mem_append]
        exact .inl k4
      · exact i4 q hq
theorem while_rows (h : M.Ok) : ∀ (m k : Nat) (L : RowsL), JR M b L → SL M.st M.ls L k → (∀ (i : Nat) (p : Nat × List Str), i < k → L[i]? = some p → ∀ l ∈ M.ls, M.st p.1 l ∈ keysR L) → k ≤ L.length → M.mv.length + 1 ≤ k + m →
    ∃ L', JR M b L' ∧ SL M.st M.ls L' L'.length ∧ (∀ p ∈ L', ∀ l ∈ M.ls, M.st p.1 l ∈ keysR L') ∧ ∀ fs q5 q6 q7, ∃ q5' q6' q7', sWhile Wc0_least_rows Wb0_least_rows m (StR M b L k q5 q6 q7 fs) = some (.nx (StR M b L' L'.length q5' q6' q7' fs))
  | 0, k, L, J, _, _, hk, hm => by
    have := J.len
    omega
  | m + 1, k, L, J, S, hc, hk, hm => by
    have hn := J.len
    have h9 := h.n9
    have hz := sizeLine_eq
    by_cases hlt : k < L.length
    · have hp : L[k]? = some L[k] := List.getElem?_eq_getElem hlt
      obtain ⟨r1, r2, r3, r4⟩ := J.row k _ hp
      generalize hq : L[k] = p at hp r1 r2 r3 r4
      obtain ⟨s, row⟩ := p
      simp only at r1 r2 r3 r4
      have hro : rowOf L s = some row := rowOf_mem J.nd (List.mem_of_getElem? hp)
      obtain ⟨g1, g2, g3⟩ := h.mv_at r1
      have zp : ∀ q ∈ M.ls.zip (M.nx s), q.1 ∈ M.ls ∧ q.2 < M.mv.length ∧ M.st s q.1 = q.2 := fun q hq => by
        obtain ⟨j, hj, e⟩ := List.getElem_of_mem hq
        have hj1 : j < M.ls.length := by simp at hj; omega
        have hj2 : j < (M.nx s).length := by omega
        rw [List.getElem_zip] at e
        subst e
        have hx : M.ls[j]? = some M.ls[j] := List.getElem?_eq_getElem hj1
        have e3 : M.lx M.ls[j] = j := by simp [Mach.lx, idx_of h.ln.asc hx]
        exact ⟨List.getElem_mem hj1, g3 _ (List.getElem_mem hj2), by simp [Mach.st, e3, hj2]⟩
      obtain ⟨i1, i2, ⟨T, i3⟩, i4⟩ := inner_rows (k := k) h (b := b) r1 (M.ls.zip (M.nx s)) L J hro (by omega) r2 r3 zp
      have S1 : SL M.st M.ls ((M.ls.zip (M.nx s)).foldl (addP row) L) (k + 1) := S.step h.ln.asc hp (List.map_fst_zip (by omega)) (fun q hq => (zp q hq).2.2) fun i q hi hq e => by
        obtain ⟨_, _, q3, _⟩ := J.row i q hq
        rw [← e, r3] at q3
        have e1 := (List.getElem?_eq_some_iff.mp hp).2
        obtain ⟨hiL, e2⟩ := List.getElem?_eq_some_iff.mp hq
        have := List.pairwise_iff_getElem.mp J.nd k i (by simpa [keysR] using hlt) (by simpa [keysR] using hiL) hi
        simp only [keysR, List.getElem_map, e1, e2] at this
        exact this q3
      generalize hL1 : (M.ls.zip (M.nx s)).foldl (addP row) L = L1 at i1 i2 i3 i4 S1
      have hk1 : keysR L1 = keysR L ++ keysR T := by rw [i3]; simp [keysR]
      obtain ⟨L', w1, w0, w2, w3⟩ := while_rows h m (k + 1) L1 i2 S1 (fun i p hi hp' l hl => by
        by_cases hik : i < k
        · have hp2 : L[i]? = some p := by
            rw [i3, List.getElem?_append_left (by omega)] at hp'
            exact hp'
          rw [hk1]
          exact List.mem_append_left _ (hc i p hik hp2 l hl)
        · have hik' : i = k := by omega
          subst hik'
          rw [i3, List.getElem?_append_left hlt, hp] at hp'
          cases hp'
          obtain ⟨h1, h2, h3⟩ := M.st_lt h r1 hl
          obtain ⟨j, e, hj⟩ := idx_mem hl
          have ej : M.lx l = j := by rw [e] at h3; exact (Option.some.inj h3).symm
          obtain ⟨hj', e2, _⟩ := List.findIdx?_eq_some_iff_getElem.mp e
          have e2 : M.ls[j] = l := by simpa using e2
          have hj2 : j < (M.nx s).length := by omega
          have : (M.ls[j], (M.nx s)[j]) ∈ M.ls.zip (M.nx s) := List.mem_iff_getElem.mpr ⟨j, by simp; omega, by rw [List.getElem_zip]⟩
          have := i4 _ this
          rw [ej, List.getElem?_eq_getElem hj2] at h2
          rw [← Option.some.inj h2]
          exact this) (by rw [i3, List.length_append]; omega) (by omega)
      refine ⟨L', w1, w0, w2, fun fs q5 q6 q7 => ?_⟩
      obtain ⟨q6', q7', e1⟩ := i1 fs q6 q7
      obtain ⟨a, b', c, e2⟩ := w3 fs (some (.val (.int s))) q6' q7'
      refine ⟨a, b', c, ?_⟩
      rw [← e2]
      have c1 : Wc0_least_rows (StR M b L k q5 q6 q7 fs) = some (true, StR M b L k q5 q6 q7 fs) := by
        have hlt' : (k : Int) < (L.length : Int) := by omega
        simp [Wc0_least_rows, lN_len, keysR_len, hlt']
      have e0 : (keysR L)[k]? = some s := by simp [keysR, hp]
      have c2 : Wb0_least_rows (StR M b L k q5 q6 q7 fs) = some (.nx (StR M b L1 (k + 1) (some (.val (.int s))) q6' q7' fs)) := by
        simp [Wb0_least_rows, lN_get, e0, g1, tN_eq, zipD_strN, e1]
      exact sWhile_true c1 c2
    · have hk' : k = L.length := by omega
      subst hk'
      refine ⟨L, J, S, fun p hp l hl => ?_, fun fs q5 q6 q7 => ⟨q5, q6, q7, ?_⟩⟩
      · obtain ⟨i, hi, e⟩ := List.getElem_of_mem hp
        exact hc i p hi (by rw [List.getElem?_eq_getElem hi, e]) l hl
      · have c1 : Wc0_least_rows (StR M b L L.length q5 q6 q7 fs) = some (false, StR M b L L.length q5 q6 q7 fs) := by
          simp [Wc0_least_rows, lN_len, keysR_len]
        exact sWhile_false c1
/-- least_rows: the states that can be reached, each with a way -/
theorem least_rows_ex (h : M.Ok) (hb : b < M.mv.length) : ∃ L, JR M b L ∧ SL M.st M.ls L L.length ∧ (∀ p ∈ L, ∀ l ∈ M.ls, M.st p.1 l ∈ keysR L) ∧ ∀ fs, D_least_rows [.val (mD M), .val (.int b)] fs = some (.ownK (encR L), fs) := by
  have J0 : JR M b [(b, [])] := ⟨rfl, by simp [keysR], fun i p hp => by
    have hi : i = 0 := by
      have := (List.getElem?_eq_some_iff.mp hp).1
      simp at this
      exact this
    subst hi
    cases hp
    exact ⟨hb, (fun l hl => by cases hl), rfl, Nat.le_refl _⟩⟩
  obtain ⟨L, w1, w0, w2, w3⟩ := while_rows h 64 0 [(b, [])] J0 (SL.one _ _ _) (fun i p hi => absurd hi (Nat.not_lt_zero _)) (by simp) (by have := h.n9; omega)
  refine ⟨L, w1, w0, w2, fun fs => ?_⟩
  obtain ⟨a, b', c, e⟩ := w3 fs none none none
  have hz := sizeLine_eq
  have z1 : 1 ≤ sizeLine := by omega
  have e' : sWhile Wc0_least_rows Wb0_least_rows 64 ⟨[some (.val (mD M)), some (.val (.int b)), some (.ownK [(.inl (b : Int), .tuple [])]), some (.ownL [.int b]), some (.val (.int 0)), none, none, none], fs⟩ = _ := e
  simp [D_least_rows, B_least_rows, keyD, z1, e']
end
end Q6

set_option Elab.async false
set_option linter.all false
set_option maxRecDepth 100000
set_option maxHeartbeats 1000000
/-! Q6q: what the law draws. -/
namespace Q6
open PySem PySem.Spec PyProof.Rows L2 PD
theorem eqvAll_nil (xs : List PyData) : PyData.eqvAll xs [] = xs.isEmpty := by cases xs <;> rfl
theorem rangeD_lN (m : Nat) : rangeD 0 m = lN (List.range m) := by rw [lN_map]; simp [rangeD]
theorem mod_in {i n : Int} (h : 0 < n) : 0 ≤ i % n ∧ i % n < n := ⟨Int.emod_nonneg i (by omega), Int.emod_lt_of_pos i h⟩
theorem shaped_ints (cs : List Int) : SeqAt.shaped (.list (cs.map .int)) = true := shaped_listI fun d hd => by
  obtain ⟨i, _, rfl⟩ := List.mem_map.mp hd
  exact ⟨rfl, Nat.zero_le _⟩
theorem small_mul {i : Int} (j : Int) (h : i.natAbs ≤ 1000000000000000000) : cMulB i j = true := by
  unfold cMulB
  rw [Nat.ble_eq_true_of_le h]
  rfl
def MixS : Sf := (sSeq (sAsg (fBin (f2 (fUn (fFz (fBin (f2 (fBin (f2 (fBin (f2 (fUn (fPeek 5) gInt1) (fC (.val (.int 1999712933)))) gModI) (fBin (f2 (fC (.val (.int 106217))) (fFget 0 "turn")) gMul)) gAdd) (fC (.val (.int 6101)))) gAdd)) gInt1) (fC (.val (.int 2147310983)))) gModI) (.nm 6)) (sSeq (sAsg (fBin (f2 (fUn (fFz (fBin (f2 (fBin (f2 (fBin (f2nn 6 6) gMul) (fBin (f2 (fC (.val (.int 30611027))) (fFget 0 "turn")) gMul)) gAdd) (fC (.val (.int 641)))) gAdd)) gInt1) (fC (.val (.int 2147310961)))) gModI) (.nm 6)) (sRet (fBin (f2e (fUn (fFz (fBin (f2 (fBin (f2 (fUn (fFz (fBin (f2 (fBin (f2nn 6 6) gMul) (fBin (f2e (fC (.val (.int 6211))) 6) gMul)) gAdd)) gInt1) (fC (.val (.int 2147200001)))) gModI) (fC (.val (.int 8)))) gDivI)) gInt1) 1) gModI))))
def DrawS (p : Ef) : Sf := (sSeq (sFset 0 "turn" (fBin (f2 (fFget 0 "turn") (fC (.val (.int 1)))) gAdd)) (sSeq (sIf (fB (fBin (f2 (fFget 0 "rest") (fC (.val (.int 0)))) gGt)) (sSeq (sAsg (fBin (f2e (fUn (fFz (fFget 0 "rest")) gInt1) 1) gModI) (.nm 2)) (sSeq (sFset 0 "rest" (fBin (f2e (fFget 0 "rest") 1) gDivI)) (sRetV 2))) sNil) (sSeq (sPar (fFget 0 "cells") (fFget 0 "spot") 3 4) (sSeq (sFset 0 "spot" (fBin (f2n 4 (fC (.val (.int 1)))) gAdd)) (sSeq (sAsg (fIf (fB (fBin (f2n 3 (fLst aNil)) (gEq true))) (fBin (f2n 3 (fBin (f2 (fUn (fPeek 4) gInt1) (fUn (fPeek 3) gLen)) gModI)) gSub) (fC (.val (.int 60617)))) (.nm 5)) (sSeq (sIf (bAnd (fB (fBin (f2n 5 p) gGe)) (fB (fBin (f2n 4 (fUn (fPeek 3) gLen)) gLt))) (sSeq (sFset 0 "rest" (fBin (f2nn 5 1) gDivI)) (sRet (fBin (f2e (fUn (fPeek 5) gInt1) 1) gModI))) sNil) MixS))))))
theorem draw_eq : B__law_draw = DrawS (fBin (f2 (fC (.val (.int 10))) (fC (.val (.int 18)))) gPowI) := rfl
theorem mix_ok {n : Int} (h0 : 0 < n) (cell : Int) (q2 q3 q4 : Option Pl) (fs : FS) : ∃ (k : Int) (s' : DS), MixS ⟨[some .fd, some (.val (.int n)), q2, q3, q4, some (.val (.int cell)), none], fs⟩ = some (.rt (.val (.int k)) s') ∧ 0 ≤ k ∧ k < n := by
  have h1 : cMulB 106217 fs.turn = true := small_mul _ (by decide)
  have h2 : cMulB 30611027 fs.turn = true := small_mul _ (by decide)
  have h4 : ∀ i : Int, cDivB i 8 = true := fun i => rfl
  simp only [MixS]
  generalize hm : (cell % 1999712933 + 106217 * fs.turn + 6101) % 2147310983 = m1
  have b1 : 0 ≤ m1 ∧ m1 < 2147310983 := by rw [← hm]; exact mod_in (by decide)
  have c1 : cMulB m1 m1 = true := small_mul _ (by omega)
  generalize hm2 : (m1 * m1 + 30611027 * fs.turn + 641) % 2147310961 = m2
  have b2 : 0 ≤ m2 ∧ m2 < 2147310961 := by rw [← hm2]; exact mod_in (by decide)
  have c2 : cMulB m2 m2 = true := small_mul _ (by omega)
  have c3 : cMulB 6211 m2 = true := small_mul _ (by decide)
  simp [h1, h2, h4, hm, c1, hm2, c2, c3, h0]
  exact mod_in h0
/-- a draw below n -/
theorem draw_ok {n : Int} (h0 : 0 < n) (h1 : n ≤ 1000000000) {p : Ef} {B : Int} (hp : ∀ s, p s = some (.val (.int B), s)) (fs : FS) : ∃ (k : Int) (s' : DS), DrawS p ⟨[some .fd, some (.val (.int n)), none, none, none, none, none], fs⟩ = some (.rt (.val (.int k)) s') ∧ 0 ≤ k ∧ k < n := by
  have hd : ∀ i : Int, cDivB i n = true := fun i => by
    unfold cDivB
    rw [decide_eq_true h0, Nat.ble_eq_true_of_le (by omega)]
    rfl
  obtain ⟨cells, spot, rest, turn⟩ := fs
  by_cases c1 : 0 < rest
  · refine ⟨rest % n, ⟨[some .fd, some (.val (.int n)), some (.val (.int (rest % n))), none, none, none, none], ⟨cells, spot, rest / n, turn + 1⟩⟩, ?_, mod_in h0⟩
    simp [DrawS, c1, h0, hd]
  · have hen : SeqAt.shaped (.list []) = true := rfl
    have hsh := shaped_ints cells
    cases hc : cells with
    | nil =>
      subst hc
      by_cases c2 : B ≤ 60617 ∧ spot < 0
      · refine ⟨60617 % n, ⟨[some .fd, some (.val (.int n)), none, some (.val (.list [])), some (.val (.int spot)), some (.val (.int 60617)), none], ⟨[], spot + 1, 60617 / n, turn + 1⟩⟩, ?_, mod_in h0⟩
        simp [DrawS, c1, h0, hd, hen, PyData.eqv, eqvAll_nil, hp, c2.1, c2.2]
      · obtain ⟨k, s', e, r⟩ := mix_ok h0 60617 none (some (.val (.list []))) (some (.val (.int spot))) ⟨[], spot + 1, rest, turn + 1⟩
        refine ⟨k, s', ?_, r⟩
        by_cases c3 : B ≤ 60617
        · have c4 : ¬ spot < 0 := fun z => c2 ⟨c3, z⟩
          simp [DrawS, c1, h0, hd, hen, PyData.eqv, eqvAll_nil, hp, c3, c4, e]
        · simp [DrawS, c1, h0, hd, hen, PyData.eqv, eqvAll_nil, hp, c3, e]
    | cons a r =>
      have hl : (0 : Int) < (cells.length : Int) := by rw [hc]; simp
      have hlN : 0 < cells.length := by omega
      rw [← hc]
      have hie : (cells.map PyData.int).isEmpty = false := by rw [hc]; rfl
      obtain ⟨i1, i2⟩ := mod_in (i := spot) hl
      obtain ⟨j, hj⟩ : ∃ j : Nat, spot % (cells.length : Int) = (j : Int) := ⟨(spot % (cells.length : Int)).toNat, by omega⟩
      have hjl : j < cells.length := by omega
      obtain ⟨cell, hcell⟩ : ∃ cell, cells[j]? = some cell := ⟨_, List.getElem?_eq_getElem hjl⟩
      by_cases c2 : B ≤ cell ∧ spot < (cells.length : Int)
      · refine ⟨cell % n, ⟨[some .fd, some (.val (.int n)), none, some (.val (.list (cells.map .int))), some (.val (.int spot)), some (.val (.int cell)), none], ⟨cells, spot + 1, cell / n, turn + 1⟩⟩, ?_, mod_in h0⟩
        clear hc
        simp [DrawS, c1, h0, hd, hen, hsh, PyData.eqv, eqvAll_nil, hp, c2.1, c2.2, hie, hl, hlN, hj, hcell]
      · obtain ⟨k, s', e, r⟩ := mix_ok h0 cell none (some (.val (.list (cells.map .int)))) (some (.val (.int spot))) ⟨cells, spot + 1, rest, turn + 1⟩
        refine ⟨k, s', ?_, r⟩
        clear hc
        by_cases c3 : B ≤ cell
        · have c4 : ¬ spot < (cells.length : Int) := fun z => c2 ⟨c3, z⟩
          simp [DrawS, c1, h0, hd, hen, hsh, PyData.eqv, eqvAll_nil, hp, c3, c4, hie, hl, hlN, hj, hcell, e]
        · simp [DrawS, c1, h0, hd, hen, hsh, PyData.eqv, eqvAll_nil, hp, c3, hie, hl, hlN, hj, hcell, e]
theorem d_draw {n : Int} (h0 : 0 < n) (h1 : n ≤ 1000000000) (fs : FS) : ∃ (k : Int) (fs' : FS), D__law_draw [.fd, .val (.int n)] fs = some (.val (.int k), fs') ∧ 0 ≤ k ∧ k < n := by
  obtain ⟨k, s', e, r⟩ := draw_ok h0 h1 (p := fBin (f2 (fC (.val (.int 10))) (fC (.val (.int 18)))) gPowI) (B := 10 ^ 18) (fun s => by simp) fs
  rw [← draw_eq] at e
  refine ⟨k, s'.fs, ?_, r⟩
  simp [D__law_draw, e]
end Q6

set_option Elab.async false
set_option linter.all false
set_option maxRecDepth 100000
set_option maxHeartbeats 1000000
/-! Q6r: one of some; the same; names. -/
namespace Q6
open PySem PySem.Spec PyProof.Rows L2 PD
theorem d_any {ds : List PyData} (h0 : ds ≠ []) (hl : ds.length ≤ 1000) (fs : FS) : ∃ d ∈ ds, ∃ fs', D__law_any [.fd, .val (.list ds)] fs = some (.val d, fs') := by
  have hp : 0 < ds.length := List.length_pos_iff.mpr h0
  obtain ⟨k, fs', e, h1, h2⟩ := d_draw (n := (ds.length : Int)) (by omega) (by omega) fs
  obtain ⟨j, rfl⟩ : ∃ j : Nat, k = (j : Int) := ⟨k.toNat, by omega⟩
  have hj : j < ds.length := by omega
  refine ⟨ds[j], List.getElem_mem hj, fs', ?_⟩
  simp [D__law_any, B__law_any, e, hj]
theorem d_anyT {ds : List PyData} (h0 : ds ≠ []) (hl : ds.length ≤ 1000) (fs : FS) : ∃ d ∈ ds, ∃ fs', D__law_any [.fd, .val (.tuple ds)] fs = some (.val d, fs') := by
  have hp : 0 < ds.length := List.length_pos_iff.mpr h0
  obtain ⟨k, fs', e, h1, h2⟩ := d_draw (n := (ds.length : Int)) (by omega) (by omega) fs
  obtain ⟨j, rfl⟩ : ∃ j : Nat, k = (j : Int) := ⟨k.toNat, by omega⟩
  have hj : j < ds.length := by omega
  refine ⟨ds[j], List.getElem_mem hj, fs', ?_⟩
  simp [D__law_any, B__law_any, e, hj]
theorem d_same {d : PyData} (h : reprOk d = true) (fs : FS) : D__law_same [.val d, .val d] fs = some (.val (.bool true), fs) := by
  simp [D__law_same, B__law_same, gRepr, h, gEqS, gS]
/-! ### names -/
def Low (x : Str) : Prop := ∀ c ∈ x.cps.toList, c ∈ lowerS.cps.toList
abbrev alphaS : Str := "abcdefghijklmnopqrstuvwxyz"
theorem alpha_low : ∀ c ∈ alphaS.cps.toList, c ∈ lowerS.cps.toList := by decide +kernel
theorem alpha_len : alphaS.cps.toList.length = 26 := by decide +kernel
theorem low_app {x y : Str} (hx : Low x) (hy : Low y) : Low (x ++ y) := fun c hc => by
  have e : (x ++ y).cps.toList = x.cps.toList ++ y.cps.toList := by
    show (x.cps ++ y.cps).toList = _
    simp
  rw [e] at hc
  rcases List.mem_append.mp hc with h | h
  · exact hx c h
  · exact hy c h
theorem len_app (x y : Str) : (x ++ y).length = x.length + y.length := by
  show (x.cps ++ y.cps).size = _
  simp [Str.length]
theorem name_loop (size : Int) : ∀ (fs : FS) (stem : Int), 0 ≤ stem → ∃ (t : Str) (q2 q4 : Option Pl), t.length = 4 ∧ Low t ∧ sFor (.nm 4) L0__law_name (rangeD 0 4) ⟨[some .fd, some (.val (.int size)), some (.val (.int stem)), some (.val (.str "")), none], fs⟩ = some (.nx ⟨[some .fd, some (.val (.int size)), q2, some (.val (.str t)), q4], fs⟩) := fun fs stem h0 => by
  have hz := sizeLine_eq
  rw [rangeD_lN, lN_map]
  obtain ⟨s', e, t, stem', q4, rfl, h1, h2, h3⟩ := sFor_inv (t := .nm 4) (f := L0__law_name) (fun n : Nat => .int (n : Int)) (fun i st => ∃ (t : Str) (stem : Int) (q4 : Option Pl), st = ⟨[some .fd, some (.val (.int size)), some (.val (.int stem)), some (.val (.str t)), q4], fs⟩ ∧ t.length = i ∧ Low t ∧ 0 ≤ stem) (List.range 4) 0
    ⟨[some .fd, some (.val (.int size)), some (.val (.int stem)), some (.val (.str "")), none], fs⟩ (fun j x st hj hI => by
      obtain ⟨t, stem, q4, rfl, h1, h2, h3⟩ := hI
      have hjn : j < 4 := by
        have := (List.getElem?_eq_some_iff.mp hj).1
        simpa using this
      obtain ⟨i1, i2⟩ := mod_in (i := stem) (n := 26) (by decide)
      obtain ⟨m, hm⟩ : ∃ m : Nat, stem % 26 = (m : Int) := ⟨(stem % 26).toNat, by omega⟩
      have hml : m < alphaS.cps.toList.length := by rw [alpha_len]; omega
      obtain ⟨c, hc⟩ : ∃ c, alphaS.cps.toList[m]? = some c := ⟨_, List.getElem?_eq_getElem hml⟩
      have hcl := alpha_low c (List.mem_of_getElem? hc)
      have hlow : Low ⟨#[c]⟩ := fun d hd => by
        have : d = c := by simpa using hd
        rw [this]; exact hcl
      have h26 : cDivB stem 26 = true := rfl
      have hal : alphaS.length ≤ sizeLine := by
        have : alphaS.length = 26 := by decide +kernel
        omega
      have hl1 : (⟨#[c]⟩ : Str).length = 1 := rfl
      have hlen : t.length + 1 ≤ sizeLine := by omega
      refine ⟨_, ?_, t ++ ⟨#[c]⟩, stem / 26, some (.val (.int (x : Int))), rfl, by rw [len_app, h1, hl1], low_app h2 hlow, Int.ediv_nonneg h3 (by decide)⟩
      simp [L0__law_name, hm, hal, hc, hl1, hlen, h26]) ⟨"", stem, none, rfl, rfl, fun c hc => (by cases hc), h0⟩
  rw [Nat.zero_add, List.length_range] at h1
  exact ⟨t, _, q4, h1, h2, e⟩
theorem d_name (fs : FS) : ∃ (x : Str) (fs' : FS), NameOk x ∧ D__law_name [.fd] fs = some (.val (.str x), fs') := by
  have hz := sizeLine_eq
  obtain ⟨k, fs1, e1, a1, a2⟩ := d_draw (n := 8) (by decide) (by decide) fs
  obtain ⟨stem, fs2, e2, b1, b2⟩ := d_draw (n := 456976) (by decide) (by decide) fs1
  obtain ⟨t, q2, q4, c1, c2, e3⟩ := name_loop (1 + k) fs2 stem b1
  obtain ⟨n, hn⟩ : ∃ n : Nat, 1 + k = (n : Int) := ⟨(1 + k).toNat, by omega⟩
  have hrl : (revS t).length = 4 := by
    show (revS t).cps.size = 4
    unfold revS
    simp
    exact c1
  have hrw : Low (revS t) := fun c hc => by
    unfold revS at hc
    simp at hc
    exact c2 c (by simpa using hc)
  have hw : Low (t ++ revS t) := low_app c2 hrw
  have hwl : (t ++ revS t).length = 8 := by rw [len_app, c1, hrl]
  have ex : (cutS (t ++ revS t) none (some (n : Int))).cps.toList = (t ++ revS t).cps.toList.take n := by
    unfold cutS
    rw [HT.sIx_nat, HT.sIx_none]
    have hsz : (t ++ revS t).length = (t ++ revS t).cps.size := rfl
    simp
    omega
  have hel : (cutS (t ++ revS t) none (some (n : Int))).length = n := by
    show (cutS (t ++ revS t) none (some (n : Int))).cps.size = n
    rw [← Array.length_toList, ex, List.length_take, Array.length_toList]
    have : (t ++ revS t).cps.size = 8 := hwl
    omega
  have hlow : Low (cutS (t ++ revS t) none (some (n : Int))) := fun c hc => by
    rw [ex] at hc
    exact hw c (List.mem_of_mem_take hc)
  have hok : okS (cutS (t ++ revS t) none (some (n : Int))) = true := by
    show (cutS (t ++ revS t) none (some (n : Int))).cps.all (· < 0x110000) = true
    rw [← Array.all_toList, List.all_eq_true]
    exact fun c hc => decide_eq_true (lower_lt c (hlow c hc))
  have hsh := shaped_str hok
  have hany : SeqAt.shaped (.str "any") = true := shaped_str (by decide +kernel)
  have hr4 : rOk (4 : Int) = true := rfl
  have h1z : t.length ≤ sizeLine := by omega
  have h2z : t.length + (revS t).length ≤ sizeLine := by omega
  have h3z : (t ++ revS t).length ≤ sizeLine := by omega
  rw [hn] at e3
  generalize hx : cutS (t ++ revS t) none (some (n : Int)) = x at hel hlow hsh
  by_cases c : x = "any"
  · refine ⟨"anyone", fs2, ⟨by decide, by decide +kernel, by decide +kernel, by decide +kernel⟩, ?_⟩
    simp [D__law_name, B__law_name, e1, e2, hr4, hn, e3, h1z, h2z, h3z, hx, hsh, hany, eqv_str, c]
  · refine ⟨x, fs2, ⟨c, by omega, by omega, hlow⟩, ?_⟩
    simp [D__law_name, B__law_name, e1, e2, hr4, hn, e3, h1z, h2z, h3z, hx, hsh, hany, eqv_str, c]
end Q6

set_option Elab.async false
set_option linter.all false
set_option maxRecDepth 100000
set_option maxHeartbeats 1000000
/-! Q6s: sets of names. -/
namespace Q6
open PySem PySem.Spec PyProof.Rows L2 PD
theorem sortS_asc {xs : List Str} (nd : xs.Nodup) : (sortS xs).Pairwise (fun x y => x.cps.toList < y.cps.toList) := by
  have h1 : (sortS xs).Pairwise (fun a b => leS a b = true) := List.pairwise_mergeSort leS_trans leS_total xs
  have h2 : (sortS xs).Nodup := (List.mergeSort_perm xs leS).nodup_iff.mpr nd
  refine (h1.and h2).imp fun {a b} ⟨h, hne⟩ => ?_
  have e : ltCps a.cps.toList b.cps.toList = true := by
    cases c : ltCps a.cps.toList b.cps.toList with
    | true => rfl
    | false =>
      unfold leS at h
      simp only [Bool.not_eq_true'] at h
      exact absurd (str_eq (PD.ltCps_eq _ _ c h)) hne
  rw [← lt_meets] at e
  exact of_decide_eq_true e
/-- names found so far -/
def Found (xs : List Str) : Prop := xs.Nodup ∧ ∀ x ∈ xs, NameOk x
def FdPl (xs : List Str) (r : Pl) : Prop := r = .ownL (xs.map .str) ∨ r = .val (.list (xs.map .str))
theorem FdPl.fz {xs : List Str} {r : Pl} (h : FdPl xs r) : fz r = .val (.list (xs.map .str)) := by rcases h with rfl | rfl <;> rfl
theorem shaped_strs {xs : List Str} (h : ∀ x ∈ xs, NameOk x) : SeqAt.shaped (.list (xs.map .str)) = true := shaped_listI fun d hd => by
  obtain ⟨x, hx, rfl⟩ := List.mem_map.mp hd
  exact ⟨lay_str (h x hx).ok, Nat.zero_le _⟩
theorem found_add {xs : List Str} (h : Found xs) {x : Str} (hx : NameOk x) (hn : x ∉ xs) : Found (xs ++ [x]) := ⟨List.nodup_append.mpr ⟨h.1, by simp, fun a ha b hb => by
    have : b = x := by simpa using hb
    rw [this]
    rintro rfl
    exact hn ha⟩, fun y hy => by
    rcases List.mem_append.mp hy with h1 | h1
    · exact h.2 y h1
    · rw [List.mem_singleton.mp h1]; exact hx⟩
theorem names_turn (many : Int) {xs : List Str} (h : Found xs) (hl : xs.length ≤ 100) {r : Pl} (hr : FdPl xs r) (q3 q4 : Option Pl) (fs : FS) :
    ∃ (ys : List Str) (r' : Pl) (q4' : Option Pl) (fs' : FS), L0__law_names ⟨[some .fd, some (.val (.int many)), some r, q3, q4], fs⟩ = some (.nx ⟨[some .fd, some (.val (.int many)), some r', q3, q4'], fs'⟩) ∧ Found ys ∧ FdPl ys r' ∧ ys.length ≤ xs.length + 1 := by
  have hz := sizeLine_eq
  obtain ⟨x, fs', hx, e⟩ := d_name fs
  have h1 := shaped_str hx.ok
  have h2 := shaped_strs h.2
  have h3 := any_eqv_str xs x
  have h1z : 1 ≤ sizeLine := by omega
  have h2z : xs.length + 1 ≤ sizeLine := by omega
  by_cases c : x ∈ xs
  · refine ⟨xs, .val (.list (xs.map .str)), some (.val (.str x)), fs', ?_, h, .inr rfl, by omega⟩
    rcases hr with rfl | rfl <;> simp [L0__law_names, e, h1, h2, h3, c]
  · refine ⟨xs ++ [x], .ownL ((xs ++ [x]).map .str), some (.val (.str x)), fs', ?_, found_add h hx c, .inl rfl, by simp⟩
    rcases hr with rfl | rfl <;> simp [L0__law_names, e, h1, h2, h3, c, h1z, h2z]
theorem fill_turn {many : Nat} {xs : List Str} (h : Found xs) (hl : xs.length ≤ many) (hm : many ≤ 100) {r : Pl} (hr : FdPl xs r) {x : Str} (hx : NameOk x) (q3 : Option Pl) (fs : FS) :
    ∃ (ys : List Str) (r' : Pl), L1__law_names ⟨[some .fd, some (.val (.int many)), some r, q3, some (.val (.str x))], fs⟩ = some (.nx ⟨[some .fd, some (.val (.int many)), some r', q3, some (.val (.str x))], fs⟩) ∧ Found ys ∧ FdPl ys r' ∧ ys.length ≤ many ∧ (∀ y ∈ xs, y ∈ ys) ∧ (ys.length = many ∨ x ∈ ys) := by
  have hz := sizeLine_eq
  have h1 := shaped_str hx.ok
  have h2 := shaped_strs h.2
  have h3 := any_eqv_str xs x
  have h1z : 1 ≤ sizeLine := by omega
  have h2z : xs.length + 1 ≤ sizeLine := by omega
  by_cases c : x ∈ xs
  · refine ⟨xs, .val (.list (xs.map .str)), ?_, h, .inr rfl, hl, fun _ h => h, .inr c⟩
    rcases hr with rfl | rfl <;> simp [L1__law_names, h1, h2, h3, c]
  · by_cases c2 : xs.length < many
    · refine ⟨xs ++ [x], .ownL ((xs ++ [x]).map .str), ?_, found_add h hx c, .inl rfl, by simp; omega, fun y hy => List.mem_append_left _ hy, .inr (by simp)⟩
      have c3 : (xs.length : Int) < (many : Int) := by omega
      rcases hr with rfl | rfl <;> simp [L1__law_names, h1, h2, h3, c, c2, c3, h1z, h2z]
    · refine ⟨xs, .val (.list (xs.map .str)), ?_, h, .inr rfl, hl, fun _ h => h, .inl (by omega)⟩
      have c3 : ¬ (xs.length : Int) < (many : Int) := by omega
      rcases hr with rfl | rfl <;> simp [L1__law_names, h1, h2, h3, c, c2, c3]
theorem nodup_sub : ∀ {as ys : List Str}, as.Nodup → (∀ a ∈ as, a ∈ ys) → as.length ≤ ys.length
  | [], _, _, _ => Nat.zero_le _
  | a :: as, ys, nd, h => by
    obtain ⟨n1, n2⟩ := List.nodup_cons.mp nd
    have h1 : a ∈ ys := h a List.mem_cons_self
    have ih := nodup_sub (ys := ys.erase a) n2 fun b hb => (List.mem_erase_of_ne (show b ≠ a from fun e => n1 (by rw [← e]; exact hb))).mpr (h b (List.mem_cons_of_mem _ hb))
    have h2 := List.length_erase_of_mem h1
    have h3 : 0 < ys.length := List.length_pos_of_mem h1
    rw [List.length_cons]
    omega
theorem four_names : ∀ x ∈ ([("k" : Str), "off", "on", "zz"] : List Str), NameOk x := by
  intro x hx
  simp only [List.mem_cons, List.not_mem_nil, or_false] at hx
  rcases hx with rfl | rfl | rfl | rfl <;> exact ⟨by decide, by decide +kernel, by decide +kernel, by decide +kernel⟩
theorem d_names {m : Nat} (h1 : 1 ≤ m) (h4 : m ≤ 4) (fs : FS) : ∃ (xs : List Str) (fs' : FS), NamesOk xs ∧ xs.length = m ∧ D__law_names [.fd, .val (.int m)] fs = some (.val (tS xs), fs') := by
  have hz := sizeLine_eq
  have hr : rOk (m : Int) = true := rOk_nat (by omega)
  obtain ⟨s1, e1, xs, r, q3, q4, fs1, rfl, f1, f2, f3⟩ := sFor_inv (t := .nm 3) (f := L0__law_names) (fun n : Nat => .int (n : Int)) (fun i st => ∃ (xs : List Str) (r : Pl) (q3 q4 : Option Pl) (fs1 : FS), st = ⟨[some .fd, some (.val (.int m)), some r, q3, q4], fs1⟩ ∧ Found xs ∧ FdPl xs r ∧ xs.length ≤ i) (List.range m) 0
    ⟨[some .fd, some (.val (.int m)), some (.ownL []), none, none], fs⟩ (fun j x st hj hI => by
      obtain ⟨xs, r, q3, q4, fs1, rfl, f1, f2, f3⟩ := hI
      have hjn : j < m := by
        have := (List.getElem?_eq_some_iff.mp hj).1
        simpa using this
      obtain ⟨ys, r', q4', fs', g1, g2, g3, g4⟩ := names_turn (m : Int) f1 (by omega) f2 (some (.val (.int (x : Int)))) q4 fs1
      exact ⟨_, by simpa using g1, ys, r', _, _, _, rfl, g2, g3, by omega⟩) ⟨[], _, none, none, fs, rfl, ⟨by simp, fun _ h => (by cases h)⟩, .inl rfl, Nat.zero_le _⟩
  rw [Nat.zero_add, List.length_range] at f3
  obtain ⟨s2, e2, ys, r', q4', rfl, g1, g2, g3, g4⟩ := sFor_inv (t := .nm 4) (f := L1__law_names) PyData.str (fun i st => ∃ (ys : List Str) (r' : Pl) (q4' : Option Pl), st = ⟨[some .fd, some (.val (.int m)), some r', q3, q4'], fs1⟩ ∧ Found ys ∧ FdPl ys r' ∧ ys.length ≤ m ∧ (ys.length = m ∨ ∀ x ∈ ([("k" : Str), "off", "on", "zz"] : List Str).take i, x ∈ ys)) ["k", "off", "on", "zz"] 0
    ⟨[some .fd, some (.val (.int m)), some r, q3, q4], fs1⟩ (fun j x st hj hI => by
      obtain ⟨ys, r', q4', rfl, g1, g2, g3, g4⟩ := hI
      have hx := four_names x (List.mem_of_getElem? hj)
      obtain ⟨zs, r2, k1, k2, k3, k4, k5, k6⟩ := fill_turn g1 g3 (by omega) g2 hx q3 fs1
      refine ⟨_, by simpa using k1, zs, r2, _, rfl, k2, k3, k4, ?_⟩
      rcases k6 with k6 | k6
      · exact .inl k6
      · rcases g4 with g4 | g4
        · refine .inl ?_
          have : ys.length ≤ zs.length := nodup_sub g1.1 k5
          omega
        · refine .inr fun y hy => ?_
          rw [Nat.zero_add, List.take_add_one, hj] at hy
          rcases List.mem_append.mp hy with h | h
          · exact k5 y (g4 y (by rw [Nat.zero_add]; exact h))
          · have : y = x := by simpa using h
            rw [this]; exact k6) ⟨xs, r, q4, rfl, f1, f2, f3, .inr fun _ h => (by cases h)⟩
  have g5 : ys.length = m := by
    rcases g4 with g4 | g4
    · exact g4
    · have := nodup_sub (as := [("k" : Str), "off", "on", "zz"]) (ys := ys) (by decide +kernel) fun a ha => g4 a (by simpa using ha)
      simp at this
      omega
  have hs := gSorted_s (ns := ys) (by omega) (fun z => by rw [z] at g5; simp at g5; omega)
  have hsn : (sortS ys).length = ys.length := (List.mergeSort_perm ys leS).length_eq
  refine ⟨sortS ys, fs1, ⟨fun x hx => g1.2 x ((List.mergeSort_perm ys leS).mem_iff.mp hx), sortS_asc g1.1, by omega⟩, by omega, ?_⟩
  rw [← lN_map, ← rangeD_lN] at e1
  have e2' : sFor (.nm 4) L1__law_names [.str "k", .str "off", .str "on", .str "zz"] ⟨[some .fd, some (.val (.int m)), some r, q3, q4], fs1⟩ = _ := e2
  have h4z : 4 ≤ sizeLine := by omega
  have hfz := g2.fz
  simp [D__law_names, B__law_names, hr, e1, h4z, e2', hfz, hs]
end Q6

set_option Elab.async false
set_option linter.all false
set_option maxRecDepth 100000
set_option maxHeartbeats 2000000
/-! Q6t: the machines that the law draws: moves. -/
namespace Q6
open PySem PySem.Spec PyProof.Rows L2 PD
@[simp] theorem gMin_2 (a b : Int) : gExtL minI (.val (.list [.int a, .int b])) = some (.val (.int (min a b))) := rfl
@[simp] theorem gMax_2 (a b : Int) : gMax (.val (.list [.int a, .int b])) = some (.val (.int (max a b))) := rfl
theorem eqv_int (a b : Int) : PyData.eqv (.int a) (.int b) = decide (a = b) := by
  unfold PyData.eqv
  rw [Bool.eq_iff_iff]
  simp
theorem paired_nats {α : Type} {P : Nat → Prop} : ∀ {xs : List α} {ds : List PyData}, Paired (fun _ d => ∃ t : Nat, d = .int (t : Int) ∧ P t) xs ds → ∃ ts : List Nat, ds = lN ts ∧ ts.length = xs.length ∧ ∀ t ∈ ts, P t
  | _, _, .nil => ⟨[], rfl, rfl, fun _ h => (by cases h)⟩
  | _, _, .cons ⟨t, h1, h2⟩ r => by
    obtain ⟨ts, e1, e2, e3⟩ := paired_nats r
    refine ⟨t :: ts, by rw [h1, e1]; rfl, by simp [e2], fun u hu => ?_⟩
    rcases List.mem_cons.mp hu with rfl | hu
    · exact h2
    · exact e3 u hu
theorem paired_ints {α : Type} {P : Int → Prop} : ∀ {xs : List α} {ds : List PyData}, Paired (fun _ d => ∃ t : Int, d = .int t ∧ P t) xs ds → ∃ ts : List Int, ds = ts.map .int ∧ ts.length = xs.length ∧ ∀ t ∈ ts, P t
  | _, _, .nil => ⟨[], rfl, rfl, fun _ h => (by cases h)⟩
  | _, _, .cons ⟨t, h1, h2⟩ r => by
    obtain ⟨ts, e1, e2, e3⟩ := paired_ints r
    refine ⟨t :: ts, by rw [h1, e1]; rfl, by simp [e2], fun u hu => ?_⟩
    rcases List.mem_cons.mp hu with rfl | hu
    · exact h2
    · exact e3 u hu

abbrev rowsL (found : List (List Nat)) : List PyData := found.map fun r => .list (lN r)
abbrev StS (way : Int) (many wide half : Nat) (found : List (List Nat)) (s : Nat) (q7 : Option Pl) (fs : FS) : DS := ⟨[some .fd, some (.val (.int way)), some (.val (.int many)), some (.val (.int wide)), some (.val (.int half)), some (.ownL (rowsL found)), some (.val (.int s)), q7, none, none], fs⟩
/-- a list of draws is a row -/
theorem shape_lc {way : Int} {many wide half : Nat} {found : List (List Nat)} {s v : Nat} (hv : v = 8 ∨ v = 9) {α : Type} (enc : α → PyData) (xs : List α) (hl : xs.length ≤ 100) (fe : Ef) (P : Nat → Prop) (q7 : Option Pl) (fs : FS)
    (h : ∀ x ∈ xs, ∀ fs', ∃ (t : Nat) (fs'' : FS), P t ∧ turnE [v] (.nm v) fe (enc x) (StS way many wide half found s q7 fs') = some (.val (.int (t : Int)), StS way many wide half found s q7 fs'')) :
    ∃ (row : List Nat) (fs' : FS), row.length = xs.length ∧ (∀ t ∈ row, P t) ∧ lcLoop [v] (.nm v) bYes fe (xs.map enc) [] (StS way many wide half found s q7 fs) = some (lN row, StS way many wide half found s q7 fs') := by
  have hz := sizeLine_eq
  obtain ⟨ds, st, e, ⟨fs', rfl⟩, p⟩ := lc_turnR (vs := [v]) (t := .nm v) (fe := fe) enc (fun st => ∃ fs', st = StS way many wide half found s q7 fs') (fun _ d => ∃ t : Nat, d = .int (t : Int) ∧ P t) xs (StS way many wide half found s q7 fs) (by omega) (fun x hx st hst => by
    obtain ⟨fs', rfl⟩ := hst
    obtain ⟨t, fs'', h1, h2⟩ := h x hx fs'
    exact ⟨_, _, h2, ⟨t, rfl, h1⟩, fs'', rfl⟩) ⟨fs, rfl⟩
  obtain ⟨row, rfl, r1, r2⟩ := paired_nats p
  exact ⟨row, fs', r1, r2, e⟩
theorem shape_turn {way : Int} {many wide half : Nat} (hm : many ≤ 6) (hw1 : 1 ≤ wide) (hw : wide ≤ 9) (hh : half = (many + 1) / 2) {found : List (List Nat)} {s : Nat} (hs : s < many) (hf : found.length = s) (hr : ∀ r ∈ found, r.length = wide ∧ ∀ t ∈ r, t < many) (q7 : Option Pl) (fs : FS) :
    ∃ (row : List Nat) (fs' : FS), row.length = wide ∧ (∀ t ∈ row, t < many) ∧ L0__law_shape (StS way many wide half found s q7 fs) = some (.nx (StS way many wide half (found ++ [row]) s (some (.val (.list (lN row)))) fs')) := by
  have hz := sizeLine_eq
  have z2 : 2 ≤ sizeLine := by omega
  have z3 : 3 ≤ sizeLine := by omega
  have z1 : 1 ≤ sizeLine := by omega
  have z5 : found.length < sizeLine := by omega
  have hrw : rOk (wide : Int) = true := rOk_nat (by omega)
  have ea : ∀ row : List Nat, rowsL (found ++ [row]) = rowsL found ++ [.list (lN row)] := fun row => by simp [rowsL]
  have ez : (rowsL found).length < sizeLine := by simpa [rowsL] using z5
  have hm0 : ¬ many = 0 := by omega
  by_cases c2 : way = 2
  · subst c2
    have hw2 : ((wide : Int) - 1) = ((wide - 1 : Nat) : Int) := by omega
    have hrw' : rOk ((wide - 1 : Nat) : Int) = true := rOk_nat (by omega)
    obtain ⟨row, fs1, r1, r2, e1⟩ := shape_lc (way := 2) (many := many) (wide := wide) (half := half) (found := found) (s := s) (v := 8) (.inl rfl) (fun n : Nat => .int (n : Int)) (List.range (wide - 1)) (by simp; omega) Ce0__law_shape (fun t => t < many) q7 fs (fun x hx fs' => by
      obtain ⟨d, hd, fs2, e2⟩ := d_any (ds := [.int 0, .int s, .int (min ((s : Int) + 1) ((many : Int) - 1))]) (by simp) (by simp) fs'
      have : ∃ t : Nat, d = .int (t : Int) ∧ t < many := by
        simp only [List.mem_cons, List.not_mem_nil, or_false] at hd
        rcases hd with rfl | rfl | rfl
        · exact ⟨0, rfl, by omega⟩
        · exact ⟨s, rfl, hs⟩
        · exact ⟨(min ((s : Int) + 1) ((many : Int) - 1)).toNat, by congr 1; omega, by omega⟩
      obtain ⟨t, rfl, ht⟩ := this
      exact ⟨t, fs2, ht, by simp [turnE, Ce0__law_shape, z2, z3, e2]⟩)
    rw [← lN_map, ← rangeD_lN] at e1
    rw [List.length_range] at r1
    refine ⟨(min ((s : Int) + 1) ((many : Int) - 1)).toNat :: row, fs1, by simp; omega, fun t ht => ?_, ?_⟩
    · rcases List.mem_cons.mp ht with rfl | h
      · omega
      · exact r2 t h
    · have em : ((min ((s : Int) + 1) ((many : Int) - 1)).toNat : Int) = min ((s : Int) + 1) ((many : Int) - 1) := by omega
      have el : (lN row).length + 1 ≤ sizeLine := by rw [lN_len]; omega
      have hl2 : 1 + (lN row).length ≤ sizeLine := by omega
      unfold StS at e1 ⊢
      rw [ea]
      simp only [lN_cons, em]
      generalize lN row = rr at e1 el hl2 ⊢
      generalize rowsL found = ff at e1 ez ⊢
      simp [L0__law_shape, shaped_int, eqv_int, z1, z2, hw2, hrw', plainAt, e1, el, hl2, ez]
  by_cases c3 : way = 3
  · subst c3
    have hp : (0 : Int) < (many : Int) := by omega
    obtain ⟨row, fs1, r1, r2, e1⟩ := shape_lc (way := 3) (many := many) (wide := wide) (half := half) (found := found) (s := s) (v := 8) (.inl rfl) (fun n : Nat => .int (n : Int)) (List.range wide) (by simp; omega) Ce1__law_shape (fun t => t < many) q7 fs (fun x hx fs' => by
      obtain ⟨i1, i2⟩ := mod_in (i := (s : Int) * (wide : Int) + (x : Int)) hp
      have hsm : cMulB (s : Int) (wide : Int) = true := small_mul _ (by omega)
      refine ⟨(((s : Int) * (wide : Int) + (x : Int)) % (many : Int)).toNat, fs', by omega, ?_⟩
      have em : ((((s : Int) * (wide : Int) + (x : Int)) % (many : Int)).toNat : Int) = ((s : Int) * (wide : Int) + (x : Int)) % (many : Int) := by omega
      rw [em]
      simp [turnE, Ce1__law_shape, hsm, hp, hm0])
    rw [← lN_map, ← rangeD_lN] at e1
    rw [List.length_range] at r1
    refine ⟨row, fs1, r1, r2, ?_⟩
    unfold StS at e1 ⊢
    rw [ea]
    generalize lN row = rr at e1 ⊢
    generalize rowsL found = ff at e1 ez ⊢
    simp [L0__law_shape, shaped_int, eqv_int, hrw, plainAt, e1, ez]
  by_cases c4 : way = 4
  · subst c4
    obtain ⟨row, fs1, r1, r2, e1⟩ := shape_lc (way := 4) (many := many) (wide := wide) (half := half) (found := found) (s := s) (v := 8) (.inl rfl) (fun n : Nat => .int (n : Int)) (List.range wide) (by simp; omega) Ce2__law_shape (fun t => t < many) q7 fs (fun x hx fs' => by
      obtain ⟨k, fs2, k1, k2, k3⟩ := d_draw (n := 2) (by decide) (by decide) fs'
      refine ⟨(max ((s : Int) - 1 - k) 0).toNat, fs2, by omega, ?_⟩
      have em : ((max ((s : Int) - 1 - k) 0).toNat : Int) = max ((s : Int) - 1 - k) 0 := by omega
      rw [em]
      simp [turnE, Ce2__law_shape, k1, z2])
    rw [← lN_map, ← rangeD_lN] at e1
    rw [List.length_range] at r1
    refine ⟨row, fs1, r1, r2, ?_⟩
    unfold StS at e1 ⊢
    rw [ea]
    generalize lN row = rr at e1 ⊢
    generalize rowsL found = ff at e1 ez ⊢
    simp [L0__law_shape, shaped_int, eqv_int, hrw, plainAt, e1, ez]
  by_cases c1 : way = 1 ∧ half ≤ s
  · obtain ⟨c1, hhs⟩ := c1
    subst c1
    have hh0 : ¬ half = 0 := by omega
    have hh1 : 1 ≤ half := by omega
    have hj : s - half < found.length := by omega
    obtain ⟨r0, hr0⟩ : ∃ r0, found[s - half]? = some r0 := ⟨_, List.getElem?_eq_getElem hj⟩
    obtain ⟨g1, g2⟩ := hr r0 (List.mem_of_getElem? hr0)
    have ez0 : (rowsL found)[s - half]? = some (.list (lN r0)) := by simp [rowsL, hr0]
    have es : (s : Int) - (half : Int) = ((s - half : Nat) : Int) := by omega
    have hp : (0 : Int) < (half : Int) := by omega
    have hpm : cMulB (half : Int) 0 = true := small_mul _ (by omega)
    obtain ⟨row1, fs1, r1, r2, e1⟩ := shape_lc (way := 1) (many := many) (wide := wide) (half := half) (found := found) (s := s) (v := 9) (.inr rfl) (fun n : Nat => .int (n : Int)) r0 (by omega) Ce3__law_shape (fun t => t < half) q7 fs (fun x hx fs' => by
      obtain ⟨i1, i2⟩ := mod_in (i := (x : Int)) hp
      refine ⟨((x : Int) % (half : Int)).toNat, fs', by omega, ?_⟩
      have em : ((((x : Int) % (half : Int)).toNat : Nat) : Int) = (x : Int) % (half : Int) := by omega
      rw [em]
      simp [turnE, Ce3__law_shape, hp, hh0])
    rw [← lN_map] at e1
    obtain ⟨row2, fs2, p1, p2, e2⟩ := shape_lc (way := 1) (many := many) (wide := wide) (half := half) (found := found) (s := s) (v := 9) (.inr rfl) (fun n : Nat => .int (n : Int)) row1 (by omega) Ce4__law_shape (fun t => t < half + half) (some (.val (.list (lN row1)))) fs1 (fun x hx fs' => by
      obtain ⟨k, fs3, k1, k2, k3⟩ := d_draw (n := 2) (by decide) (by decide) fs'
      have hx1 := r2 x hx
      have hmul : cMulB (half : Int) k = true := small_mul _ (by omega)
      have hk : k = 0 ∨ k = 1 := by omega
      refine ⟨((x : Int) + (half : Int) * k).toNat, fs3, by rcases hk with rfl | rfl <;> simp <;> omega, ?_⟩
      have em : ((((x : Int) + (half : Int) * k).toNat : Nat) : Int) = (x : Int) + (half : Int) * k := by rcases hk with rfl | rfl <;> simp <;> omega
      rw [em]
      simp [turnE, Ce4__law_shape, k1, hmul])
    rw [← lN_map] at e2
    obtain ⟨row3, fs3, t1, t2, e3⟩ := shape_lc (way := 1) (many := many) (wide := wide) (half := half) (found := found) (s := s) (v := 9) (.inr rfl) (fun n : Nat => .int (n : Int)) row2 (by omega) Ce5__law_shape (fun t => t < many) (some (.val (.list (lN row2)))) fs2 (fun x hx fs' => by
      have hx1 := p2 x hx
      by_cases cx : x < many
      · have cx' : (x : Int) < (many : Int) := by omega
        exact ⟨x, fs', cx, by simp [turnE, Ce5__law_shape, cx']⟩
      · have cx' : ¬ ((x : Int) < (many : Int)) := by omega
        have em : ((x - half : Nat) : Int) = (x : Int) - (half : Int) := by omega
        refine ⟨x - half, fs', by omega, ?_⟩
        rw [em]
        simp [turnE, Ce5__law_shape, cx'])
    rw [← lN_map] at e3
    refine ⟨row3, fs3, by omega, t2, ?_⟩
    have cge : (half : Int) ≤ (s : Int) := by omega
    unfold StS at e1 e2 e3 ⊢
    rw [ea]
    generalize lN row1 = rr1 at e1 e2 ⊢
    generalize lN row2 = rr2 at e2 e3 ⊢
    generalize lN row3 = rr3 at e3 ⊢
    generalize lN r0 = rr0 at e1 ez0 ⊢
    generalize rowsL found = ff at e1 e2 e3 ez ez0 ⊢
    simp [L0__law_shape, shaped_int, eqv_int, cge, hhs, es, ez0, plainAt, e1, e2, e3, ez]
  · obtain ⟨row, fs1, r1, r2, e1⟩ := shape_lc (way := way) (many := many) (wide := wide) (half := half) (found := found) (s := s) (v := 8) (.inl rfl) (fun n : Nat => .int (n : Int)) (List.range wide) (by simp; omega) Ce6__law_shape (fun t => t < many) q7 fs (fun x hx fs' => by
      obtain ⟨k, fs2, k1, k2, k3⟩ := d_draw (n := (many : Int)) (by omega) (by omega) fs'
      refine ⟨k.toNat, fs2, by omega, ?_⟩
      have em : ((k.toNat : Nat) : Int) = k := by omega
      rw [em]
      simp [turnE, Ce6__law_shape, k1])
    rw [← lN_map, ← rangeD_lN] at e1
    rw [List.length_range] at r1
    refine ⟨row, fs1, r1, r2, ?_⟩
    unfold StS at e1 ⊢
    rw [ea]
    generalize lN row = rr at e1 ⊢
    generalize rowsL found = ff at e1 ez ⊢
    by_cases c1' : way = 1
    · have cge : ¬ (half ≤ s) := fun z => c1 ⟨c1', z⟩
      subst c1'
      simp [L0__law_shape, shaped_int, eqv_int, cge, hrw, plainAt, e1, ez]
    · simp [L0__law_shape, shaped_int, eqv_int, c1', c2, c3, c4, hrw, plainAt, e1, ez]
end Q6

set_option Elab.async false
set_option linter.all false
set_option maxRecDepth 100000
set_option maxHeartbeats 2000000
/-! Q6u: moves, answers, whole. -/
namespace Q6
open PySem PySem.Spec PyProof.Rows L2 PD
theorem d_shape {way : Int} {many wide : Nat} (h1 : 1 ≤ many) (hm : many ≤ 6) (hw1 : 1 ≤ wide) (hw : wide ≤ 9) (fs : FS) :
    ∃ (mv : List (List Nat)) (fs' : FS), mv.length = many ∧ (∀ r ∈ mv, r.length = wide ∧ ∀ t ∈ r, t < many) ∧ D__law_shape [.fd, .val (.int way), .val (.int many), .val (.int wide)] fs = some (.ownL (rowsL mv), fs') := by
  have hz := sizeLine_eq
  obtain ⟨half, hh⟩ : ∃ half : Nat, half = (many + 1) / 2 := ⟨_, rfl⟩
  have eh : ((many : Int) + 1) / 2 = (half : Int) := by omega
  have hd : cDivB ((many : Int) + 1) 2 = true := rfl
  have hrm : rOk (many : Int) = true := rOk_nat (by omega)
  obtain ⟨st, e, mv, q6, q7, fs', rfl, l1, l2⟩ := sFor_inv (t := .nm 6) (f := L0__law_shape) (fun n : Nat => .int (n : Int)) (fun i st => ∃ (mv : List (List Nat)) (q6 q7 : Option Pl) (fs' : FS),
      st = ⟨[some .fd, some (.val (.int way)), some (.val (.int many)), some (.val (.int wide)), some (.val (.int half)), some (.ownL (rowsL mv)), q6, q7, none, none], fs'⟩ ∧ mv.length = i ∧ ∀ r ∈ mv, r.length = wide ∧ ∀ t ∈ r, t < many) (List.range many) 0
    ⟨[some .fd, some (.val (.int way)), some (.val (.int many)), some (.val (.int wide)), some (.val (.int half)), some (.ownL (rowsL [])), none, none, none, none], fs⟩ (fun j x st hj hI => by
      obtain ⟨mv, q6, q7, fs1, rfl, l1, l2⟩ := hI
      have hjn : j < many := by
        have := (List.getElem?_eq_some_iff.mp hj).1
        simpa using this
      have hx : x = j := by
        rw [List.getElem?_range hjn] at hj
        exact (Option.some.inj hj).symm
      subst hx
      obtain ⟨row, fs2, r1, r2, r3⟩ := shape_turn (way := way) hm hw1 hw hh hjn (by omega) l2 q7 fs1
      refine ⟨_, by rw [put_nm, Option.bind_some]; exact r3, mv ++ [row], _, _, fs2, rfl, by simp; omega, fun r hr => ?_⟩
      rcases List.mem_append.mp hr with h | h
      · exact l2 r h
      · rw [List.mem_singleton.mp h]
        exact ⟨r1, r2⟩) ⟨[], none, none, fs, rfl, rfl, fun _ h => (by cases h)⟩
  rw [Nat.zero_add, List.length_range] at l1
  rw [← lN_map, ← rangeD_lN] at e
  have e' : sFor (.nm 6) L0__law_shape (rangeD 0 many) ⟨[some .fd, some (.val (.int way)), some (.val (.int many)), some (.val (.int wide)), some (.val (.int half)), some (.ownL []), none, none, none, none], fs⟩ = _ := e
  refine ⟨mv, fs', l1, l2, ?_⟩
  simp [D__law_shape, B__law_shape, hd, eh, hrm, e']
abbrev ansL (found : List (List Int)) : List PyData := found.map fun r => .list (r.map .int)
abbrev StE (way : Int) (many wide half : Nat) (top : Int) (found : List (List Int)) (s : Nat) (q8 : Option Pl) (fs : FS) : DS := ⟨[some .fd, some (.val (.int way)), some (.val (.int many)), some (.val (.int wide)), some (.val (.int half)), some (.val (.int top)), some (.ownL (ansL found)), some (.val (.int s)), q8, none], fs⟩
theorem seen_turn {way : Int} {many wide half : Nat} {top : Int} (hm : many ≤ 6) (hw : wide ≤ 9) (ht : 2 ≤ top) (hh1 : 1 ≤ half) {found : List (List Int)} {s : Nat} (hs : s < many) (hf : found.length = s) (hr : ∀ r ∈ found, r.length = wide ∧ ∀ i ∈ r, 0 ≤ i) (q8 : Option Pl) (fs : FS) :
    ∃ (row : List Int) (q8' : Option Pl) (fs' : FS), row.length = wide ∧ (∀ i ∈ row, 0 ≤ i) ∧ L0__law_seen (StE way many wide half top found s q8 fs) = some (.nx (StE way many wide half top (found ++ [row]) s q8' fs')) := by
  have hz := sizeLine_eq
  have hrw : rOk (wide : Int) = true := rOk_nat (by omega)
  have ez : (ansL found).length < sizeLine := by simp [ansL]; omega
  have ea : ∀ row : List Int, ansL (found ++ [row]) = ansL found ++ [.list (row.map .int)] := fun row => by simp [ansL]
  obtain ⟨ds, st, e1, ⟨fs1, rfl⟩, p⟩ := lc_turnR (vs := [9]) (t := .nm 9) (fe := Ce0__law_seen) (fun n : Nat => .int (n : Int)) (fun st => ∃ fs', st = StE way many wide half top found s q8 fs') (fun _ d => ∃ i : Int, d = .int i ∧ 0 ≤ i) (List.range wide) (StE way many wide half top found s q8 fs) (by simp; omega) (fun x hx st hst => by
    obtain ⟨fs', rfl⟩ := hst
    by_cases c : top < 9
    · obtain ⟨k, fs2, k1, k2, k3⟩ := d_draw (n := top) (by omega) (by omega) fs'
      exact ⟨.int k, _, by simp [turnE, Ce0__law_seen, c, k1], ⟨k, rfl, k2⟩, fs2, rfl⟩
    · obtain ⟨k, fs2, k1, k2, k3⟩ := d_draw (n := 2) (by decide) (by decide) fs'
      exact ⟨.int (top - k), _, by simp [turnE, Ce0__law_seen, c, k1], ⟨_, rfl, by omega⟩, fs2, rfl⟩) ⟨fs, rfl⟩
  obtain ⟨row, rfl, r1, r2⟩ := paired_ints p
  rw [List.length_range] at r1
  rw [← lN_map, ← rangeD_lN] at e1
  have get : ∀ j, j < s → ∃ r0 : List Int, (ansL found)[j]? = some (.list (r0.map .int)) ∧ r0.length = wide ∧ ∀ i ∈ r0, 0 ≤ i := fun j hj => by
    have hjl : j < found.length := by omega
    obtain ⟨g1, g2⟩ := hr _ (List.getElem_mem hjl)
    exact ⟨found[j], by simp [ansL, hjl], g1, g2⟩
  by_cases c1 : way = 1
  · subst c1
    by_cases cs : half ≤ s
    · obtain ⟨r0, g0, g1, g2⟩ := get (s - half) (by omega)
      have es : (s : Int) - (half : Int) = ((s - half : Nat) : Int) := by omega
      refine ⟨r0, some (.val (.list (r0.map .int))), fs1, g1, g2, ?_⟩
      unfold StE at e1 ⊢
      rw [ea]
      generalize row.map PyData.int = rr at e1 ⊢
      generalize r0.map PyData.int = rr0 at g0 ⊢
      generalize ansL found = ff at e1 ez g0 ⊢
      simp [L0__law_seen, shaped_int, eqv_int, cs, es, g0, hrw, plainAt, e1, ez]
    · refine ⟨row, some (.ownL (row.map .int)), fs1, r1, r2, ?_⟩
      unfold StE at e1 ⊢
      rw [ea]
      generalize row.map PyData.int = rr at e1 ⊢
      generalize ansL found = ff at e1 ez ⊢
      simp [L0__law_seen, shaped_int, eqv_int, cs, hrw, plainAt, e1, ez]
  by_cases c2 : way = 2
  · subst c2
    by_cases cs : 0 < s ∧ (s : Int) < (many : Int) - 1
    · obtain ⟨cs1, cs2⟩ := cs
      obtain ⟨r0, g0, g1, g2⟩ := get 0 cs1
      refine ⟨r0, some (.val (.list (r0.map .int))), fs1, g1, g2, ?_⟩
      unfold StE at e1 ⊢
      rw [ea]
      generalize row.map PyData.int = rr at e1 ⊢
      generalize r0.map PyData.int = rr0 at g0 ⊢
      generalize ansL found = ff at e1 ez g0 ⊢
      simp [L0__law_seen, shaped_int, eqv_int, cs1, cs2, g0, hrw, plainAt, e1, ez]
    · refine ⟨row, some (.ownL (row.map .int)), fs1, r1, r2, ?_⟩
      unfold StE at e1 ⊢
      rw [ea]
      generalize row.map PyData.int = rr at e1 ⊢
      generalize ansL found = ff at e1 ez ⊢
      by_cases cs1 : 0 < s
      · have cs2 : ¬ (s : Int) < (many : Int) - 1 := fun z => cs ⟨cs1, z⟩
        simp [L0__law_seen, shaped_int, eqv_int, cs1, cs2, hrw, plainAt, e1, ez]
      · simp [L0__law_seen, shaped_int, eqv_int, cs1, hrw, plainAt, e1, ez]
  · refine ⟨row, some (.ownL (row.map .int)), fs1, r1, r2, ?_⟩
    unfold StE at e1 ⊢
    rw [ea]
    generalize row.map PyData.int = rr at e1 ⊢
    generalize ansL found = ff at e1 ez ⊢
    simp [L0__law_seen, shaped_int, eqv_int, c1, c2, hrw, plainAt, e1, ez]
theorem d_seen {way : Int} {many wide : Nat} (h1 : 1 ≤ many) (hm : many ≤ 6) (hw : wide ≤ 9) (fs : FS) :
    ∃ (an : List (List Int)) (fs' : FS), an.length = many ∧ (∀ r ∈ an, r.length = wide ∧ ∀ i ∈ r, 0 ≤ i) ∧ D__law_seen [.fd, .val (.int way), .val (.int many), .val (.int wide)] fs = some (.ownL (ansL an), fs') := by
  have hz := sizeLine_eq
  obtain ⟨half, hh⟩ : ∃ half : Nat, half = (many + 1) / 2 := ⟨_, rfl⟩
  have eh : ((many : Int) + 1) / 2 = (half : Int) := by omega
  have hd : cDivB ((many : Int) + 1) 2 = true := rfl
  have hrm : rOk (many : Int) = true := rOk_nat (by omega)
  obtain ⟨B, hB, hB2⟩ : ∃ B : Int, (10 : Int) ^ 30 = B ∧ 2 ≤ B := ⟨_, rfl, by decide⟩
  obtain ⟨d, hd0, fs0, e0⟩ := d_any (ds := [.int 2, .int 2, .int 3, .int B]) (by simp) (by simp) fs
  obtain ⟨top, hdt, ht⟩ : ∃ top : Int, d = .int top ∧ 2 ≤ top := by
    simp only [List.mem_cons, List.not_mem_nil, or_false] at hd0
    rcases hd0 with rfl | rfl | rfl | rfl
    · exact ⟨2, rfl, by decide⟩
    · exact ⟨2, rfl, by decide⟩
    · exact ⟨3, rfl, by decide⟩
    · exact ⟨B, rfl, hB2⟩
  subst hdt
  obtain ⟨st, e, an, q7, q8, fs', rfl, l1, l2⟩ := sFor_inv (t := .nm 7) (f := L0__law_seen) (fun n : Nat => .int (n : Int)) (fun i st => ∃ (an : List (List Int)) (q7 q8 : Option Pl) (fs' : FS),
      st = ⟨[some .fd, some (.val (.int way)), some (.val (.int many)), some (.val (.int wide)), some (.val (.int half)), some (.val (.int top)), some (.ownL (ansL an)), q7, q8, none], fs'⟩ ∧ an.length = i ∧ ∀ r ∈ an, r.length = wide ∧ ∀ i ∈ r, 0 ≤ i) (List.range many) 0
    ⟨[some .fd, some (.val (.int way)), some (.val (.int many)), some (.val (.int wide)), some (.val (.int half)), some (.val (.int top)), some (.ownL (ansL [])), none, none, none], fs0⟩ (fun j x st hj hI => by
      obtain ⟨an, q7, q8, fs1, rfl, l1, l2⟩ := hI
      have hjn : j < many := by
        have := (List.getElem?_eq_some_iff.mp hj).1
        simpa using this
      have hx : x = j := by
        rw [List.getElem?_range hjn] at hj
        exact (Option.some.inj hj).symm
      subst hx
      obtain ⟨row, q8', fs2, r1, r2, r3⟩ := seen_turn (way := way) hm hw ht (half := half) (by omega) hjn (by omega) l2 q8 fs1
      refine ⟨_, by rw [put_nm, Option.bind_some]; exact r3, an ++ [row], _, _, fs2, rfl, by simp; omega, fun r hr => ?_⟩
      rcases List.mem_append.mp hr with h | h
      · exact l2 r h
      · rw [List.mem_singleton.mp h]
        exact ⟨r1, r2⟩) ⟨[], none, none, fs0, rfl, rfl, fun _ h => (by cases h)⟩
  rw [Nat.zero_add, List.length_range] at l1
  rw [← lN_map, ← rangeD_lN] at e
  have e' : sFor (.nm 7) L0__law_seen (rangeD 0 many) ⟨[some .fd, some (.val (.int way)), some (.val (.int many)), some (.val (.int wide)), some (.val (.int half)), some (.val (.int top)), some (.ownL []), none, none, none], fs0⟩ = _ := e
  refine ⟨an, fs', l1, l2, ?_⟩
  have hp : ∀ s, (fBin (f2 (fC (.val (.int 10))) (fC (.val (.int 30)))) gPowI) s = some (.val (.int B), s) := fun s => by rw [← hB]; simp
  have z4 : 4 ≤ sizeLine := by omega
  clear hB
  simp only [D__law_seen, B__law_seen]
  generalize fBin (f2 (fC (.val (.int 10))) (fC (.val (.int 30)))) gPowI = pe at hp
  simp [hd, eh, hp, z4, e0, hrm, e']
end Q6

set_option Elab.async false
set_option linter.all false
set_option maxRecDepth 100000
set_option maxHeartbeats 2000000
/-! Q6v: a whole machine. -/
namespace Q6
open PySem PySem.Spec PyProof.Rows L2 PD
def Bx1 : Sf := (sPar (fCall D__law_draw (aCons (fVar 0) (aCons (fC (.val (.int 6))) aNil))) (fBin (f2 (fC (.val (.int 1))) (fCall D__law_draw (aCons (fVar 0) (aCons (fC (.val (.int 6))) aNil)))) gAdd) 1 2)
def Bx2 : Sf := (sPar (fCall D__law_names (aCons (fVar 0) (aCons (fBin (f2 (fC (.val (.int 2))) (fCall D__law_draw (aCons (fVar 0) (aCons (fC (.val (.int 3))) aNil)))) gAdd) aNil))) (fCall D__law_names (aCons (fVar 0) (aCons (fBin (f2 (fC (.val (.int 1))) (fCall D__law_draw (aCons (fVar 0) (aCons (fC (.val (.int 3))) aNil)))) gAdd) aNil))) 3 4)
def Bx3 : Sf := (sIf (fB (fBin (f2n 1 (fC (.val (.int 3)))) (gEq false))) (sAsg (fIf (bAnd (fB (fBin (f2 (fUn (fPeek 3) gLen) (fC (.val (.int 2)))) (gEq false))) (fB (fBin (f2 (fCall D__law_draw (aCons (fVar 0) (aCons (fC (.val (.int 2))) aNil))) (fC (.val (.int 0)))) (gEq false)))) (fC (.val (.int 4))) (fUn (fPeek 3) gLen)) (.nm 2)) sNil)
def Bx4 : Sf := (sPar (fCall D__law_shape (aCons (fVar 0) (aCons (fVar 1) (aCons (fVar 2) (aCons (fUn (fPeek 3) gLen) aNil))))) (fCall D__law_seen (aCons (fVar 0) (aCons (fVar 1) (aCons (fVar 2) (aCons (fUn (fPeek 4) gLen) aNil))))) 5 6)
def Bx5 : Sf := (sAsg (fIf (fB (fBin (f2 (fCall D__law_draw (aCons (fVar 0) (aCons (fC (.val (.int 2))) aNil))) (fC (.val (.int 0)))) (gEq false))) (fCall D__law_draw (aCons (fVar 0) (aCons (fVar 2) aNil))) (fC (.val (.int 0)))) (.nm 7))
def Bx6 : Sf := (sAsg (fLc [9] (wRange1 (fVar 2)) (.nm 9) bYes Ce0__law_box) (.nm 8))
def Bx7 : Sf := (sAsg (fLc [10] (wVal (fVar 8)) (.nm 10) bYes Ce2__law_box) (.nm 8))
def Bx8 : Sf := (sRet (fTup (aCons (fVar 3) (aCons (fVar 4) (aCons (fUn (fPeek 8) gTupleOf) (aCons (fUn (fFz (fLc [9] (wRange1 (fVar 2)) (.nm 9) bYes Ce3__law_box)) gTupleOf) aNil))))))
theorem Bx_eq : B__law_box = sSeq Bx1 (sSeq Bx2 (sSeq Bx3 (sSeq Bx4 (sSeq Bx5 (sSeq Bx6 (sSeq Bx7 Bx8)))))) := rfl
section
variable {many turn : Nat} {ls ks : List Str} {mv : List (List Nat)} {an : List (List Int)} {way : Int} {fs : FS}
def rot (many turn s : Nat) : Nat := (s + turn) % many
def bck (many turn t : Nat) : Nat := (((t : Int) - (turn : Int)) % (many : Int)).toNat
theorem rot_lt (h : 1 ≤ many) (s : Nat) : rot many turn s < many := Nat.mod_lt _ (by omega)
theorem rot_int (s : Nat) : ((s : Int) + (turn : Int)) % (many : Int) = ((rot many turn s : Nat) : Int) := by
  unfold rot
  rw [Int.natCast_emod, Int.natCast_add]
theorem bck_int (h : 1 ≤ many) (t : Nat) : ((t : Int) - (turn : Int)) % (many : Int) = ((bck many turn t : Nat) : Int) := by
  have := mod_in (i := (t : Int) - (turn : Int)) (n := (many : Int)) (by omega)
  unfold bck
  omega
theorem bck_lt (h : 1 ≤ many) (t : Nat) : bck many turn t < many := by
  have := mod_in (i := (t : Int) - (turn : Int)) (n := (many : Int)) (by omega)
  unfold bck
  omega
def boxM (many turn : Nat) (ls ks : List Str) (mv : List (List Nat)) (an : List (List Int)) : Mach :=
  ⟨ls, ks, (List.range many).map fun s => (mv.getD (rot many turn s) []).map (bck many turn), (List.range many).map fun s => an.getD (rot many turn s) []⟩
theorem getD_mem {α : Type} {l : List α} {i : Nat} {d : α} (h : i < l.length) : l.getD i d ∈ l ∧ l[i]? = some (l.getD i d) := by
  rw [List.getD_eq_getElem?_getD, List.getElem?_eq_getElem h]
  exact ⟨List.getElem_mem h, rfl⟩
theorem boxM_ok (hn1 : 1 ≤ many) (hn : many ≤ 6) (h1 : NamesOk ls) (h2 : NamesOk ks) (l2 : 2 ≤ ls.length) (l9 : ls.length ≤ 9) (k1 : 1 ≤ ks.length) (k9 : ks.length ≤ 9) (hm : mv.length = many) (hr : ∀ r ∈ mv, r.length = ls.length ∧ ∀ t ∈ r, t < many)
    (ha : an.length = many) (har : ∀ r ∈ an, r.length = ks.length ∧ ∀ i ∈ r, 0 ≤ i) : (boxM many turn ls ks mv an).Ok := by
  refine ⟨h1, h2, l2, l9, k1, k9, by simp [boxM]; omega, by simp [boxM]; omega, fun r hr' => ?_, by simp [boxM], fun r hr' => ?_⟩
  · obtain ⟨s, _, rfl⟩ := List.mem_map.mp hr'
    obtain ⟨g1, _⟩ := getD_mem (l := mv) (i := rot many turn s) (d := []) (by rw [hm]; exact rot_lt hn1 s)
    refine ⟨by rw [List.length_map]; exact (hr _ g1).1, fun t ht => ?_⟩
    obtain ⟨u, _, rfl⟩ := List.mem_map.mp ht
    show bck many turn u < ((List.range many).map _).length
    rw [List.length_map, List.length_range]
    exact bck_lt hn1 u
  · obtain ⟨s, _, rfl⟩ := List.mem_map.mp hr'
    obtain ⟨g1, _⟩ := getD_mem (l := an) (i := rot many turn s) (d := []) (by rw [ha]; exact rot_lt hn1 s)
    exact har _ g1
abbrev StX (way : Int) (many : Nat) (ls ks : List Str) (mv : List (List Nat)) (an : List (List Int)) (turn : Nat) (q8 : Option Pl) (fs : FS) : DS :=
  ⟨[some .fd, some (.val (.int way)), some (.val (.int many)), some (.val (tS ls)), some (.val (tS ks)), some (.ownL (rowsL mv)), some (.ownL (ansL an)), some (.val (.int turn)), q8, none, none, none], fs⟩
theorem rowsL_get {i : Nat} (h : i < mv.length) : (rowsL mv)[i]? = some (.list (lN (mv.getD i []))) := by
  simp [rowsL, h]
theorem ansL_get {i : Nat} (h : i < an.length) : (ansL an)[i]? = some (.list ((an.getD i []).map .int)) := by
  simp [ansL, h]
theorem bx6 (hn1 : 1 ≤ many) (hn : many ≤ 6) (hm : mv.length = many) : Bx6 (StX way many ls ks mv an turn none fs) = some (.nx (StX way many ls ks mv an turn (some (.ownL ((List.range many).map fun s => .list (lN (mv.getD (rot many turn s) []))))) fs)) := by
  have hz := sizeLine_eq
  have hrm : rOk (many : Int) = true := rOk_nat (by omega)
  have hp : (0 : Int) < (many : Int) := by omega
  have hm0 : ¬ many = 0 := by omega
  have hm0' : 0 < many := by omega
  have e := lc_turn (vs := [9]) (t := .nm 9) (fe := Ce0__law_box) (fun n : Nat => .int (n : Int)) (fun s => .list (lN (mv.getD (rot many turn s) []))) (List.range many) (StX way many ls ks mv an turn none fs) (by simp; omega) (fun x hx => by
    have g := rowsL_get (mv := mv) (i := rot many turn x) (by rw [hm]; exact rot_lt hn1 x)
    have ri := rot_int (many := many) (turn := turn) x
    simp [turnE, Ce0__law_box, ri, g, hp, hm0, hm0'])
  rw [← lN_map, ← rangeD_lN] at e
  simp [Bx6, hrm, plainAt, e]
theorem bx7 (hn1 : 1 ≤ many) (hn : many ≤ 6) (hm : mv.length = many) (hl : ∀ r ∈ mv, r.length ≤ 9) :
    Bx7 (StX way many ls ks mv an turn (some (.ownL ((List.range many).map fun s => .list (lN (mv.getD (rot many turn s) []))))) fs) = some (.nx (StX way many ls ks mv an turn (some (.ownL ((boxM many turn ls ks mv an).mv.map tN))) fs)) := by
  have hz := sizeLine_eq
  have hp : (0 : Int) < (many : Int) := by omega
  have hm0 : ¬ many = 0 := by omega
  have hm0' : 0 < many := by omega
  generalize hq : (List.range many).map (fun s => PyData.list (lN (mv.getD (rot many turn s) []))) = L8
  have e := lc_turn (vs := [10]) (t := .nm 10) (fe := Ce2__law_box) (fun s : Nat => .list (lN (mv.getD (rot many turn s) []))) (fun s => tN ((mv.getD (rot many turn s) []).map (bck many turn))) (List.range many) (StX way many ls ks mv an turn (some (.val (.list L8))) fs) (by simp; omega) (fun x hx => by
    obtain ⟨g1, _⟩ := getD_mem (l := mv) (i := rot many turn x) (d := []) (by rw [hm]; exact rot_lt hn1 x)
    have g2 := hl _ g1
    generalize mv.getD (rot many turn x) [] = row at g1 g2 ⊢
    have e2 := lc_turn (vs := [11]) (t := .nm 11) (fe := Ce1__law_box) (fun n : Nat => .int (n : Int)) (fun n => .int ((bck many turn n : Nat) : Int)) row ⟨[some .fd, some (.val (.int way)), some (.val (.int many)), some (.val (tS ls)), some (.val (tS ks)), some (.ownL (rowsL mv)), some (.ownL (ansL an)), some (.val (.int turn)), some (.val (.list L8)), none, some (.val (.list (lN row))), none], fs⟩ (by omega) (fun y hy => by
      have ri := bck_int (many := many) (turn := turn) hn1 y
      simp [turnE, Ce1__law_box, ri, hp, hm0, hm0'])
    rw [← lN_map] at e2
    have e3 : (row.map fun n => PyData.int ((bck many turn n : Nat) : Int)) = lN (row.map (bck many turn)) := by rw [lN_map, List.map_map]; rfl
    rw [e3] at e2
    simp [turnE, Ce2__law_box, plainAt, e2, tN_eq])
  rw [hq] at e
  have e4 : ((boxM many turn ls ks mv an).mv.map tN) = (List.range many).map fun s => tN ((mv.getD (rot many turn s) []).map (bck many turn)) := by simp [boxM, List.map_map, Function.comp_def]
  rw [e4]
  simp [Bx7, plainAt, e]
theorem bx8 (hn1 : 1 ≤ many) (hn : many ≤ 6) (ha : an.length = many) :
    ∃ s', Bx8 (StX way many ls ks mv an turn (some (.ownL ((boxM many turn ls ks mv an).mv.map tN))) fs) = some (.rt (.val (mD (boxM many turn ls ks mv an))) s') ∧ s'.fs = fs := by
  have hz := sizeLine_eq
  have hrm : rOk (many : Int) = true := rOk_nat (by omega)
  have hp : (0 : Int) < (many : Int) := by omega
  have hm0 : ¬ many = 0 := by omega
  have hm0' : 0 < many := by omega
  have z4 : 4 ≤ sizeLine := by omega
  generalize hL : ((boxM many turn ls ks mv an).mv.map tN) = L8
  have e := lc_turn (vs := [9]) (t := .nm 9) (fe := Ce3__law_box) (fun n : Nat => .int (n : Int)) (fun s => tI (an.getD (rot many turn s) [])) (List.range many) (StX way many ls ks mv an turn (some (.ownL L8)) fs) (by simp; omega) (fun x hx => by
    have g := ansL_get (an := an) (i := rot many turn x) (by rw [ha]; exact rot_lt hn1 x)
    have ri := rot_int (many := many) (turn := turn) x
    simp [turnE, Ce3__law_box, ri, g, hp, hm0, hm0'])
  rw [← lN_map, ← rangeD_lN] at e
  have e4 : anD (boxM many turn ls ks mv an) = .tuple ((List.range many).map fun s => tI (an.getD (rot many turn s) [])) := by simp [anD, boxM, List.map_map, Function.comp_def]
  have e5 : mvD (boxM many turn ls ks mv an) = .tuple L8 := by rw [← hL]
  have e6 : mD (boxM many turn ls ks mv an) = .tuple [tS ls, tS ks, .tuple L8, .tuple ((List.range many).map fun s => tI (an.getD (rot many turn s) []))] := by
    show PyData.tuple [tS ls, tS ks, mvD (boxM many turn ls ks mv an), anD (boxM many turn ls ks mv an)] = _
    rw [e4, e5]
  rw [e6]
  refine ⟨_, by simp [Bx8, hrm, plainAt, e, z4]; rfl, rfl⟩
end
end Q6

set_option Elab.async false
set_option linter.all false
set_option maxRecDepth 100000
set_option maxHeartbeats 2000000
/-! Q6w: the drawn machine. -/
namespace Q6
open PySem PySem.Spec PyProof.Rows L2 PD
theorem d_box (fs : FS) : ∃ (M : Mach) (fs' : FS), M.Ok ∧ M.mv.length ≤ 6 ∧ M.ls.length ≤ 4 ∧ M.ks.length ≤ 3 ∧ D__law_box [.fd] fs = some (.val (mD M), fs') := by
  have hz := sizeLine_eq
  obtain ⟨way, f1, e1, a1, a2⟩ := d_draw (n := 6) (by decide) (by decide) fs
  obtain ⟨b, f2, e2, b1, b2⟩ := d_draw (n := 6) (by decide) (by decide) f1
  obtain ⟨m0, hm0⟩ : ∃ m : Nat, 1 + b = (m : Int) := ⟨(1 + b).toNat, by omega⟩
  obtain ⟨c, f3, e3, c1, c2⟩ := d_draw (n := 3) (by decide) (by decide) f2
  obtain ⟨nl, hnl⟩ : ∃ m : Nat, 2 + c = (m : Int) := ⟨(2 + c).toNat, by omega⟩
  obtain ⟨ls, f4, l1, l2, e4⟩ := d_names (m := nl) (by omega) (by omega) f3
  obtain ⟨d, f5, e5, d1, d2⟩ := d_draw (n := 3) (by decide) (by decide) f4
  obtain ⟨nk, hnk⟩ : ∃ m : Nat, 1 + d = (m : Int) := ⟨(1 + d).toNat, by omega⟩
  obtain ⟨ks, f6, k1, k2, e6⟩ := d_names (m := nk) (by omega) (by omega) f5
  have s1 : Bx1 ⟨[some .fd, none, none, none, none, none, none, none, none, none, none, none], fs⟩ = some (.nx ⟨[some .fd, some (.val (.int way)), some (.val (.int m0)), none, none, none, none, none, none, none, none, none], f2⟩) := by
    simp [Bx1, e1, e2, hm0]
  have s2 : Bx2 ⟨[some .fd, some (.val (.int way)), some (.val (.int m0)), none, none, none, none, none, none, none, none, none], f2⟩ = some (.nx ⟨[some .fd, some (.val (.int way)), some (.val (.int m0)), some (.val (tS ls)), some (.val (tS ks)), none, none, none, none, none, none, none], f6⟩) := by
    simp [Bx2, e3, hnl, e4, e5, hnk, e6]
  obtain ⟨many, f7, hn1, hn6, s3⟩ : ∃ (many : Nat) (f7 : FS), 1 ≤ many ∧ many ≤ 6 ∧ Bx3 ⟨[some .fd, some (.val (.int way)), some (.val (.int m0)), some (.val (tS ls)), some (.val (tS ks)), none, none, none, none, none, none, none], f6⟩ = some (.nx ⟨[some .fd, some (.val (.int way)), some (.val (.int many)), some (.val (tS ls)), some (.val (tS ks)), none, none, none, none, none, none, none], f7⟩) := by
    by_cases w3 : way = 3
    · subst w3
      by_cases w2 : ls.length = 2
      · obtain ⟨u, f7, e7, u1, u2⟩ := d_draw (n := 2) (by decide) (by decide) f6
        by_cases u0 : u = 0
        · subst u0
          refine ⟨4, f7, by decide, by decide, ?_⟩
          simp [Bx3, shaped_int, eqv_int, w2, e7]
        · refine ⟨2, f7, by decide, by decide, ?_⟩
          simp [Bx3, shaped_int, eqv_int, w2, e7, u0]
      · have w2' : ¬ ((ls.length : Int) = 2) := by omega
        refine ⟨ls.length, f6, by omega, by omega, ?_⟩
        simp [Bx3, shaped_int, eqv_int, w2']
    · refine ⟨m0, f6, by omega, by omega, ?_⟩
      simp [Bx3, shaped_int, eqv_int, w3]
  obtain ⟨mv, f8, g1, g2, e8⟩ := d_shape (way := way) (many := many) (wide := ls.length) hn1 hn6 (by omega) (by omega) f7
  obtain ⟨an, f9, h1, h2, e9⟩ := d_seen (way := way) (many := many) (wide := ks.length) hn1 hn6 (by omega) f8
  have s4 : Bx4 ⟨[some .fd, some (.val (.int way)), some (.val (.int many)), some (.val (tS ls)), some (.val (tS ks)), none, none, none, none, none, none, none], f7⟩ = some (.nx ⟨[some .fd, some (.val (.int way)), some (.val (.int many)), some (.val (tS ls)), some (.val (tS ks)), some (.ownL (rowsL mv)), some (.ownL (ansL an)), none, none, none, none, none], f9⟩) := by
    simp only [rowsL, ansL] at e8 e9 ⊢
    generalize mv.map (fun r => PyData.list (lN r)) = X1 at e8 ⊢
    generalize an.map (fun r => PyData.list (r.map .int)) = X2 at e9 ⊢
    simp [Bx4, e8, e9]
  obtain ⟨turn, f10, s5⟩ : ∃ (turn : Nat) (f10 : FS), Bx5 ⟨[some .fd, some (.val (.int way)), some (.val (.int many)), some (.val (tS ls)), some (.val (tS ks)), some (.ownL (rowsL mv)), some (.ownL (ansL an)), none, none, none, none, none], f9⟩ =
      some (.nx ⟨[some .fd, some (.val (.int way)), some (.val (.int many)), some (.val (tS ls)), some (.val (tS ks)), some (.ownL (rowsL mv)), some (.ownL (ansL an)), some (.val (.int turn)), none, none, none, none], f10⟩) := by
    simp only [rowsL, ansL]
    generalize mv.map (fun r => PyData.list (lN r)) = X1
    generalize an.map (fun r => PyData.list (r.map .int)) = X2
    obtain ⟨u, f10, e10, u1, u2⟩ := d_draw (n := 2) (by decide) (by decide) f9
    by_cases u0 : u = 0
    · subst u0
      obtain ⟨t, f11, e11, t1, t2⟩ := d_draw (n := (many : Int)) (by omega) (by omega) f10
      obtain ⟨tn, rfl⟩ : ∃ tn : Nat, t = (tn : Int) := ⟨t.toNat, by omega⟩
      exact ⟨tn, f11, by simp [Bx5, shaped_int, eqv_int, e10, e11]⟩
    · exact ⟨0, f10, by simp [Bx5, shaped_int, eqv_int, e10, u0]⟩
  have s6 := bx6 (way := way) (ls := ls) (ks := ks) (an := an) (turn := turn) (fs := f10) hn1 hn6 g1
  have s7 := bx7 (way := way) (ls := ls) (ks := ks) (an := an) (turn := turn) (fs := f10) hn1 hn6 g1 (fun r hr => by have := (g2 r hr).1; omega)
  obtain ⟨s', s8, hfs⟩ := bx8 (way := way) (ls := ls) (ks := ks) (mv := mv) (turn := turn) (fs := f10) hn1 hn6 h1
  have ok := boxM_ok (turn := turn) hn1 hn6 l1 k1 (by omega) (by omega) (by omega) (by omega) g1 g2 h1 h2
  refine ⟨boxM many turn ls ks mv an, f10, ok, by simp [boxM]; omega, by show ls.length ≤ 4; omega, by show ks.length ≤ 3; omega, ?_⟩
  have key : B__law_box ⟨[some .fd, none, none, none, none, none, none, none, none, none, none, none], fs⟩ = some (.rt (.val (mD (boxM many turn ls ks mv an))) s') := by
    rw [Bx_eq, sSeq_ap, s1]
    show (sSeq Bx2 (sSeq Bx3 (sSeq Bx4 (sSeq Bx5 (sSeq Bx6 (sSeq Bx7 Bx8)))))) _ = _
    rw [sSeq_ap, s2]
    show (sSeq Bx3 (sSeq Bx4 (sSeq Bx5 (sSeq Bx6 (sSeq Bx7 Bx8))))) _ = _
    rw [sSeq_ap, s3]
    show (sSeq Bx4 (sSeq Bx5 (sSeq Bx6 (sSeq Bx7 Bx8)))) _ = _
    rw [sSeq_ap, s4]
    show (sSeq Bx5 (sSeq Bx6 (sSeq Bx7 Bx8))) _ = _
    rw [sSeq_ap, s5]
    show (sSeq Bx6 (sSeq Bx7 Bx8)) _ = _
    rw [sSeq_ap]
    show ((Bx6 (StX way many ls ks mv an turn none f10)).bind _) = _
    rw [s6]
    show (sSeq Bx7 Bx8) _ = _
    rw [sSeq_ap, s7]
    exact s8
  generalize mD (boxM many turn ls ks mv an) = R at key
  simp [D__law_box, key, hfs]
end Q6

set_option Elab.async false
set_option linter.all false
set_option maxRecDepth 100000
set_option maxHeartbeats 1000000
/-! Q6x: what is needed of parameters; answers. -/
namespace Q6
open PySem PySem.Spec PyProof.Rows L2 PD
section
variable {M : Mach} {s t : Nat} {xs : List Str} {fs : FS}
theorem d_is_index {n : Nat} {ds : List PyData} (h : n < ds.length) (fs : FS) : D_is_index [.val (.int (n : Int)), .val (.tuple ds)] fs = some (.val (.bool true), fs) := by
  have h' : (n : Int) < (ds.length : Int) := by omega
  simp [D_is_index, B_is_index, d_is_number, h]
theorem d_is_state (hs : s < M.mv.length) (fs : FS) : D_is_state [.val (mD M), .val (.int (s : Int))] fs = some (.val (.bool true), fs) := by
  have e := d_is_index (n := s) (ds := M.mv.map tN) (by simpa using hs) fs
  simp [D_is_state, B_is_state, e]
theorem d_need_state (h : M.Ok) (hs : s < M.mv.length) (fs : FS) : D_need_state [.val (mD M), .val (.int (s : Int))] fs = some (.val .none, fs) := by
  simp [D_need_state, B_need_state, d_need_machine h, d_is_state hs, d_need]
structure Some (M : Mach) (xs : List Str) : Prop where
  ok : NamesOk xs
  sub : ∀ x ∈ xs, x ∈ M.ks
theorem d_is_set_of (h : M.Ok) (hx : Some M xs) (fs : FS) : D_is_set_of [.val (tS xs), .val (tS M.ks)] fs = some (.val (.bool true), fs) := by
  have hl := hx.ok.len
  have hz := sizeLine_eq
  obtain ⟨bs, e, hb⟩ := lc_bools (vs := [2]) (t := .nm 2) (fe := Ce0_is_set_of) PyData.str (fun _ => true) xs ⟨[some (.val (tS xs)), some (.val (tS M.ks)), none], fs⟩ (by omega) fun x hm => by
    have h1 := shaped_str (hx.ok.all x hm).ok
    have h2 := lay_tS h.kn
    have h3 := any_eqv_str M.ks x
    have h4 := hx.sub x hm
    simp [turnE, Ce0_is_set_of, h1, h2, h3, h4]
  have hb' : bs.all id = true := by simp [hb]
  simp [D_is_set_of, B_is_set_of, isi, tyName, plainAt, e, hb', d_ascends hx.ok]
theorem d_need_looks (h : M.Ok) (hx : Some M xs) (fs : FS) : D_need_looks [.val (mD M), .val (tS xs)] fs = some (.val .none, fs) := by
  simp [D_need_looks, B_need_looks, d_need_machine h, d_is_set_of h hx, d_need]
theorem d_need_two (h : M.Ok) (hx : Some M xs) (hs : s < M.mv.length) (ht : t < M.mv.length) (fs : FS) : D_need_two_states [.val (mD M), .val (.int (s : Int)), .val (.int (t : Int)), .val (tS xs)] fs = some (.val .none, fs) := by
  simp [D_need_two_states, B_need_two_states, d_need_state h hs, d_is_state ht, d_is_set_of h hx, d_need]
/-- the answers of a state to some looks -/
def Mach.ax (M : Mach) (l : Str) : Nat := (M.ks.findIdx? fun y => decide (y = l)).getD 0
def Mach.ans (M : Mach) (xs : List Str) (s : Nat) : List Int := xs.map fun l => M.as s (M.ax l)
theorem d_answers_to (h : M.Ok) (hx : Some M xs) (hs : s < M.mv.length) (fs : FS) : D_answers_to [.val (mD M), .val (.int (s : Int)), .val (tS xs)] fs = some (.val (tI (M.ans xs s)), fs) := by
  have hl := hx.ok.len
  have hz := sizeLine_eq
  have e := lc_turn (vs := [3]) (t := .nm 3) (fe := Ce0_answers_to) PyData.str (fun l => .int (M.as s (M.ax l))) xs ⟨[some (.val (mD M)), some (.val (.int s)), some (.val (tS xs)), none], fs⟩ (by omega) fun x hm => by
    obtain ⟨k, hk⟩ := List.mem_iff_getElem?.mp (hx.sub x hm)
    have e3 := idx_of h.kn.asc hk
    have e4 : M.ax x = k := by simp [Mach.ax, e3]
    obtain ⟨r, e1, e2⟩ := h.an_at hs (List.getElem?_eq_some_iff.mp hk).1
    simp [turnE, Ce0_answers_to, e1, e2, gIdx_t, e3, e4]
  have e5 : (xs.map fun l => PyData.int (M.as s (M.ax l))) = (M.ans xs s).map .int := by simp [Mach.ans, List.map_map, Function.comp_def]
  rw [e5] at e
  simp [D_answers_to, B_answers_to, plainAt, e]
end
end Q6

set_option Elab.async false
set_option linter.all false
set_option maxRecDepth 100000
set_option maxHeartbeats 1000000
/-! Q6y: the law's least rows by levels: what they are. -/
namespace Q6
open PySem PySem.Spec PyProof.Rows L2 PD
theorem slt_total {a b : Str} (h : a ≠ b) (h2 : ¬ slt a b) : slt b a := by
  have h3 : b.cps.toList ≤ a.cps.toList := List.not_lt.mp h2
  rcases List.le_iff_lt_or_eq.mp h3 with h4 | h4
  · exact h4
  · exact absurd (PySem.W.str_of_cps h4).symm h
def ltB (a b : List Str) : Bool := PySem.W.dataLt (tS a) (tS b)
theorem alike_tS : ∀ a b : List Str, PySem.W.alike (tS a) (tS b) = true := by
  intro a b
  show PySem.W.alike (.tuple _) (.tuple _) = true
  unfold PySem.W.alike
  induction a generalizing b with
  | nil => simp [PySem.W.alikeAll]
  | cons x r ih =>
    cases b with
    | nil => simp [PySem.W.alikeAll]
    | cons y t =>
      have := ih t
      simp [PySem.W.alikeAll, PySem.W.alike] at this ⊢
      exact this
theorem ltB_nil : ltB [] [] = false := by
  unfold ltB
  exact PySem.W.dataLt_self _
theorem ltB_cons (x y : Str) (a b : List Str) : ltB (x :: a) (y :: b) = if x = y then ltB a b else decide (slt x y) := by
  have e : PySem.W.alike (.str x) (.str y) = true := by simp [PySem.W.alike]
  unfold ltB
  show PySem.W.dataLt (.tuple (.str x :: a.map .str)) (.tuple (.str y :: b.map .str)) = _
  rw [PySem.W.dataLt_tuple]
  by_cases h : x = y
  · rw [PySem.W.dataLt_all_yes e (by rw [eqv_str]; exact decide_eq_true h), if_pos h]
    show _ = PySem.W.dataLt (.tuple _) (.tuple _)
    rw [PySem.W.dataLt_tuple]
  · rw [PySem.W.dataLt_all_no e (by rw [eqv_str]; exact decide_eq_false h), if_neg h, PySem.W.dataLt_str]
theorem ltB_le : ∀ {a b : List Str}, a.length = b.length → (ltB a b = true → leW a b) ∧ (ltB a b = false → leW b a)
  | [], [], _ => ⟨fun _ => trivial, fun _ => trivial⟩
  | x :: a, y :: b, h => by
    have h' : a.length = b.length := by simpa using h
    obtain ⟨i1, i2⟩ := ltB_le h'
    rw [ltB_cons]
    by_cases e : x = y
    · subst e
      rw [if_pos rfl]
      exact ⟨fun q => .inr ⟨rfl, i1 q⟩, fun q => .inr ⟨rfl, i2 q⟩⟩
    · rw [if_neg e]
      exact ⟨fun q => .inl ⟨of_decide_eq_true q, h'⟩, fun q => .inl ⟨slt_total e (of_decide_eq_false q), h'.symm⟩⟩
  | [], _ :: _, h => by simp at h
  | _ :: _, [], h => by simp at h
abbrev Lev := List (Option (List Str))
def lvD (o : Option (List Str)) : PyData := match o with
  | none => .none
  | some w => tS w
def encL (lev : Lev) : List PyData := lev.map lvD
def candL (found : Lev) (c : Nat × List Str) : Lev := match found.getD c.1 none with
  | none => found.set c.1 (some c.2)
  | some f => if ltB c.2 f = true then found.set c.1 (some c.2) else found
/-- the least of what was seen, for each state -/
structure FP (n m : Nat) (found : Lev) (done : List (Nat × List Str)) : Prop where
  len : found.length = n
  dl : ∀ c ∈ done, c.2.length = m
  so : ∀ t w, found.getD t none = some w → (t, w) ∈ done ∧ ∀ c ∈ done, c.1 = t → leW w c.2
  no : ∀ t, t < n → found.getD t none = none → ∀ c ∈ done, c.1 ≠ t
theorem getD_set {α : Type} (l : List α) (i j : Nat) (a d : α) (hi : i < l.length) : (l.set i a).getD j d = if i = j then a else l.getD j d := by
  by_cases e : i = j
  · subst e; simp [hi]
  · simp [e, List.getElem?_set]
theorem FP.add {n m : Nat} {found : Lev} {done : List (Nat × List Str)} (h : FP n m found done) {c : Nat × List Str} (h1 : c.1 < n) (h2 : c.2.length = m) : FP n m (candL found c) (done ++ [c]) := by
  have hi : c.1 < found.length := by rw [h.len]; exact h1
  have dl : ∀ x ∈ done ++ [c], x.2.length = m := fun x hx => by
    rcases List.mem_append.mp hx with g | g
    · exact h.dl x g
    · rw [List.mem_singleton.mp g]; exact h2
  have put : (∀ x ∈ done, x.1 = c.1 → leW c.2 x.2) → FP n m (found.set c.1 (.some c.2)) (done ++ [c]) := fun hle => by
    refine ⟨by simpa using h.len, dl, fun t w e => ?_, fun t ht e x hx => ?_⟩
    · rw [getD_set _ _ _ _ _ hi] at e
      by_cases et : c.1 = t
      · rw [if_pos et] at e
        cases e
        subst et
        refine ⟨by simp, fun x hx hx1 => ?_⟩
        rcases List.mem_append.mp hx with g | g
        · exact hle x g hx1
        · rw [List.mem_singleton.mp g]; exact leW_refl _
      · rw [if_neg et] at e
        obtain ⟨g1, g2⟩ := h.so t w e
        refine ⟨List.mem_append_left _ g1, fun x hx hx1 => ?_⟩
        rcases List.mem_append.mp hx with g | g
        · exact g2 x g hx1
        · rw [List.mem_singleton.mp g] at hx1; exact absurd hx1 et
    · rw [getD_set _ _ _ _ _ hi] at e
      by_cases et : c.1 = t
      · rw [if_pos et] at e; cases e
      · rw [if_neg et] at e
        rcases List.mem_append.mp hx with g | g
        · exact h.no t ht e x g
        · rw [List.mem_singleton.mp g]; exact et
  unfold candL
  cases e : found.getD c.1 none with
  | none => exact put fun x hx ex => absurd ex (h.no _ h1 e x hx)
  | some f =>
    obtain ⟨f1, f2⟩ := h.so _ _ e
    have fl : f.length = m := h.dl _ f1
    obtain ⟨l1, l2⟩ := ltB_le (a := c.2) (b := f) (by omega)
    by_cases el : ltB c.2 f = true
    · simp only [el, if_true]
      exact put fun x hx ex => leW_trans (l1 el) (f2 x hx ex)
    · simp only [el]
      refine ⟨h.len, dl, fun t w e' => ?_, fun t ht e' x hx => ?_⟩
      · have e' : found.getD t none = .some w := by simpa using e'
        obtain ⟨g1, g2⟩ := h.so t w e'
        refine ⟨List.mem_append_left _ g1, fun x hx hx1 => ?_⟩
        rcases List.mem_append.mp hx with g | g
        · exact g2 x g hx1
        · rw [List.mem_singleton.mp g] at hx1 ⊢
          rw [← hx1, e] at e'
          cases e'
          exact l2 (by simpa using el)
      · have e' : found.getD t none = none := by simpa using e'
        rcases List.mem_append.mp hx with g | g
        · exact h.no t ht e' x g
        · rw [List.mem_singleton.mp g]
          intro ex
          rw [← ex, e] at e'
          cases e'
theorem FP.all {n m : Nat} : ∀ (cs : List (Nat × List Str)) (found : Lev) (done : List (Nat × List Str)), FP n m found done → (∀ c ∈ cs, c.1 < n ∧ c.2.length = m) → FP n m (cs.foldl candL found) (done ++ cs)
  | [], found, done, h, _ => by simpa using h
  | c :: cs, found, done, h, hc => by
    obtain ⟨c1, c2⟩ := hc c List.mem_cons_self
    have := FP.all cs _ _ (h.add c1 c2) fun x hx => hc x (List.mem_cons_of_mem _ hx)
    rw [List.append_assoc] at this
    exact this
section
variable {M : Mach}
def candS (M : Mach) (s : Nat) (w : List Str) (k : Nat) : Nat × List Str := ((M.nx s).getD k 0, w ++ [M.ls.getD k ""])
def lateS (M : Mach) (lev : Lev) (s : Nat) : List (Nat × List Str) := match lev.getD s none with
  | none => []
  | some w => (List.range M.ls.length).map (candS M s w)
def lateL (M : Mach) (lev : Lev) : Lev := (List.range M.mv.length).foldl (fun f s => (lateS M lev s).foldl candL f) (List.replicate M.mv.length none)
def Good (M : Mach) (m t : Nat) (w : List Str) : Prop := w.length = m ∧ (∀ l ∈ w, l ∈ M.ls) ∧ M.fin 0 w = t
structure LV (M : Mach) (m : Nat) (lev : Lev) : Prop where
  len : lev.length = M.mv.length
  so : ∀ t w, lev.getD t none = some w → Good M m t w ∧ ∀ w', Good M m t w' → leW w w'
  no : ∀ t, t < M.mv.length → lev.getD t none = none → ∀ w, ¬ Good M m t w
theorem lx_at (h : M.Ok) {k : Nat} (hk : k < M.ls.length) : M.ls.getD k "" ∈ M.ls ∧ ∀ s, M.st s (M.ls.getD k "") = (M.nx s).getD k 0 := by
  have e : M.ls[k]? = some (M.ls.getD k "") := by simp [hk]
  have e3 := idx_of h.ln.asc e
  exact ⟨List.mem_of_getElem? e, fun s => by unfold Mach.st Mach.lx; rw [e3]; rfl⟩
theorem LV.lt {m : Nat} {lev : Lev} (h : LV M m lev) {t : Nat} {w : List Str} (e : lev.getD t none = some w) : t < M.mv.length := by
  rw [← h.len]
  rcases Nat.lt_or_ge t lev.length with g | g
  · exact g
  · simp [g] at e
theorem LV.step (h : M.Ok) {m : Nat} {lev : Lev} (J : LV M m lev) : LV M (m + 1) (lateL M lev) := by
  have hn : 0 < M.mv.length := h.n1
  have cok : ∀ s, ∀ c ∈ lateS M lev s, c.1 < M.mv.length ∧ c.2.length = m + 1 ∧ (∀ l ∈ c.2, l ∈ M.ls) ∧ M.fin 0 c.2 = c.1 := fun s c hc => by
    unfold lateS at hc
    cases e : lev.getD s none with
    | none => rw [e] at hc; cases hc
    | some w =>
      rw [e] at hc
      obtain ⟨k, hk, rfl⟩ := List.mem_map.mp hc
      obtain ⟨⟨g1, g2, g3⟩, _⟩ := J.so s w e
      have hk' : k < M.ls.length := List.mem_range.mp hk
      obtain ⟨l1, l2⟩ := lx_at h hk'
      have hs := J.lt e
      have hst := (M.st_lt h hs l1).1
      refine ⟨by show (M.nx s).getD k 0 < _; rw [← l2]; exact hst, by simp [candS, g1], fun l hl => ?_, ?_⟩
      · rcases List.mem_append.mp hl with q | q
        · exact g2 l q
        · rw [List.mem_singleton.mp q]; exact l1
      · show M.fin 0 (w ++ [M.ls.getD k ""]) = (M.nx s).getD k 0
        rw [Mach.fin_app, g3, ← l2]; rfl
  have key : ∀ (ss : List Nat) (found : Lev) (done : List (Nat × List Str)), FP M.mv.length (m + 1) found done → FP M.mv.length (m + 1) (ss.foldl (fun f s => (lateS M lev s).foldl candL f) found) (done ++ ss.flatMap (lateS M lev)) := by
    intro ss
    induction ss with
    | nil => intro found done hf; simpa using hf
    | cons s ss ih =>
      intro found done hf
      have h1 := FP.all (lateS M lev s) found done hf fun c hc => ⟨(cok s c hc).1, (cok s c hc).2.1⟩
      have h2 := ih _ _ h1
      rw [List.foldl_cons, List.flatMap_cons, ← List.append_assoc]
      exact h2
  have F := key (List.range M.mv.length) (List.replicate M.mv.length none) [] ⟨by simp, (fun _ q => nomatch q), (fun t w e => by
    by_cases ht : t < M.mv.length <;> simp [ht, List.getElem?_replicate] at e), (fun _ _ _ _ q => nomatch q)⟩
  rw [List.nil_append] at F
  have cover : ∀ t w, Good M (m + 1) t w → ∃ c ∈ (List.range M.mv.length).flatMap (lateS M lev), c.1 = t ∧ leW c.2 w := fun t w g => by
    obtain ⟨g1, g2, g3⟩ := g
    have hne : w ≠ [] := by intro e; simp [e] at g1
    obtain ⟨q, l, rfl⟩ : ∃ q l, w = q ++ [l] := ⟨w.dropLast, w.getLast hne, (List.dropLast_concat_getLast hne).symm⟩
    have hq : ∀ x ∈ q, x ∈ M.ls := fun x hx => g2 x (List.mem_append_left _ hx)
    have hl : l ∈ M.ls := g2 l (by simp)
    have hs := M.fin_lt h hn hq
    have gq : Good M m (M.fin 0 q) q := ⟨by simpa using g1, hq, rfl⟩
    obtain ⟨j, hj, e⟩ := List.getElem_of_mem hl
    obtain ⟨l1, l2⟩ := lx_at h hj
    have el : M.ls.getD j "" = l := by simp [hj, e]
    cases e : lev.getD (M.fin 0 q) none with
    | none => exact absurd gq (J.no _ hs e q)
    | some r =>
      obtain ⟨_, r2⟩ := J.so _ _ e
      refine ⟨candS M (M.fin 0 q) r j, List.mem_flatMap.mpr ⟨_, List.mem_range.mpr hs, ?_⟩, ?_, ?_⟩
      · unfold lateS
        rw [e]
        exact List.mem_map.mpr ⟨j, List.mem_range.mpr hj, rfl⟩
      · show (M.nx (M.fin 0 q)).getD j 0 = t
        rw [← l2, el, ← g3, Mach.fin_app]; rfl
      · show leW (r ++ [M.ls.getD j ""]) (q ++ [l])
        rw [el]
        exact leW_snoc l (r2 q gq)
  refine ⟨F.len, fun t w e => ?_, fun t ht e w g => ?_⟩
  · obtain ⟨f1, f2⟩ := F.so t w e
    obtain ⟨s, _, hs⟩ := List.mem_flatMap.mp f1
    obtain ⟨_, c2, c3, c4⟩ := cok s _ hs
    refine ⟨⟨c2, c3, c4⟩, fun w' g => ?_⟩
    obtain ⟨c, hc, ec, hl⟩ := cover t w' g
    exact leW_trans (f2 c hc ec) hl
  · obtain ⟨c, hc, ec, _⟩ := cover t w g
    exact F.no t ht e c hc ec
def lev0 (M : Mach) : Lev := some [] :: List.replicate (M.mv.length - 1) none
theorem lev0_LV (h : M.Ok) : LV M 0 (lev0 M) := by
  have hn : 0 < M.mv.length := h.n1
  refine ⟨by simp [lev0]; omega, fun t w e => ?_, fun t ht e w g => ?_⟩
  · cases t with
    | zero =>
      have : w = [] := by simpa [lev0] using e.symm
      subst this
      refine ⟨⟨rfl, (fun _ q => nomatch q), rfl⟩, fun w' g => ?_⟩
      have : w' = [] := List.eq_nil_of_length_eq_zero g.1
      rw [this]; exact leW_refl _
    | succ t =>
      have : t + 1 < M.mv.length ∨ M.mv.length ≤ t + 1 := by omega
      exfalso
      simp [lev0, List.getElem?_replicate] at e
      by_cases ht : t < M.mv.length - 1 <;> simp [ht] at e
  · have : w = [] := List.eq_nil_of_length_eq_zero g.1
    subst this
    have : t = 0 := g.2.2.symm
    subst this
    simp [lev0] at e
def bestS (lev best : Lev) : Lev := (List.range best.length).map fun s => if best.getD s none = none then lev.getD s none else best.getD s none
structure BV (M : Mach) (m : Nat) (best : Lev) : Prop where
  len : best.length = M.mv.length
  so : ∀ t w, best.getD t none = some w → (∀ l ∈ w, l ∈ M.ls) ∧ M.fin 0 w = t ∧ ∀ w', (∀ l ∈ w', l ∈ M.ls) → M.fin 0 w' = t → sl w w'
  no : ∀ t, t < M.mv.length → best.getD t none = none → ∀ w, w.length < m → (∀ l ∈ w, l ∈ M.ls) → M.fin 0 w ≠ t
theorem BV.step {m : Nat} {lev best : Lev} (B : BV M m best) (J : LV M m lev) : BV M (m + 1) (bestS lev best) := by
  have gt : ∀ t, t < M.mv.length → (bestS lev best).getD t none = if best.getD t none = none then lev.getD t none else best.getD t none := fun t ht => by
    have : t < best.length := by rw [B.len]; exact ht
    unfold bestS
    rw [List.getD_eq_getElem?_getD, List.getElem?_map, List.getElem?_range this]
    rfl
  have hl : (bestS lev best).length = M.mv.length := by simp [bestS, B.len]
  refine ⟨hl, fun t w e => ?_, fun t ht e w hw hm hf => ?_⟩
  · have ht : t < M.mv.length := by
      rw [← hl]
      rcases Nat.lt_or_ge t (bestS lev best).length with g | g
      · exact g
      · simp [g] at e
    rw [gt t ht] at e
    by_cases eb : best.getD t none = none
    · rw [if_pos eb] at e
      obtain ⟨⟨g1, g2, g3⟩, g4⟩ := J.so t w e
      refine ⟨g2, g3, fun w' m' f' => ?_⟩
      rcases Nat.lt_trichotomy w'.length m with q | q | q
      · exact absurd f' (B.no t ht eb w' q m')
      · exact .inr (g4 w' ⟨q, m', f'⟩)
      · exact .inl (by omega)
    · rw [if_neg eb] at e
      exact B.so t w e
  · rw [gt t ht] at e
    by_cases eb : best.getD t none = none
    · rw [if_pos eb] at e
      rcases Nat.lt_or_ge w.length m with q | q
      · exact B.no t ht eb w q hm hf
      · exact J.no t ht e w ⟨by omega, hm, hf⟩
    · rw [if_neg eb] at e
      exact absurd e eb
def levs (M : Mach) : Nat → Lev × Lev
  | 0 => (lev0 M, List.replicate M.mv.length none)
  | m + 1 => (lateL M (levs M m).1, bestS (levs M m).1 (levs M m).2)
theorem levs_ok (h : M.Ok) : ∀ m, LV M m (levs M m).1 ∧ BV M m (levs M m).2
  | 0 => ⟨lev0_LV h, by
    refine ⟨by simp [levs], fun t w e => ?_, fun t _ _ w hw => absurd hw (Nat.not_lt_zero _)⟩
    by_cases ht : t < M.mv.length <;> simp [levs, ht, List.getElem?_replicate] at e⟩
  | m + 1 => by
    obtain ⟨i1, i2⟩ := levs_ok h m
    exact ⟨i1.step h, i2.step i1⟩
/-- the law's rows are the program's -/
theorem levs_rows (h : M.Ok) {L : RowsL} (J : JR M 0 L) (S : SL M.st M.ls L L.length) {t : Nat} (ht : t < M.mv.length) : (levs M M.mv.length).2.getD t none = rowOf L t := by
  obtain ⟨_, B⟩ := levs_ok h M.mv.length
  have h0 : rowOf L 0 = some [] := rowOf_mem J.nd (List.mem_of_getElem? J.hd)
  have hL := J.len
  cases e : rowOf L t with
  | some r =>
    obtain ⟨i, hi, ei⟩ := List.getElem_of_mem (rowOf_some e)
    obtain ⟨_, r2, r3, r4⟩ := J.row i _ (by rw [List.getElem?_eq_getElem hi, ei])
    cases e2 : (levs M M.mv.length).2.getD t none with
    | none => exact absurd r3 (B.no t ht e2 r (by simp only at r4; omega) r2)
    | some w =>
      obtain ⟨b1, b2, b3⟩ := B.so t w e2
      obtain ⟨r', s1, s2⟩ := S.least h0 w.length w rfl b1
      have er : r' = r := by
        have s1' : rowOf L (M.fin 0 w) = some r' := s1
        rw [b2, e] at s1'
        exact (Option.some.inj s1').symm
      rw [er] at s2
      rw [sl_antisymm s2 (b3 r r2 r3)]
  | none =>
    cases e2 : (levs M M.mv.length).2.getD t none with
    | none => rfl
    | some w =>
      obtain ⟨b1, b2, _⟩ := B.so t w e2
      obtain ⟨r', s1, _⟩ := S.least h0 w.length w rfl b1
      have s1' : rowOf L (M.fin 0 w) = some r' := s1
      rw [b2, e] at s1'
      cases s1'
end
end Q6

set_option Elab.async false
set_option linter.all false
set_option maxRecDepth 100000
set_option maxHeartbeats 1000000
/-! Q6z: the law's rows run. -/
namespace Q6
open PySem PySem.Spec PyProof.Rows L2 PD
section
variable {M : Mach} {lev : Lev} {fs : FS}
theorem lay_word {ls w : List Str} (h : NamesOk ls) (hw : ∀ x ∈ w, x ∈ ls) : SeqAt.shaped (tS w) = true := shaped_tupleI fun d hd => by
  obtain ⟨x, hx, rfl⟩ := List.mem_map.mp hd
  refine ⟨lay_str (h.all x (hw x hx)).ok, ?_⟩
  unfold PyData.depth
  omega
theorem encL_get (lev : Lev) (t : Nat) (h : t < lev.length) : (encL lev)[t]? = some (lvD (lev.getD t none)) := by
  simp [encL, h]
theorem encL_len (lev : Lev) : (encL lev).length = lev.length := by simp [encL]
theorem encL_set (lev : Lev) (t : Nat) (w : List Str) : (encL lev).set t (tS w) = encL (lev.set t (some w)) := by
  unfold encL
  rw [List.map_set]
  rfl
abbrev StA (M : Mach) (lev found : Lev) (q3 q4 q5 q6 : Option Pl) (fs : FS) : DS := ⟨[some (.val (mD M)), some (.val (.list (encL lev))), some (.ownL (encL found)), q3, q4, q5, q6], fs⟩
theorem isNone_tS (w : List Str) : isNone (tS w) = false := rfl
theorem candL_len (f : Lev) (c : Nat × List Str) : (candL f c).length = f.length := by
  unfold candL
  split
  · simp
  · split <;> simp
theorem gLt_words {a b : List Str} (h : SeqAt.shaped (tS a) = true) : gLtT (.val (tS a)) (.val (tS b)) = some (.val (.bool (ltB a b))) := by
  show (if PySem.W.alike (tS a) (tS b) && SeqAt.shaped (tS a) then _ else none) = _
  rw [alike_tS, h]
  rfl
theorem late_one (h : M.Ok) {s k : Nat} {w : List Str} {found : Lev} (hl : lev.length = M.mv.length) (hf : found.length = M.mv.length) (hs : s < M.mv.length) (hk : k < M.ls.length) (e : lev.getD s none = some w) (hw : ∀ l ∈ w, l ∈ M.ls) (hwl : w.length ≤ 64) (q5 q6 : Option Pl) (fs : FS) :
    L0__law_late (StA M lev found (some (.val (.int s))) (some (.val (.int k))) q5 q6 fs) = some (.nx (StA M lev (candL found (candS M s w k)) (some (.val (.int s))) (some (.val (.int k))) (some (.val (.int ((M.nx s).getD k 0 : Nat)))) (some (.val (tS (w ++ [M.ls.getD k ""])))) fs)) := by
  have hz := sizeLine_eq
  obtain ⟨g1, g2, g3⟩ := h.mv_at hs
  obtain ⟨l1, l2⟩ := lx_at h hk
  have e1 : (encL lev)[s]? = some (tS w) := by rw [encL_get lev s (by omega), e]; rfl
  have e2 : (M.nx s)[k]? = some ((M.nx s).getD k 0) := by simp [g2, hk]
  have e3 : M.ls[k]? = some (M.ls.getD k "") := by simp [hk]
  have ht : (M.nx s).getD k 0 < found.length := by rw [hf]; exact g3 _ (List.mem_of_getElem? e2)
  generalize hT : (M.nx s).getD k 0 = t at e2 ht
  generalize hL : M.ls.getD k "" = l at e3 l1
  have e4 := encL_get found t ht
  have z1 : w.length + 1 ≤ sizeLine := by omega
  have z2 : 1 ≤ sizeLine := by omega
  have hsh : SeqAt.shaped (tS (w ++ [l])) = true := lay_word h.ln fun x hx => by
    rcases List.mem_append.mp hx with q | q
    · exact hw x q
    · rw [List.mem_singleton.mp q]; exact l1
  have el := encL_len found
  have hlt : ∀ f, gLtT (.val (tS (w ++ [l]))) (.val (tS f)) = some (.val (.bool (ltB (w ++ [l]) f))) := fun f => gLt_words hsh
  unfold candS
  rw [hT, hL]
  have hes := encL_set found t (w ++ [l])
  simp only [tS, List.map_append, List.map_cons, List.map_nil] at hlt hes
  have hix : ixN (encL found).length (t : Int) = some t := by rw [el]; unfold L2.ixN; rw [if_pos (by omega), if_pos (by omega)]; simp
  have key : candL found (t, w ++ [l]) = (match found.getD t none with
    | none => found.set t (some (w ++ [l]))
    | some f => if ltB (w ++ [l]) f = true then found.set t (some (w ++ [l])) else found) := rfl
  rw [key]
  unfold StA
  generalize hF : encL found = F at e4 el hes hix ⊢
  clear ht el
  generalize found.set t (some (w ++ [l])) = found1 at hes ⊢
  cases e5 : found.getD t none with
  | none =>
    rw [e5] at e4
    have e4 : F[t]? = some .none := e4
    simp only []
    rw [← hes]
    simp [L0__law_late, g1, e1, tN_eq, lN_get, e2, e3, z1, z2, e4, hix, isNone]
  | some f =>
    rw [e5] at e4
    have e4 : F[t]? = some (tS f) := e4
    by_cases c : ltB (w ++ [l]) f = true
    · simp only [c, if_true]
      rw [← hes]
      simp [L0__law_late, g1, e1, tN_eq, lN_get, e2, e3, z1, z2, e4, hix, hlt, c, isNone_tS]
    · simp only [c]
      simp [hF, L0__law_late, g1, e1, tN_eq, lN_get, e2, e3, z1, z2, e4, hix, hlt, c, isNone_tS]
end
end Q6

set_option Elab.async false
set_option linter.all false
set_option maxRecDepth 100000
set_option maxHeartbeats 1000000
/-! Q7a: the law's levels and rows run. -/
namespace Q6
open PySem PySem.Spec PyProof.Rows L2 PD
section
variable {M : Mach} {lev : Lev} {fs : FS}
theorem rOk_small {n : Nat} (h : n ≤ 1000) : rOk (n : Int) = true := rOk_nat (by omega)
theorem late_row (h : M.Ok) {s : Nat} {found : Lev} (hl : lev.length = M.mv.length) (hf : found.length = M.mv.length) (hs : s < M.mv.length) (hw : ∀ t w, lev.getD t none = some w → (∀ l ∈ w, l ∈ M.ls) ∧ w.length ≤ 64) (q4 q5 q6 : Option Pl) (fs : FS) :
    (∃ q4' q5' q6', L1__law_late (StA M lev found (some (.val (.int s))) q4 q5 q6 fs) = some (.nx (StA M lev ((lateS M lev s).foldl candL found) (some (.val (.int s))) q4' q5' q6' fs))) ∧ ((lateS M lev s).foldl candL found).length = M.mv.length := by
  have e1 := encL_get lev s (by omega)
  have l9 := h.l9
  have hro := rOk_small (n := M.ls.length) (by omega)
  cases e : lev.getD s none with
  | none =>
    rw [e] at e1
    have e1 : (encL lev)[s]? = some .none := e1
    have el : lateS M lev s = [] := by unfold lateS; rw [e]
    rw [el]
    refine ⟨⟨q4, q5, q6, ?_⟩, hf⟩
    simp [L1__law_late, e1, isNone]
  | some w =>
    rw [e] at e1
    have e1 : (encL lev)[s]? = some (tS w) := e1
    obtain ⟨w1, w2⟩ := hw s w e
    obtain ⟨⟨q', e2⟩, p2⟩ := sFor_fold (t := .nm 4) (f := L0__law_late) (fun k : Nat => PyData.int k) (fun f (q : Option Pl × Option Pl × Option Pl) => StA M lev f (some (.val (.int s))) q.1 q.2.1 q.2.2 fs) (fun f => f.length = M.mv.length) (fun f k => candL f (candS M s w k)) (List.range M.ls.length) found (q4, q5, q6) hf fun f k q hk hP => by
      refine ⟨⟨(some (.val (.int k)), some (.val (.int ((M.nx s).getD k 0 : Nat))), some (.val (tS (w ++ [M.ls.getD k ""])))), ?_⟩, by rw [candL_len]; exact hP⟩
      have := late_one h hl hP hs (List.mem_range.mp hk) e w1 w2 q.2.1 q.2.2 fs
      exact this
    have el : lateS M lev s = (List.range M.ls.length).map (candS M s w) := by unfold lateS; rw [e]
    rw [el, List.foldl_map]
    refine ⟨⟨q'.1, q'.2.1, q'.2.2, ?_⟩, p2⟩
    have e3 := e2
    rw [← lN_map, ← rangeD_lN] at e3
    simp [L1__law_late, e1, isNone_tS, hro, e3]
theorem d_late (h : M.Ok) (hl : lev.length = M.mv.length) (hw : ∀ t w, lev.getD t none = some w → (∀ l ∈ w, l ∈ M.ls) ∧ w.length ≤ 64) (fs : FS) : D__law_late [.val (mD M), .val (.list (encL lev))] fs = some (.ownL (encL (lateL M lev)), fs) := by
  have hz := sizeLine_eq
  have h9 := h.n9
  have hro := rOk_small (n := M.mv.length) (by omega)
  obtain ⟨⟨q', e2⟩, p2⟩ := sFor_fold (t := .nm 3) (f := L1__law_late) (fun k : Nat => PyData.int k) (fun f (q : Option Pl × Option Pl × Option Pl × Option Pl) => StA M lev f q.1 q.2.1 q.2.2.1 q.2.2.2 fs) (fun f => f.length = M.mv.length) (fun f s => (lateS M lev s).foldl candL f) (List.range M.mv.length) (List.replicate M.mv.length none) (none, none, none, none) (by simp) fun f s q hs hP => by
    obtain ⟨⟨q4, q5, q6, e⟩, p⟩ := late_row h (found := f) hl hP (List.mem_range.mp hs) hw q.2.1 q.2.2.1 q.2.2.2 fs
    exact ⟨⟨(some (.val (.int s)), q4, q5, q6), e⟩, p⟩
  have e3 := e2
  rw [← lN_map, ← rangeD_lN] at e3
  have e0 : encL (List.replicate M.mv.length none) = List.replicate M.mv.length .none := by simp [encL, lvD]
  unfold StA at e3
  rw [e0] at e3
  have ef : (List.replicate M.mv.length [PyData.none]).flatten = List.replicate M.mv.length .none := by
    generalize M.mv.length = n
    induction n with
    | zero => rfl
    | succ n ih => simp [List.replicate_succ, ih]
  have z1 : M.mv.length ≤ sizeLine := by omega
  have z2 : 1 ≤ sizeLine := by omega
  show runDef 2 7 B__law_late _ fs = _
  simp [B__law_late, hro, z1, z2, ef, e3]
  rfl
end
end Q6

set_option Elab.async false
set_option linter.all false
set_option maxRecDepth 100000
set_option maxHeartbeats 1000000
/-! Q7b: the law's rows run, the program's. -/
namespace Q6
open PySem PySem.Spec PyProof.Rows L2 PD
section
variable {M : Mach} {lev best : Lev} {fs : FS}
abbrev StB (M : Mach) (lev best : Lev) (q4 : Option Pl) (fs : FS) : DS := ⟨[some (.val (mD M)), some (.val (.int M.mv.length)), some (.ownL (encL best)), some (.ownL (encL lev)), q4, none], fs⟩
theorem rows_lap (h : M.Ok) (hl : lev.length = M.mv.length) (hb : best.length = M.mv.length) (hw : ∀ t w, lev.getD t none = some w → (∀ l ∈ w, l ∈ M.ls) ∧ w.length ≤ 64) (q4 : Option Pl) (fs : FS) :
    L0__law_rows (StB M lev best q4 fs) = some (.nx (StB M (lateL M lev) (bestS lev best) q4 fs)) := by
  have h9 := h.n9
  have hz := sizeLine_eq
  have hro := rOk_small (n := M.mv.length) (by omega)
  have e := lc_turn (vs := [5]) (t := .nm 5) (fe := Ce0__law_rows) (fun k : Nat => PyData.int k) (fun s => lvD (if best.getD s none = none then lev.getD s none else best.getD s none)) (List.range M.mv.length) (StB M lev best q4 fs) (by simp; omega) fun s hs => by
    have hs' := List.mem_range.mp hs
    have e1 := encL_get lev s (by omega)
    have e2 := encL_get best s (by omega)
    cases eb : best.getD s none with
    | none =>
      rw [eb] at e2
      have e2 : (encL best)[s]? = some .none := e2
      simp [turnE, Ce0__law_rows, e1, e2, isNone]
    | some w =>
      rw [eb] at e2
      have e2 : (encL best)[s]? = some (tS w) := e2
      simp [turnE, Ce0__law_rows, e1, e2, isNone_tS, lvD]
  rw [← lN_map, ← rangeD_lN] at e
  have eb : (List.range M.mv.length).map (fun s => lvD (if best.getD s none = none then lev.getD s none else best.getD s none)) = encL (bestS lev best) := by
    unfold encL bestS
    rw [List.map_map, hb]
    rfl
  rw [eb] at e
  have e3 := fun fs => d_late h hl hw fs
  unfold StB at e ⊢
  generalize encL (bestS lev best) = F at e ⊢
  generalize encL (lateL M lev) = G at e3 ⊢
  simp [L0__law_rows, hro, plainAt, e, e3]
theorem levs_words (h : M.Ok) {m : Nat} (hm : m ≤ 64) : ∀ t w, (levs M m).1.getD t none = some w → (∀ l ∈ w, l ∈ M.ls) ∧ w.length ≤ 64 := fun t w e => by
  obtain ⟨⟨g1, g2, _⟩, _⟩ := (levs_ok h m).1.so t w e
  exact ⟨g2, by omega⟩
theorem flat_none (n : Nat) : (List.replicate n [PyData.none]).flatten = List.replicate n .none := by
  induction n with
  | zero => rfl
  | succ n ih => simp [List.replicate_succ, ih]
theorem d_rows (h : M.Ok) (fs : FS) : D__law_rows [.val (mD M)] fs = some (.ownL (encL (levs M M.mv.length).2), fs) := by
  have h9 := h.n9
  have h1 := h.n1
  have hz := sizeLine_eq
  have hro := rOk_small (n := M.mv.length) (by omega)
  obtain ⟨s', e, hI⟩ := sFor_inv (t := .nm 4) (f := L0__law_rows) (fun k : Nat => PyData.int k) (fun m s => ∃ q4, s = StB M (levs M m).1 (levs M m).2 q4 fs) (List.range M.mv.length) 0 (StB M (levs M 0).1 (levs M 0).2 none fs) (fun j x s hx hs => by
    obtain ⟨q4, rfl⟩ := hs
    have hj : j < M.mv.length := by
      have := (List.getElem?_eq_some_iff.mp hx).1
      simpa using this
    refine ⟨StB M (levs M (0 + j + 1)).1 (levs M (0 + j + 1)).2 (some (.val (.int x))) fs, ?_, _, rfl⟩
    have := rows_lap h (levs_ok h (0 + j)).1.len (levs_ok h (0 + j)).2.len (levs_words h (by omega)) (some (.val (.int x))) fs
    exact this) ⟨none, rfl⟩
  obtain ⟨q4, rfl⟩ := hI
  rw [← lN_map, ← rangeD_lN] at e
  have e0 : encL (levs M 0).2 = List.replicate M.mv.length .none := by simp [levs, encL, lvD]
  have e1 : encL (levs M 0).1 = .tuple [] :: List.replicate (M.mv.length - 1) .none := by simp [levs, lev0, encL, lvD]
  have el : 0 + (List.range M.mv.length).length = M.mv.length := by simp
  rw [el] at e
  unfold StB at e
  rw [e0, e1] at e
  have z1 : M.mv.length ≤ sizeLine := by omega
  have z2 : 1 ≤ sizeLine := by omega
  have z3 : 1 + (M.mv.length - 1) ≤ sizeLine := by omega
  have z4 : M.mv.length - 1 ≤ sizeLine := by omega
  have es : (M.mv.length : Int) - 1 = ((M.mv.length - 1 : Nat) : Int) := by omega
  have hro2 := rOk_small (n := M.mv.length - 1) (by omega)
  have z5 : 0 + 1 ≤ sizeLine := by omega
  generalize encL (levs M M.mv.length).2 = F at e ⊢
  generalize encL (levs M M.mv.length).1 = G at e ⊢
  simp [D__law_rows, B__law_rows, hro, hro2, z1, z2, z3, z4, es, flat_none, e]
end
end Q6

set_option Elab.async false
set_option linter.all false
set_option maxRecDepth 100000
set_option maxHeartbeats 1000000
/-! Q7c: what repr can be asked of; rows right. -/
namespace Q6
open PySem PySem.Spec PyProof.Rows L2 PD
structure Rp (k w : Nat) (d : PyData) : Prop where
  lay : d.canLay0 = true
  dep : d.depth ≤ k
  wt : d.weight ≤ w
  ish : d.intsShort 13 = true
  shw : d.showable = true
theorem rp_all {k w : Nat} : ∀ {ds : List PyData}, (∀ d ∈ ds, Rp k w d) → PyData.canLayAll0 ds = true ∧ PyData.depthAll ds ≤ k ∧ PyData.weightAll ds ≤ ds.length * (w + 1) ∧ PyData.intsShortAll 13 ds = true ∧ PyData.showableAll ds = true
  | [], _ => ⟨by simp [PyData.canLayAll0], by simp [PyData.depthAll], by simp [PyData.weightAll], by simp [PyData.intsShortAll], by simp [PyData.showableAll]⟩
  | d :: r, h => by
    obtain ⟨a, b, c, e, f⟩ := h d List.mem_cons_self
    obtain ⟨i1, i2, i3, i4, i5⟩ := rp_all (ds := r) fun x hx => h x (List.mem_cons_of_mem _ hx)
    refine ⟨by simp [PyData.canLayAll0, a, i1], by simp [PyData.depthAll]; omega, ?_, by simp [PyData.intsShortAll, e, i4], by simp [PyData.showableAll, f, i5]⟩
    simp only [PyData.weightAll, List.length_cons, Nat.add_mul]
    omega
theorem Rp.tup {k w m : Nat} {ds : List PyData} (h : ∀ d ∈ ds, Rp k w d) (hl : ds.length ≤ m) : Rp (k + 1) (m * (w + 1)) (.tuple ds) := by
  obtain ⟨i1, i2, i3, i4, i5⟩ := rp_all h
  have := Nat.mul_le_mul_right (w + 1) hl
  exact ⟨by simp [PyData.canLay0, i1], by simp [PyData.depth, i2], by simp only [PyData.weight]; omega, by simp [PyData.intsShort, i4], by simp [PyData.showable, i5]⟩
theorem Rp.lst {k w m : Nat} {ds : List PyData} (h : ∀ d ∈ ds, Rp k w d) (hl : ds.length ≤ m) : Rp (k + 1) (m * (w + 1)) (.list ds) := by
  obtain ⟨i1, i2, i3, i4, i5⟩ := rp_all h
  have := Nat.mul_le_mul_right (w + 1) hl
  exact ⟨by simp [PyData.canLay0, i1], by simp [PyData.depth, i2], by simp only [PyData.weight]; omega, by simp [PyData.intsShort, i4], by simp [PyData.showable, i5]⟩
theorem Rp.up {k w k' w' : Nat} {d : PyData} (h : Rp k w d) (hk : k ≤ k') (hw : w ≤ w') : Rp k' w' d := ⟨h.lay, Nat.le_trans h.dep hk, Nat.le_trans h.wt hw, h.ish, h.shw⟩
theorem rp_repr {k w : Nat} {ds : List PyData} (h : Rp k w (.list ds)) (hk : k ≤ 64) (hw : w ≤ 2 ^ 20) : reprOk (.list ds) = true := by
  have h1 := h.dep
  have h2 := h.wt
  show (PyData.layable0 (.list ds) && (PyData.list ds).intsShort 13 && (PyData.list ds).showable) = true
  rw [h.ish, h.shw]
  unfold PyData.layable0
  rw [h.lay, decide_eq_true (Nat.le_trans h1 hk), decide_eq_true (Nat.le_trans h2 hw)]
  rfl
theorem rp_none : Rp 0 0 .none := ⟨rfl, Nat.le_refl _, Nat.le_refl _, rfl, rfl⟩
theorem rp_bool (b : Bool) : Rp 0 0 (.bool b) := ⟨rfl, Nat.le_refl _, Nat.le_refl _, rfl, rfl⟩
theorem rp_str {x : Str} (h : NameOk x) : Rp 0 8 (.str x) := ⟨lay_str h.ok, Nat.le_refl _, by
  have := h.l8
  unfold PyData.weight
  exact this, rfl, rfl⟩
theorem rp_nat {n : Nat} (h : n ≤ 9) : Rp 0 8 (.int n) := by
  have : n = 0 ∨ n = 1 ∨ n = 2 ∨ n = 3 ∨ n = 4 ∨ n = 5 ∨ n = 6 ∨ n = 7 ∨ n = 8 ∨ n = 9 := by omega
  rcases this with rfl | rfl | rfl | rfl | rfl | rfl | rfl | rfl | rfl | rfl <;> exact ⟨rfl, Nat.le_refl _, by decide +kernel, by decide +kernel, by decide +kernel⟩
theorem rp_word {M : Mach} (h : M.Ok) {w : List Str} (hw : ∀ l ∈ w, l ∈ M.ls) {m : Nat} (hl : w.length ≤ m) : Rp 1 (m * 9) (tS w) := Rp.tup (w := 8) (fun d hd => by
  obtain ⟨x, hx, rfl⟩ := List.mem_map.mp hd
  exact rp_str (h.ln.all x (hw x hx))) (by simpa using hl)
theorem rp_tN {xs : List Nat} (h : ∀ x ∈ xs, x ≤ 9) {m : Nat} (hl : xs.length ≤ m) : Rp 1 (m * 9) (tN xs) := Rp.tup (w := 8) (fun d hd => by
  obtain ⟨i, hi, rfl⟩ := List.mem_map.mp hd
  obtain ⟨x, hx, rfl⟩ := List.mem_map.mp hi
  exact rp_nat (h x hx)) (by simpa [castL] using hl)
section
variable {M : Mach} {fs : FS}
theorem d_row_to (h : M.Ok) {L : RowsL} (hr : ∀ fs, D_least_rows [.val (mD M), .val (.int (0 : Nat))] fs = some (.ownK (encR L), fs)) {t : Nat} (ht : t < M.mv.length) (fs : FS) : D_row_to [.val (mD M), .val (.int (t : Int))] fs = some (.val (lvD (rowOf L t)), fs) := by
  have e1 : ∀ fs, D_least_rows [.val (mD M), .val (.int 0)] fs = some (.ownK (encR L), fs) := hr
  have e2 := lookD_enc L t
  cases e : rowOf L t with
  | none =>
    rw [e] at e2
    simp [D_row_to, B_row_to, d_need_state h ht, e1, keyD, e2, lvD]
  | some r =>
    rw [e] at e2
    simp [D_row_to, B_row_to, d_need_state h ht, e1, keyD, e2, lvD]
theorem sort_keys {L : RowsL} {n : Nat} (nd : (keysR L).Nodup) (hn : ∀ t ∈ keysR L, t < n) : sortI (castL (keysR L)) = castL ((List.range n).filter fun t => decide (t ∈ keysR L)) := by
  refine (sortI_of ?_ ?_).symm
  · refine List.Perm.map _ ?_
    refine (List.perm_ext_iff_of_nodup (List.nodup_range.filter _) nd).mpr fun t => ?_
    rw [List.mem_filter, List.mem_range]
    simp only [decide_eq_true_eq]
    exact ⟨fun h => h.2, fun h => ⟨hn t h, h⟩⟩
  · unfold castL
    rw [List.pairwise_map]
    refine ((List.pairwise_lt_range (n := n)).filter _).imp fun h => ?_
    show (Int.ofNat _ : Int) ≤ Int.ofNat _
    exact Int.ofNat_le.mpr (Nat.le_of_lt h)
theorem d_reachable (h : M.Ok) {L : RowsL} (J : JR M 0 L) (hr : ∀ fs, D_least_rows [.val (mD M), .val (.int (0 : Nat))] fs = some (.ownK (encR L), fs)) (fs : FS) :
    D_reachable_states [.val (mD M)] fs = some (.val (tN ((List.range M.mv.length).filter fun t => decide (t ∈ keysR L))), fs) := by
  have e1 : ∀ fs, D_least_rows [.val (mD M), .val (.int 0)] fs = some (.ownK (encR L), fs) := hr
  have hl := J.len
  have h9 := h.n9
  have hz := sizeLine_eq
  have e2 := gSorted_d (kvs := L.map fun p => ((p.1 : Int), tS p.2)) (by simp; omega)
  have e3 : ((L.map fun p => ((p.1 : Int), tS p.2)).map fun p => ((Sum.inl p.1 : Key), p.2)) = encR L := by simp [encR, Function.comp_def]
  have e4 : ((L.map fun p => ((p.1 : Int), tS p.2)).map (·.1)) = castL (keysR L) := by simp [castL, keysR, Function.comp_def]
  rw [e3, e4, sort_keys (n := M.mv.length) J.nd fun t ht => by
    obtain ⟨p, hp, rfl⟩ := List.mem_map.mp ht
    obtain ⟨i, hi, e⟩ := List.getElem_of_mem hp
    exact (J.row i p (by rw [List.getElem?_eq_getElem hi, e])).1] at e2
  simp [D_reachable_states, B_reachable_states, d_need_machine h, e1, e2]
end
end Q6

set_option Elab.async false
set_option linter.all false
set_option maxRecDepth 100000
set_option maxHeartbeats 2000000
/-! Q7d: rows right. -/
namespace Q6
open PySem PySem.Spec PyProof.Rows L2 PD
section
variable {M : Mach} {fs : FS}
def dueB (M : Mach) (L : RowsL) : List PyData := (List.range M.mv.length).map fun s => lvD (rowOf L s)
def dueR (M : Mach) (L : RowsL) : List Nat := (List.range M.mv.length).filter fun t => decide (t ∈ keysR L)
theorem map_getD {α : Type} (l : List (Option α)) (f : Option α → PyData) : l.map f = (List.range l.length).map fun s => f (l.getD s none) := by
  apply List.ext_getElem
  · simp
  · intro i h1 h2
    simp at h1
    simp [h1]
theorem d_are_rows_right (h : M.Ok) (fs : FS) : D__law_are_rows_right [.val (mD M)] fs = some (.val (.bool true), fs) := by
  have h9 := h.n9
  have h1 := h.n1
  have hz := sizeLine_eq
  have hro := rOk_small (n := M.mv.length) (by omega)
  obtain ⟨L, J, S, _, hr⟩ := least_rows_ex (b := 0) h h1
  have lv : ∀ t, t < M.mv.length → (levs M M.mv.length).2.getD t none = rowOf L t := fun t ht => levs_rows h J S ht
  have eB : encL (levs M M.mv.length).2 = dueB M L := by
    unfold encL dueB
    rw [map_getD, (levs_ok h M.mv.length).2.len]
    refine List.map_congr_left fun s hs => ?_
    rw [lv s (List.mem_range.mp hs)]
  have eR := fun fs => d_rows h fs
  rw [eB] at eR
  have lB : (dueB M L).length = M.mv.length := by simp [dueB]
  have gB : ∀ s, s < M.mv.length → (dueB M L)[s]? = some (lvD (rowOf L s)) := fun s hs => by simp [dueB, hs]
  have last : (dueB M L).getLast? = some (lvD (rowOf L (M.mv.length - 1))) := by
    rw [List.getLast?_eq_getElem?, lB]
    exact gB _ (by omega)
  have rt := fun t ht fs => d_row_to (t := t) h hr ht fs
  have re := fun fs => d_reachable h J hr fs
  have hreach : (List.range M.mv.length).filter (fun t => decide (t ∈ keysR L)) = dueR M L := rfl
  rw [hreach] at re
  have en : ((M.mv.length : Int) - 1) = ((M.mv.length - 1 : Nat) : Int) := by omega
  have eC : ∀ fs, lcLoop [4] (.nm 4) Ct0__law_are_rows_right Ce0__law_are_rows_right (rangeD 0 M.mv.length) [] ⟨[some (.val (mD M)), some (.ownL (dueB M L)), none, none, none], fs⟩ = some (lN (dueR M L), ⟨[some (.val (mD M)), some (.ownL (dueB M L)), none, none, none], fs⟩) := fun fs => by
    have e := lc_turnT (vs := [4]) (t := .nm 4) (ft := Ct0__law_are_rows_right) (fe := Ce0__law_are_rows_right) (fun k : Nat => PyData.int k) (fun t => decide (t ∈ keysR L)) (fun k : Nat => PyData.int k) (List.range M.mv.length) ⟨[some (.val (mD M)), some (.ownL (dueB M L)), none, none, none], fs⟩ (by simp; omega) fun s hs => by
      have g := gB s (List.mem_range.mp hs)
      cases er : rowOf L s with
      | none =>
        have hk : s ∉ keysR L := fun z => by
          have := rowOf_isSome.mpr z
          rw [er] at this
          cases this
        rw [er] at g
        simp [turnT, Ct0__law_are_rows_right, Ce0__law_are_rows_right, g, lvD, isNone, hk]
      | some w =>
        have hk : s ∈ keysR L := rowOf_isSome.mp (by rw [er]; rfl)
        rw [er] at g
        simp [turnT, Ct0__law_are_rows_right, Ce0__law_are_rows_right, g, lvD, isNone_tS, isNone, hk]
    rw [← lN_map, ← rangeD_lN, ← lN_map] at e
    exact e
  have eD : ∀ due told fs, lcLoop [4] (.nm 4) bYes Ce1__law_are_rows_right (rangeD 0 M.mv.length) [] ⟨[some (.val (mD M)), some (.ownL (dueB M L)), due, told, none], fs⟩ = some (dueB M L, ⟨[some (.val (mD M)), some (.ownL (dueB M L)), due, told, none], fs⟩) := fun due told fs => by
    have e := lc_turn (vs := [4]) (t := .nm 4) (fe := Ce1__law_are_rows_right) (fun k : Nat => PyData.int k) (fun s => lvD (rowOf L s)) (List.range M.mv.length) ⟨[some (.val (mD M)), some (.ownL (dueB M L)), due, told, none], fs⟩ (by simp; omega) fun s hs => by
      simp [turnE, Ce1__law_are_rows_right, rt s (List.mem_range.mp hs)]
    rw [← lN_map, ← rangeD_lN] at e
    exact e
  have rl := rt (M.mv.length - 1) (by omega)
  have same : ∀ fs, D__law_same [.val (.list (.tuple (lN (dueR M L)) :: .tuple (lN (dueR M L)) :: (dueB M L ++ [lvD (rowOf L (M.mv.length - 1))]))), .val (.list (.tuple (lN (dueR M L)) :: .tuple (lN (dueR M L)) :: (dueB M L ++ [lvD (rowOf L (M.mv.length - 1))])))] fs = some (.val (.bool true), fs) := fun fs => by
    have rpR : Rp 1 100 (.tuple (lN (dueR M L))) := (rp_tN (xs := dueR M L) (m := 9) (fun x hx => by
      have := List.mem_range.mp (List.mem_filter.mp hx).1
      omega) (by
      have : (dueR M L).length ≤ (List.range M.mv.length).length := List.length_filter_le _ _
      simp at this
      omega)).up (Nat.le_refl _) (by decide)
    have rpW : ∀ t, Rp 1 100 (lvD (rowOf L t)) := fun t => by
      cases e : rowOf L t with
      | none => exact rp_none.up (by decide) (by decide)
      | some w =>
        obtain ⟨i, hi, ei⟩ := List.getElem_of_mem (rowOf_some e)
        obtain ⟨_, r2, _, r4⟩ := J.row i _ (by rw [List.getElem?_eq_getElem hi, ei])
        have := J.len
        exact (rp_word (w := w) h r2 (m := 9) (by simp only at r4; omega)).up (Nat.le_refl _) (by decide)
    refine d_same (rp_repr (Rp.lst (k := 1) (w := 100) (m := 100) (fun d hd => ?_) (by simp [lB]; omega)) (by decide) (by decide)) fs
    rcases List.mem_cons.mp hd with rfl | hd
    · exact rpR
    · rcases List.mem_cons.mp hd with rfl | hd
      · exact rpR
      · rcases List.mem_append.mp hd with hd | hd
        · obtain ⟨t, _, rfl⟩ := List.mem_map.mp hd
          exact rpW t
        · rw [List.mem_singleton.mp hd]
          exact rpW _
  have z1 : 1 ≤ sizeLine := by omega
  have z2 : 2 ≤ sizeLine := by omega
  have z3 : 2 + M.mv.length ≤ sizeLine := by omega
  have z4 : 2 + M.mv.length < sizeLine := by omega
  have z5 : 2 + M.mv.length + 1 ≤ sizeLine := by omega
  have z6 : M.mv.length + 1 + 1 ≤ sizeLine := by omega
  have z7 : M.mv.length + 1 + 1 < sizeLine := by omega
  have z8 : M.mv.length + 1 + 1 + 1 ≤ sizeLine := by omega
  have tn : tN (dueR M L) = .tuple (lN (dueR M L)) := rfl
  rw [tn] at re
  generalize dueB M L = B at *
  generalize lN (dueR M L) = R at *
  generalize lvD (rowOf L (M.mv.length - 1)) = W at *
  simp [D__law_are_rows_right, B__law_are_rows_right, eR, hro, lB, eC, re, z1, z2, z3, z4, z5, z6, z7, z8, eD, en, rl, last, pick, plainAt, same]
end
end Q6

set_option Elab.async false
set_option linter.all false
set_option maxRecDepth 100000
set_option maxHeartbeats 1000000
/-! Q7e: dicts with tuples as keys; least_with. -/
namespace Q6
open PySem PySem.Spec PyProof.Rows L2 PD
theorem lookN_none {kvs : List (NestedKey × PyData)} {k : NestedKey} : lookN kvs k = none ↔ ∀ p ∈ kvs, p.1 ≠ k := by
  unfold lookN
  rw [Option.map_eq_none_iff, List.find?_eq_none]
  simp
theorem lookN_cons (p : NestedKey × PyData) (r : List (NestedKey × PyData)) (q : NestedKey) : lookN (p :: r) q = if p.1 = q then some p.2 else lookN r q := by
  by_cases h : p.1 = q <;> simp [lookN, List.find?_cons, h]
theorem lookN_map (k q : NestedKey) (d : PyData) : ∀ r : List (NestedKey × PyData), lookN (r.map fun kv => if kv.1 = k then (kv.1, d) else kv) q = if k = q then (lookN r q).map fun _ => d else lookN r q
  | [] => by simp [lookN]
  | p :: r => by
    have ih := lookN_map k q d r
    rw [List.map_cons, lookN_cons, lookN_cons, ih]
    by_cases h1 : p.1 = k
    · rw [if_pos h1]
      by_cases h2 : k = q
      · subst h2; simp [h1]
      · have : ¬ p.1 = q := by rw [h1]; exact h2
        simp [h2, this]
    · rw [if_neg h1]
      by_cases h2 : k = q
      · subst h2; simp [h1]
      · simp [h2]
theorem lookN_put (kvs : List (NestedKey × PyData)) (k q : NestedKey) (d : PyData) : lookN (putN kvs k d) q = if k = q then some d else lookN kvs q := by
  unfold putN
  by_cases ha : (kvs.any fun kv => decide (kv.1 = k)) = true
  · rw [if_pos ha, lookN_map]
    by_cases hq : k = q
    · subst hq
      rw [if_pos rfl, if_pos rfl]
      cases e : lookN kvs k with
      | some x => rfl
      | none =>
        obtain ⟨p, hp, e2⟩ := List.any_eq_true.mp ha
        exact absurd (of_decide_eq_true e2) (lookN_none.mp e p hp)
    · rw [if_neg hq, if_neg hq]
  · rw [if_neg ha]
    have hn : ∀ p ∈ kvs, p.1 ≠ k := fun p hp e => ha (List.any_eq_true.mpr ⟨p, hp, decide_eq_true e⟩)
    unfold lookN
    rw [List.find?_append]
    by_cases hq : k = q
    · subst hq
      have : kvs.find? (fun kv => decide (kv.1 = k)) = none := by
        rw [List.find?_eq_none]
        intro p hp
        simpa using hn p hp
      simp [this, List.find?_cons]
    · rw [if_neg hq]
      cases kvs.find? (fun kv => decide (kv.1 = q)) <;> simp [List.find?_cons, hq]
theorem putN_len (kvs : List (NestedKey × PyData)) (k : NestedKey) (d : PyData) : (putN kvs k d).length ≤ kvs.length + 1 := by
  unfold putN
  split <;> simp
def leastW (ks : List NestedKey) : List Nat := ks.map fun k => ks.findIdx fun q => decide (q = k)
section
variable {fs : FS}
theorem findIdx_le {ks : List NestedKey} {i : Nat} (hi : i < ks.length) : ks.findIdx (fun q => decide (q = ks[i])) ≤ i := by
  have : ¬ i < ks.findIdx (fun q => decide (q = ks[i])) := fun h => by
    have := List.not_of_lt_findIdx h
    simp at this
  omega
theorem d_least_with {ds : List PyData} {ks : List NestedKey} (hk : ds.map keyT = ks.map some) (hl : ks.length ≤ 64) (fs : FS) : D_least_with [.val (.list ds)] fs = some (.val (tN (leastW ks)), fs) := by
  have hz := sizeLine_eq
  have hlen : ds.length = ks.length := by
    have := congrArg List.length hk
    simpa using this
  have hat : ∀ i (hi : i < ds.length), keyT ds[i] = some (ks[i]'(by omega)) := fun i hi => by
    have h1 : (ds.map keyT)[i]? = (ks.map some)[i]? := by rw [hk]
    rw [List.getElem?_map, List.getElem?_map, List.getElem?_eq_getElem hi, List.getElem?_eq_getElem (by omega : i < ks.length)] at h1
    simpa using h1
  have e0 := enumD_typed (fun d : PyData => d) 0 ds
  rw [List.map_id'] at e0
  obtain ⟨s', e, hI⟩ := sFor_inv (t := .tp [.nm 2, .nm 3]) (f := L0_least_with) (fun p : PyData × Nat => .tuple [.int (p.2 : Nat), p.1])
    (fun i s => ∃ kvs q2 q3, s = ⟨[some (.val (.list ds)), some (.ownN kvs), q2, q3], fs⟩ ∧ (∀ a, q3 = some a → a.own = false) ∧ kvs.length ≤ i ∧ ∀ k, lookN kvs k = if k ∈ ks.take i then some (.int (ks.findIdx fun q => decide (q = k))) else none)
    (ds.zipIdx 0) 0 ⟨[some (.val (.list ds)), some (.ownN []), none, none], fs⟩ (fun j x s hx hs => by
      obtain ⟨kvs, q2, q3, rfl, h0, h1, h2⟩ := hs
      rw [Nat.zero_add] at *
      have hj : j < ds.length := by
        have := (List.getElem?_eq_some_iff.mp hx).1
        simpa using this
      have ex : x = (ds[j], j) := by
        have := (List.getElem?_eq_some_iff.mp hx).2
        rw [← this]
        simp
      subst ex
      have hjk : j < ks.length := by omega
      have hkj := hat j hj
      have ht : ks.take (j + 1) = ks.take j ++ [ks[j]] := by rw [List.take_succ_eq_append_getElem hjk]
      generalize hK : ks[j] = K at hkj ht
      by_cases hm : K ∈ ks.take j
      · refine ⟨⟨[some (.val (.list ds)), some (.ownN kvs), some (.val (.int j)), some (.val ds[j])], fs⟩, ?_, kvs, _, _, rfl, (fun a e => by cases e; rfl), by omega, fun k => ?_⟩
        · have := h2 K
          rw [if_pos hm] at this
          generalize ds[j] = D at *
          simp [L0_least_with, gNIn, hkj, this]
        · rw [h2 k, ht]
          by_cases e : k = K
          · subst e; simp [hm]
          · simp [e]
      · have hfi : (ks.findIdx fun q => decide (q = K)) = j := by
          rw [← hK]
          have h3 := findIdx_le hjk
          rcases Nat.lt_or_ge (ks.findIdx fun q => decide (q = ks[j])) j with h4 | h4
          · exfalso
            have h5 : ks.findIdx (fun q => decide (q = ks[j])) < ks.length := by omega
            have h6 := List.findIdx_getElem (w := h5)
            have h7 : ks[ks.findIdx (fun q => decide (q = ks[j]))] = ks[j] := by simpa using h6
            apply hm
            rw [← hK, ← h7]
            exact List.mem_take_iff_getElem.mpr ⟨_, by omega, rfl⟩
          · omega
        refine ⟨⟨[some (.val (.list ds)), some (.ownN (putN kvs K (.int (j : Nat)))), some (.val (.int j)), some (.val ds[j])], fs⟩, ?_, _, _, _, rfl, (fun a e => by cases e; rfl), by have := putN_len kvs K (.int (j : Nat)); omega, fun k => ?_⟩
        · have := h2 K
          rw [if_neg hm] at this
          have z1 : kvs.length < sizeLine := by omega
          generalize ds[j] = D at *
          simp [L0_least_with, gNIn, hkj, this, z1]
        · rw [lookN_put, h2 k, ht]
          by_cases e : K = k
          · subst e; simp [hfi]
          · have e' : ¬ k = K := fun z => e z.symm
            simp [e, e']) ⟨[], none, none, rfl, (fun a e => nomatch e), Nat.le_refl _, fun k => by simp [lookN]⟩
  obtain ⟨kvs, q2, q3, rfl, h0, h1, h2⟩ := hI
  rw [← e0] at e
  have hmem : ∀ d ∈ ds, ∃ k, keyT d = some k ∧ k ∈ ks := fun d hd => by
    obtain ⟨i, hi, rfl⟩ := List.getElem_of_mem hd
    exact ⟨_, hat i hi, List.getElem_mem _⟩
  have htk : ks.take (0 + (ds.zipIdx 0).length) = ks := List.take_of_length_le (by simp; omega)
  rw [htk] at h2
  have e2 := lc_turn (vs := [3]) (t := .nm 3) (fe := Ce0_least_with) (fun d : PyData => d) (fun d => .int ((ks.findIdx fun q => decide (q = (keyT d).getD .none) : Nat))) ds ⟨[some (.val (.list ds)), some (.ownN kvs), q2, none], fs⟩ (by omega) fun d hd => by
    obtain ⟨k, k1, k2⟩ := hmem d hd
    have := h2 k
    rw [if_pos k2] at this
    simp [turnE, Ce0_least_with, gND, k1, this]
  rw [List.map_id'] at e2
  have e3 : (ds.map fun d => PyData.int ((ks.findIdx fun q => decide (q = (keyT d).getD .none) : Nat))) = lN (leastW ks) := by
    rw [lN_map]
    unfold leastW
    rw [List.map_map]
    have : ks = ds.map fun d => (keyT d).getD .none := by
      have h3 := congrArg (List.map fun o => Option.getD o NestedKey.none) hk
      simpa [Function.comp_def] using h3.symm
    rw [show (ks.map ((fun n : Nat => PyData.int (n : Int)) ∘ fun k => ks.findIdx fun q => decide (q = k))) = (ds.map fun d => (keyT d).getD .none).map ((fun n : Nat => PyData.int (n : Int)) ∘ fun k => ks.findIdx fun q => decide (q = k)) from by rw [← this], List.map_map]
    rfl
  rw [e3] at e2
  have hp : plainAt [some (Pl.val (.list ds)), some (.ownN kvs), q2, q3] [3] = true := by
    cases q3 with
    | none => rfl
    | some a => simp [plainAt, h0 a rfl]
  rw [tN_eq]
  generalize leastW ks = R at *
  simp [D_least_with, B_least_with, e, e2, hp]
end
end Q6

set_option Elab.async false
set_option linter.all false
set_option maxRecDepth 100000
set_option maxHeartbeats 1000000
/-! Q7f: classes by refinement: what they are. -/
namespace Q6
open PySem PySem.Spec PyProof.Rows L2 PD
theorem lw_len (ks : List NestedKey) : (leastW ks).length = ks.length := by simp [leastW]
theorem lw_at {ks : List NestedKey} {s : Nat} (hs : s < ks.length) : (leastW ks).getD s 0 = ks.findIdx fun q => decide (q = ks[s]) := by simp [leastW, hs]
theorem lw_le {ks : List NestedKey} {s : Nat} (hs : s < ks.length) : (leastW ks).getD s 0 ≤ s := by rw [lw_at hs]; exact findIdx_le hs
theorem lw_key {ks : List NestedKey} {s : Nat} (hs : s < ks.length) : ∃ h : (leastW ks).getD s 0 < ks.length, ks[(leastW ks).getD s 0] = ks[s] := by
  have h1 := lw_le hs
  have h2 : (leastW ks).getD s 0 < ks.length := by omega
  refine ⟨h2, ?_⟩
  have e := lw_at hs
  have h3 : ks.findIdx (fun q => decide (q = ks[s])) < ks.length := by rw [← e]; exact h2
  have h6 := List.findIdx_getElem (w := h3)
  have h7 : ks[ks.findIdx (fun q => decide (q = ks[s]))] = ks[s] := by simpa using h6
  simp only [e]
  exact h7
theorem lw_eq {ks : List NestedKey} {s t : Nat} (hs : s < ks.length) (ht : t < ks.length) : (leastW ks).getD s 0 = (leastW ks).getD t 0 ↔ ks[s] = ks[t] := by
  constructor
  · intro h
    obtain ⟨a1, a2⟩ := lw_key hs
    obtain ⟨b1, b2⟩ := lw_key ht
    rw [← a2, ← b2]
    simp only [h]
  · intro h
    rw [lw_at hs, lw_at ht, h]
theorem lw_min {ks : List NestedKey} {s t : Nat} (hs : s < ks.length) (ht : t < ks.length) (h : ks[t] = ks[s]) : (leastW ks).getD s 0 ≤ t := by
  have h1 := lw_le ht
  rw [(lw_eq hs ht).mpr h.symm]
  exact h1
/-- classes that are made by a relation -/
structure Cls (n : Nat) (c : List Nat) (R : Nat → Nat → Prop) : Prop where
  len : c.length = n
  le : ∀ s, s < n → c.getD s 0 ≤ s
  same : ∀ s t, s < n → t < n → (c.getD s 0 = c.getD t 0 ↔ R s t)
  fix : ∀ s, s < n → c.getD (c.getD s 0) 0 = c.getD s 0
theorem lw_cls (ks : List NestedKey) (R : Nat → Nat → Prop) (h : ∀ s t (hs : s < ks.length) (ht : t < ks.length), (ks[s] = ks[t] ↔ R s t)) : Cls ks.length (leastW ks) R := by
  refine ⟨lw_len ks, fun s hs => lw_le hs, fun s t hs ht => (lw_eq hs ht).trans (h s t hs ht), fun s hs => ?_⟩
  obtain ⟨a1, a2⟩ := lw_key hs
  exact (lw_eq a1 hs).mpr a2
def fixes (n : Nat) (c : List Nat) : Nat := ((List.range n).filter fun s => decide (c.getD s 0 = s)).length
theorem filt_lt {α : Type} (p q : α → Bool) : ∀ (xs : List α), (∀ x ∈ xs, p x = true → q x = true) → (∃ x ∈ xs, p x = false ∧ q x = true) → (xs.filter p).length < (xs.filter q).length
  | [], _, h => by obtain ⟨x, hx, _⟩ := h; cases hx
  | y :: r, h1, h2 => by
    have le : ∀ ys : List α, (∀ x ∈ ys, p x = true → q x = true) → (ys.filter p).length ≤ (ys.filter q).length := by
      intro ys
      induction ys with
      | nil => intro _; exact Nat.le_refl _
      | cons z zs ih =>
        intro h
        have i := ih fun x hx => h x (List.mem_cons_of_mem _ hx)
        by_cases hz : p z = true
        · simp [List.filter_cons, hz, h z List.mem_cons_self hz, i]
        · by_cases hq : q z = true
          · simp [List.filter_cons, hz, hq]; omega
          · simp [List.filter_cons, hz, hq, i]
    have hr := fun x hx => h1 x (List.mem_cons_of_mem _ hx)
    obtain ⟨x, hx, e1, e2⟩ := h2
    rcases List.mem_cons.mp hx with rfl | hx
    · have := le r hr
      simp [List.filter_cons, e1, e2]
      omega
    · have i := filt_lt p q r hr ⟨x, hx, e1, e2⟩
      by_cases hz : p y = true
      · simp [List.filter_cons, hz, h1 y List.mem_cons_self hz, i]
      · by_cases hq : q y = true
        · simp [List.filter_cons, hz, hq]; omega
        · simp [List.filter_cons, hz, hq, i]
/-- finer classes: equal or more of them -/
theorem cls_finer {n : Nat} {c d : List Nat} {R S : Nat → Nat → Prop} (hc : Cls n c R) (hd : Cls n d S) (hf : ∀ s t, s < n → t < n → S s t → R s t) (hne : c ≠ d) : fixes n c < fixes n d := by
  have cle : ∀ s, s < n → c.getD s 0 ≤ d.getD s 0 := fun s hs => by
    have h1 := hd.le s hs
    have ht : d.getD s 0 < n := by omega
    have h2 : S s (d.getD s 0) := (hd.same s _ hs ht).mp (hd.fix s hs).symm
    have h3 := (hc.same s _ hs ht).mpr (hf _ _ hs ht h2)
    rw [h3]
    exact hc.le _ ht
  have : ∃ s, s < n ∧ c.getD s 0 ≠ d.getD s 0 := by
    apply Classical.byContradiction
    intro h
    apply hne
    apply List.ext_getElem
    · rw [hc.len, hd.len]
    · intro i h1 h2
      have hi : i < n := by rw [← hc.len]; exact h1
      have := Classical.not_not.mp fun z => h ⟨i, hi, z⟩
      simpa [h1, h2] using this
  obtain ⟨s, hs, e⟩ := this
  have h1 := hd.le s hs
  have ht : d.getD s 0 < n := by omega
  have h2 : S s (d.getD s 0) := (hd.same s _ hs ht).mp (hd.fix s hs).symm
  have h3 := (hc.same s _ hs ht).mpr (hf _ _ hs ht h2)
  have h4 := cle s hs
  refine filt_lt _ _ _ (fun x hx hp => ?_) ⟨d.getD s 0, List.mem_range.mpr ht, ?_, ?_⟩
  · have hx := List.mem_range.mp hx
    have e1 := of_decide_eq_true hp
    have := cle x hx
    have := hd.le x hx
    exact decide_eq_true (by omega)
  · apply decide_eq_false
    rw [← h3]
    exact e
  · exact decide_eq_true (hd.fix s hs)
theorem fixes_le (n : Nat) (c : List Nat) : fixes n c ≤ n := by
  have := List.length_filter_le (fun s => decide (c.getD s 0 = s)) (List.range n)
  simpa [fixes] using this
section
variable {M : Mach} {xs : List Str}
/-- not parted by words up to a length -/
def Near (M : Mach) (xs : List Str) (m s t : Nat) : Prop := ∀ w : List Str, w.length ≤ m → (∀ l ∈ w, l ∈ M.ls) → M.ans xs (M.fin s w) = M.ans xs (M.fin t w)
def Alike (M : Mach) (xs : List Str) (s t : Nat) : Prop := ∀ w : List Str, (∀ l ∈ w, l ∈ M.ls) → M.ans xs (M.fin s w) = M.ans xs (M.fin t w)
theorem near_zero {s t : Nat} : Near M xs 0 s t ↔ M.ans xs s = M.ans xs t := by
  constructor
  · intro h
    exact h [] (Nat.le_refl _) (fun _ q => nomatch q)
  · intro h w hw _
    rw [List.eq_nil_of_length_eq_zero (Nat.le_zero.mp hw)]
    exact h
theorem near_succ {m s t : Nat} : Near M xs (m + 1) s t ↔ Near M xs m s t ∧ ∀ l ∈ M.ls, Near M xs m (M.st s l) (M.st t l) := by
  constructor
  · intro h
    refine ⟨fun w hw hm => h w (by omega) hm, fun l hl w hw hm => ?_⟩
    have := h (l :: w) (by simp; omega) fun x hx => by
      rcases List.mem_cons.mp hx with rfl | hx
      · exact hl
      · exact hm x hx
    exact this
  · rintro ⟨h1, h2⟩ w hw hm
    cases w with
    | nil => exact h1 [] (Nat.zero_le _) hm
    | cons l r =>
      have := h2 l (hm l List.mem_cons_self) r (by simpa using hw) fun x hx => hm x (List.mem_cons_of_mem _ hx)
      exact this
theorem near_mono {m k s t : Nat} (h : Near M xs k s t) (hm : m ≤ k) : Near M xs m s t := fun w hw hl => h w (by omega) hl
/-- where one more letter parts no more, none does -/
theorem near_stable (h : M.Ok) {m : Nat} (hs : ∀ s t, s < M.mv.length → t < M.mv.length → Near M xs m s t → Near M xs (m + 1) s t) {s t : Nat} (h1 : s < M.mv.length) (h2 : t < M.mv.length) (h3 : Near M xs m s t) : Alike M xs s t := fun w => by
  induction w generalizing s t with
  | nil => intro hm; exact h3 [] (Nat.zero_le _) hm
  | cons l r ih =>
    intro hm
    have hl := hm l List.mem_cons_self
    have h4 := (near_succ.mp (hs s t h1 h2 h3)).2 l hl
    exact ih (M.st_lt h h1 hl).1 (M.st_lt h h2 hl).1 h4 fun x hx => hm x (List.mem_cons_of_mem _ hx)
end
end Q6

set_option Elab.async false
set_option linter.all false
set_option maxRecDepth 100000
set_option maxHeartbeats 1000000
/-! Q7g: classes_by. -/
namespace Q6
open PySem PySem.Spec PyProof.Rows L2 PD
theorem eqvAll_I : ∀ a b : List Int, PyData.eqvAll (a.map PyData.int) (b.map PyData.int) = decide (a = b)
  | [], [] => by simp [PyData.eqvAll]
  | [], _ :: _ => by simp [PyData.eqvAll]
  | _ :: _, [] => by simp [PyData.eqvAll]
  | x :: a, y :: b => by
    have := eqvAll_I a b
    simp [PyData.eqvAll, eqv_int, this]
theorem eqv_tI (a b : List Int) : PyData.eqv (tI a) (tI b) = decide (a = b) := by
  show PyData.eqv (.tuple _) (.tuple _) = _
  rw [PyData.eqv, eqvAll_I]
theorem castL_inj {a b : List Nat} : castL a = castL b ↔ a = b := by
  constructor
  · intro h
    have : a = (castL a).map Int.toNat := by simp [castL, Function.comp_def]
    rw [this, h]
    simp [castL, Function.comp_def]
  · intro h; rw [h]
theorem eqv_lN (a b : List Nat) : PyData.eqv (.tuple (lN a)) (.tuple (lN b)) = decide (a = b) := by
  rw [← tN_eq, ← tN_eq, eqv_tI]
  simp [castL_inj]
theorem shaped_tI (a : List Int) : SeqAt.shaped (tI a) = true := shaped_tupleI fun d hd => by
  obtain ⟨x, _, rfl⟩ := List.mem_map.mp hd
  exact ⟨by simp [PyData.canLay0], by simp [PyData.depth]⟩
theorem shaped_lN (a : List Nat) : SeqAt.shaped (.tuple (lN a)) = true := shaped_tI (castL a)
def keyI (is : List Int) : NestedKey := .tup (is.map .num)
theorem keysN_I (is : List Int) : keysN (is.map PyData.int) = some (is.map .num) := by
  induction is with
  | nil => rfl
  | cons i r ih => simp [keysN, keyN, ih]
theorem depthAll_I (is : List Int) : NestedKey.depthAll (is.map .num) = 0 := by
  induction is with
  | nil => rfl
  | cons i r ih => simp [NestedKey.depthAll, NestedKey.depth, ih]
theorem keyT_I (is : List Int) : keyT (tI is) = some (keyI is) := by
  show (keysN _).bind _ = _
  rw [keysN_I]
  simp [keyI, NestedKey.depth, depthAll_I]
theorem num_inj : ∀ {a b : List Int}, a.map NestedKey.num = b.map NestedKey.num → a = b
  | [], [], _ => rfl
  | [], _ :: _, h => by simp at h
  | _ :: _, [], h => by simp at h
  | x :: a, y :: b, h => by
    simp at h
    rw [h.1, num_inj h.2]
theorem keyI_inj {a b : List Int} : keyI a = keyI b ↔ a = b := by
  constructor
  · intro h
    exact num_inj (NestedKey.tup.inj h)
  · intro h; rw [h]
def keyP (c : Nat) (r : List Nat) : NestedKey := .tup [.num c, keyI (castL r)]
theorem keyT_P (c : Nat) (r : List Nat) : keyT (.tuple [.int c, .tuple (lN r)]) = some (keyP c r) := by
  have e : keysN (lN r) = some ((castL r).map .num) := keysN_I (castL r)
  simp [keyT, keysN, e, keyN, NestedKey.depth, NestedKey.depthAll, depthAll_I, keyP, keyI]
theorem keyP_inj {c d : Nat} {r q : List Nat} : keyP c r = keyP d q ↔ c = d ∧ r = q := by
  constructor
  · intro h
    have h1 := NestedKey.tup.inj h
    simp only [List.cons.injEq, and_true] at h1
    obtain ⟨h2, h3⟩ := h1
    have h4 := NestedKey.num.inj h2
    exact ⟨by omega, castL_inj.mp (keyI_inj.mp h3)⟩
  · rintro ⟨rfl, rfl⟩; rfl
section
variable {M : Mach} {xs : List Str} {fs : FS}
def ks0 (M : Mach) (xs : List Str) : List NestedKey := (List.range M.mv.length).map fun s => keyI (M.ans xs s)
def late (c : List Nat) (r : List Nat) : List Nat := r.map fun t => c.getD t 0
def ksN (M : Mach) (c : List Nat) : List NestedKey := (List.range M.mv.length).map fun s => keyP (c.getD s 0) (late c (M.nx s))
def cls (M : Mach) (xs : List Str) : Nat → List Nat
  | 0 => leastW (ks0 M xs)
  | m + 1 => leastW (ksN M (cls M xs m))
theorem cls_ok (h : M.Ok) : ∀ m, Cls M.mv.length (cls M xs m) (Near M xs m)
  | 0 => by
    have := lw_cls (ks0 M xs) (Near M xs 0) fun s t hs ht => by
      simp only [ks0, List.getElem_map, List.getElem_range]
      rw [keyI_inj]
      exact near_zero.symm
    simpa [ks0, cls] using this
  | m + 1 => by
    have ih := cls_ok h m
    have := lw_cls (ksN M (cls M xs m)) (Near M xs (m + 1)) fun s t hs ht => by
      have hs' : s < M.mv.length := by simpa [ksN] using hs
      have ht' : t < M.mv.length := by simpa [ksN] using ht
      simp only [ksN, List.getElem_map, List.getElem_range]
      rw [keyP_inj, near_succ, ih.same s t hs' ht']
      refine and_congr_right fun _ => ?_
      obtain ⟨_, a2, a3⟩ := h.mv_at hs'
      obtain ⟨_, b2, b3⟩ := h.mv_at ht'
      constructor
      · intro e l hl
        obtain ⟨j, hj, ej⟩ := List.getElem_of_mem hl
        obtain ⟨_, l2⟩ := lx_at h hj
        have el : M.ls.getD j "" = l := by simp [hj, ej]
        rw [el] at l2
        rw [l2, l2]
        have ha : j < (M.nx s).length := by omega
        have hb : j < (M.nx t).length := by omega
        have e1 : (late (cls M xs m) (M.nx s))[j]? = (late (cls M xs m) (M.nx t))[j]? := by rw [e]
        have ga : (M.nx s).getD j 0 = (M.nx s)[j] := by simp [ha]
        have gb : (M.nx t).getD j 0 = (M.nx t)[j] := by simp [hb]
        rw [ga, gb]
        refine (ih.same _ _ (a3 _ (List.getElem_mem ha)) (b3 _ (List.getElem_mem hb))).mp ?_
        simpa [late, ha, hb] using e1
      · intro hn
        apply List.ext_getElem
        · simp [late, a2, b2]
        · intro j h1 h2
          have hj : j < M.ls.length := by simp [late, a2] at h1; exact h1
          have ha : j < (M.nx s).length := by omega
          have hb : j < (M.nx t).length := by omega
          obtain ⟨l1, l2⟩ := lx_at h hj
          have := hn _ l1
          rw [l2, l2] at this
          have ga : (M.nx s).getD j 0 = (M.nx s)[j] := by simp [ha]
          have gb : (M.nx t).getD j 0 = (M.nx t)[j] := by simp [hb]
          rw [ga, gb] at this
          simpa [late] using (ih.same _ _ (a3 _ (List.getElem_mem ha)) (b3 _ (List.getElem_mem hb))).mpr this
    simpa [ksN, cls] using this
theorem cls_grow (h : M.Ok) {m : Nat} (hne : cls M xs m ≠ cls M xs (m + 1)) : fixes M.mv.length (cls M xs m) < fixes M.mv.length (cls M xs (m + 1)) :=
  cls_finer (cls_ok h m) (cls_ok h (m + 1)) (fun s t _ _ q => near_mono q (Nat.le_succ m)) hne
theorem cls_stable (h : M.Ok) {m : Nat} (he : cls M xs m = cls M xs (m + 1)) {s t : Nat} (hs : s < M.mv.length) (ht : t < M.mv.length) (hn : Near M xs m s t) : Alike M xs s t :=
  near_stable h (fun s t hs ht q => by
    have h1 := ((cls_ok (xs := xs) h m).same s t hs ht).mpr q
    rw [he] at h1
    exact ((cls_ok (xs := xs) h (m + 1)).same s t hs ht).mp h1) hs ht hn
theorem alike_near {m s t : Nat} (q : Alike M xs s t) : Near M xs m s t := fun w _ hm => q w hm
theorem cls_alike (h : M.Ok) {m : Nat} (he : cls M xs m = cls M xs (m + 1)) : Cls M.mv.length (cls M xs m) (Alike M xs) := by
  have c := cls_ok (xs := xs) h m
  exact ⟨c.len, c.le, fun s t hs ht => (c.same s t hs ht).trans ⟨cls_stable h he hs ht, alike_near⟩, c.fix⟩
/-- no word of less letters than there are states parts them: none does -/
theorem near_alike (h : M.Ok) {s t : Nat} (hs : s < M.mv.length) (ht : t < M.mv.length) (hn : Near M xs (M.mv.length - 1) s t) : Alike M xs s t := by
  have : ∃ i, i < M.mv.length ∧ cls M xs i = cls M xs (i + 1) := by
    apply Classical.byContradiction
    intro hc
    have key : ∀ m, m ≤ M.mv.length → m + 1 ≤ fixes M.mv.length (cls M xs m) := by
      intro m
      induction m with
      | zero =>
        intro _
        have h0 := (cls_ok (xs := xs) h 0).le 0 h.n1
        have : 0 ∈ (List.range M.mv.length).filter fun s => decide ((cls M xs 0).getD s 0 = s) := List.mem_filter.mpr ⟨List.mem_range.mpr h.n1, decide_eq_true (by omega)⟩
        exact List.length_pos_of_mem this
      | succ m ih =>
        intro hm
        have i := ih (by omega)
        have := cls_grow (xs := xs) h (m := m) fun e => hc ⟨m, by omega, e⟩
        omega
    have := key M.mv.length (Nat.le_refl _)
    have := fixes_le M.mv.length (cls M xs M.mv.length)
    omega
  obtain ⟨i, hi, e⟩ := this
  exact cls_stable h e hs ht (near_mono hn (by omega))
end
end Q6

set_option Elab.async false
set_option linter.all false
set_option maxRecDepth 100000
set_option maxHeartbeats 1000000
/-! Q7h: classes_by runs. -/
namespace Q6
open PySem PySem.Spec PyProof.Rows L2 PD
section
variable {M : Mach} {xs : List Str} {fs : FS}
abbrev StC (M : Mach) (xs : List Str) (f c : List Nat) (q4 : Option Pl) (fs : FS) : DS := ⟨[some (.val (mD M)), some (.val (tS xs)), some (.val (.tuple (lN f))), some (.val (.tuple (lN c))), q4, none, none, none], fs⟩
def rowsD (M : Mach) (c : List Nat) : List PyData := M.mv.map fun r => .tuple (lN (late c r))
theorem zipD_keys (M : Mach) (c : List Nat) (hc : c.length = M.mv.length) : (zipD (lN c) (rowsD M c)).map keyT = (ksN M c).map some := by
  have e : ∀ (a : List Nat) (b : List (List Nat)), zipD (lN a) (b.map fun r => PyData.tuple (lN r)) = (a.zip b).map fun p => .tuple [.int (p.1 : Int), .tuple (lN p.2)] := by
    intro a
    induction a with
    | nil => intro b; simp [zipD, lN_nil]
    | cons x a ih =>
      intro b
      cases b with
      | nil => simp [zipD, lN_cons]
      | cons y b => simp [zipD, lN_cons, ih]
  have e1 : rowsD M c = (M.mv.map (late c)).map fun r => PyData.tuple (lN r) := by simp [rowsD, Function.comp_def]
  rw [e1, e, List.map_map]
  apply List.ext_getElem
  · simp [ksN, hc]
  · intro i h1 h2
    have hi : i < M.mv.length := by simp [ksN] at h2; exact h2
    have hi' : i < c.length := by omega
    have hd : M.nx i = M.mv[i] := by simp [Mach.nx, hi]
    simp only [List.getElem_map, List.getElem_zip, Function.comp_apply, ksN, List.getElem_range]
    rw [keyT_P, hd]
    simp [hi']
theorem cls_lap (h : M.Ok) {f c : List Nat} (hf : f.length = M.mv.length) (q4 : Option Pl) (fs : FS) (hp : plainAt [q4] [0] = true) :
    ∃ q4', plainAt [q4'] [0] = true ∧ Wb0_classes_by (StC M xs f c q4 fs) = some (.nx (StC M xs (leastW (ksN M f)) f q4' fs)) := by
  have h9 := h.n9
  have hl9 := h.l9
  have hz := sizeLine_eq
  have inner : ∀ (r : List Nat) (a : Option Pl) (fs : FS), r ∈ M.mv → lcLoop [7] (.nm 7) bYes Ce1_classes_by (lN r) [] ⟨[some (.val (mD M)), some (.val (tS xs)), some (.val (.tuple (lN f))), some (.val (.tuple (lN f))), q4, none, a, none], fs⟩ = some (lN (late f r), ⟨[some (.val (mD M)), some (.val (tS xs)), some (.val (.tuple (lN f))), some (.val (.tuple (lN f))), q4, none, a, none], fs⟩) := fun r a fs hr => by
    obtain ⟨r1, r2⟩ := h.row r hr
    have e := lc_turn (vs := [7]) (t := .nm 7) (fe := Ce1_classes_by) (fun n : Nat => PyData.int n) (fun t => PyData.int (f.getD t 0 : Nat)) r ⟨[some (.val (mD M)), some (.val (tS xs)), some (.val (.tuple (lN f))), some (.val (.tuple (lN f))), q4, none, a, none], fs⟩ (by omega) fun t ht => by
      have h1 := r2 t ht
      have e1 : f[t]? = some (f.getD t 0) := by simp [hf, h1]
      generalize f.getD t 0 = v at *
      simp [turnE, Ce1_classes_by, lN_get, e1]
    rw [← lN_map] at e
    have e2 : r.map (fun t => PyData.int (f.getD t 0 : Nat)) = lN (late f r) := by rw [lN_map]; simp [late, Function.comp_def]
    rw [e2] at e
    exact e
  have outer := lc_turn (vs := [6]) (t := .nm 6) (fe := Ce2_classes_by) (fun r : List Nat => tN r) (fun r => .tuple (lN (late f r))) M.mv ⟨[some (.val (mD M)), some (.val (tS xs)), some (.val (.tuple (lN f))), some (.val (.tuple (lN f))), q4, none, none, none], fs⟩ (by omega) fun r hr => by
    have e1 := inner r (some (.val (.tuple (lN r)))) fs hr
    rw [tN_eq]
    simp [turnE, Ce2_classes_by, plainAt, e1]
  have er : M.mv.map (fun r => PyData.tuple (lN (late f r))) = rowsD M f := rfl
  rw [er] at outer
  have ew := d_least_with (zipD_keys M f hf) (by simp [ksN]; omega)
  rw [tN_eq] at ew
  have z0 : min (lN f).length (rowsD M f).length ≤ sizeLine := by rw [lN_len]; omega
  refine ⟨some (.val (.list (rowsD M f))), rfl, ?_⟩
  unfold StC
  generalize rowsD M f = R at *
  generalize leastW (ksN M f) = K at *
  simp [Wb0_classes_by, plainAt, outer, z0, seqOf, ew, hp]
end
end Q6

set_option Elab.async false
set_option linter.all false
set_option maxRecDepth 100000
set_option maxHeartbeats 1000000
/-! Q7i: classes. -/
namespace Q6
open PySem PySem.Spec PyProof.Rows L2 PD
section
variable {M : Mach} {xs : List Str} {fs : FS}
theorem cond_cls (f c : List Nat) (q4 : Option Pl) (fs : FS) : Wc0_classes_by (StC M xs f c q4 fs) = some (decide (f ≠ c), StC M xs f c q4 fs) := by
  have e := eqv_lN f c
  have s1 := shaped_lN f
  have s2 := shaped_lN c
  simp [Wc0_classes_by, e, s1, s2]
theorem while_cls (h : M.Ok) (fs : FS) : ∀ (n m : Nat) (q4 : Option Pl), plainAt [q4] [0] = true → M.mv.length < fixes M.mv.length (cls M xs m) + n →
    ∃ j q4', cls M xs j = cls M xs (j + 1) ∧ sWhile Wc0_classes_by Wb0_classes_by n (StC M xs (cls M xs (m + 1)) (cls M xs m) q4 fs) = some (.nx (StC M xs (cls M xs (j + 1)) (cls M xs j) q4' fs))
  | 0, m, q4, _, hm => by
    have := fixes_le M.mv.length (cls M xs m)
    omega
  | n + 1, m, q4, hp, hm => by
    by_cases e : cls M xs m = cls M xs (m + 1)
    · refine ⟨m, q4, e, ?_⟩
      have c1 := cond_cls (M := M) (xs := xs) (cls M xs (m + 1)) (cls M xs m) q4 fs
      rw [decide_eq_false (by rw [e]; simp)] at c1
      exact sWhile_false c1
    · have c1 := cond_cls (M := M) (xs := xs) (cls M xs (m + 1)) (cls M xs m) q4 fs
      have ne : cls M xs (m + 1) ≠ cls M xs m := fun z => e z.symm
      rw [decide_eq_true ne] at c1
      obtain ⟨q4', p4, e2⟩ := cls_lap (xs := xs) h (f := cls M xs (m + 1)) (c := cls M xs m) (cls_ok h (m + 1)).len q4 fs hp
      have g := cls_grow (xs := xs) h e
      obtain ⟨j, q, e3, e4⟩ := while_cls h fs n (m + 1) q4' p4 (by omega)
      exact ⟨j, q, e3, (sWhile_true c1 e2).trans e4⟩
theorem d_classes_by (h : M.Ok) (hx : Some M xs) : ∃ j, cls M xs j = cls M xs (j + 1) ∧ ∀ fs, D_classes_by [.val (mD M), .val (tS xs)] fs = some (.val (.tuple (lN (cls M xs j))), fs) := by
  have h9 := h.n9
  have h1 := h.n1
  have hz := sizeLine_eq
  have hro := rOk_small (n := M.mv.length) (by omega)
  have ex : ∃ j, cls M xs j = cls M xs (j + 1) := by
    obtain ⟨j, _, e, _⟩ := while_cls (xs := xs) h ⟨[], 0, 0, 0⟩ 64 0 none rfl (by omega)
    exact ⟨j, e⟩
  have go : ∀ fs, ∃ j, cls M xs j = cls M xs (j + 1) ∧ D_classes_by [.val (mD M), .val (tS xs)] fs = some (.val (.tuple (lN (cls M xs j))), fs) := fun fs => by
    have e1 := lc_turn (vs := [5]) (t := .nm 5) (fe := Ce0_classes_by) (fun n : Nat => PyData.int n) (fun s => tI (M.ans xs s)) (List.range M.mv.length) ⟨[some (.val (mD M)), some (.val (tS xs)), none, none, none, none, none, none], fs⟩ (by simp; omega) fun s hs => by
      have := fun fs => d_answers_to h hx (List.mem_range.mp hs) fs
      simp [turnE, Ce0_classes_by, this]
    rw [← lN_map, ← rangeD_lN] at e1
    have hk : ((List.range M.mv.length).map fun s => tI (M.ans xs s)).map keyT = (ks0 M xs).map some := by
      simp [ks0, Function.comp_def, keyT_I]
    have e2 := fun fs => d_least_with hk (by simp [ks0]; omega) fs
    rw [tN_eq] at e2
    have e0 : leastW (ks0 M xs) = cls M xs 0 := rfl
    rw [e0] at e2
    have l0 := (cls_ok (xs := xs) h 0).len
    have c1 := cond_cls (M := M) (xs := xs) (cls M xs 0) [] none fs
    have ne : cls M xs 0 ≠ [] := fun z => by rw [z] at l0; simp at l0; omega
    rw [decide_eq_true ne] at c1
    obtain ⟨q4, p4, c2⟩ := cls_lap (xs := xs) h (f := cls M xs 0) (c := []) l0 none fs rfl
    obtain ⟨j, q, e3, e4⟩ := while_cls (xs := xs) h fs 63 0 q4 p4 (by omega)
    refine ⟨j, e3, ?_⟩
    have e5 := (sWhile_true c1 c2).trans e4
    unfold StC at e5
    rw [lN_nil] at e5
    generalize ((List.range M.mv.length).map fun s => tI (M.ans xs s)) = R at *
    generalize lN (cls M xs 0) = C0 at *
    generalize lN (cls M xs j) = Cj at *
    generalize lN (cls M xs (j + 1)) = Cj1 at *
    simp [D_classes_by, B_classes_by, hro, plainAt, e1, e2, e5]
  obtain ⟨j, ej, e⟩ := go ⟨[], 0, 0, 0⟩
  refine ⟨j, ej, fun fs => ?_⟩
  obtain ⟨i, ei, e'⟩ := go fs
  have : cls M xs i = cls M xs j := by
    have a := cls_alike h ei
    have b := cls_alike h ej
    apply List.ext_getElem
    · rw [a.len, b.len]
    · intro s h1 h2
      have hs : s < M.mv.length := by rw [← a.len]; exact h1
      have one : ∀ {c d : List Nat}, Cls M.mv.length c (Alike M xs) → Cls M.mv.length d (Alike M xs) → c.getD s 0 ≤ d.getD s 0 := fun {c d} A B => by
        have h1 := B.le s hs
        have ht : d.getD s 0 < M.mv.length := by omega
        have h2 := (B.same s _ hs ht).mp (B.fix s hs).symm
        rw [(A.same s _ hs ht).mpr h2]
        exact A.le _ ht
      have := Nat.le_antisymm (one a b) (one b a)
      simpa [h1, h2] using this
  rw [this] at e'
  exact e'
/-- the least state alike to it -/
theorem Cls.least {n : Nat} {c : List Nat} {R : Nat → Nat → Prop} (h : Cls n c R) {s : Nat} (hs : s < n) : c.getD s 0 < n ∧ R s (c.getD s 0) ∧ ∀ t, t < n → R s t → c.getD s 0 ≤ t := by
  have h1 := h.le s hs
  have ht : c.getD s 0 < n := by omega
  refine ⟨ht, (h.same s _ hs ht).mp (h.fix s hs).symm, fun t ht' hr => ?_⟩
  rw [(h.same s t hs ht').mpr hr]
  exact h.le t ht'
def Cl (M : Mach) (xs : List Str) (C : List Nat) : Prop := Cls M.mv.length C (Alike M xs) ∧ ∀ fs, D_classes_by [.val (mD M), .val (tS xs)] fs = some (.val (.tuple (lN C)), fs)
theorem cl_ex (h : M.Ok) (hx : Some M xs) : ∃ C, Cl M xs C := by
  obtain ⟨j, e, e2⟩ := d_classes_by h hx
  exact ⟨_, cls_alike h e, e2⟩
theorem d_alike_classes (h : M.Ok) (hx : Some M xs) {C : List Nat} (hC : Cl M xs C) (fs : FS) : D_alike_classes [.val (mD M), .val (tS xs)] fs = some (.val (.tuple (lN C)), fs) := by
  have e := hC.2
  simp [D_alike_classes, B_alike_classes, d_need_looks h hx, e]
theorem d_are_alike (h : M.Ok) (hx : Some M xs) {C : List Nat} (hC : Cl M xs C) {s t : Nat} (hs : s < M.mv.length) (ht : t < M.mv.length) {b : Bool} (hb : b = true ↔ Alike M xs s t) (fs : FS) :
    D_are_alike [.val (mD M), .val (.int (s : Int)), .val (.int (t : Int)), .val (tS xs)] fs = some (.val (.bool b), fs) := by
  have e := hC.2
  have l := hC.1.len
  have e1 : (lN C)[s]? = some (.int (C.getD s 0 : Nat)) := by rw [lN_get]; simp [l, hs]
  have e2 : (lN C)[t]? = some (.int (C.getD t 0 : Nat)) := by rw [lN_get]; simp [l, ht]
  have same := hC.1.same s t hs ht
  generalize C.getD s 0 = u at *
  generalize C.getD t 0 = v at *
  have eb : decide ((u : Int) = (v : Int)) = b := by
    rw [Bool.eq_iff_iff, decide_eq_true_eq, hb, ← same]
    omega
  generalize lN C = F at *
  simp [D_are_alike, B_are_alike, d_need_two h hx hs ht, e, e1, e2, shaped_int, eqv_int]
  simpa using eb
end
end Q6

set_option Elab.async false
set_option linter.all false
set_option maxRecDepth 100000
set_option maxHeartbeats 2000000
/-! Q7j: least_parting. -/
namespace Q6
open PySem PySem.Spec PyProof.Rows L2 PD
theorem rowG_cons {α : Type} [DecidableEq α] (p : α × List Str) (r : RowsG α) (t : α) : rowG (p :: r) t = if p.1 = t then some p.2 else rowG r t := by
  by_cases h : p.1 = t <;> simp [rowG, List.find?_cons, h]
abbrev RowsP := RowsG (Nat × Nat)
def kP (p : Nat × Nat) : NestedKey := keyI [(p.1 : Int), (p.2 : Int)]
def tP (p : Nat × Nat) : PyData := .tuple [.int (p.1 : Int), .int (p.2 : Int)]
theorem kP_inj {p q : Nat × Nat} : kP p = kP q ↔ p = q := by
  unfold kP
  rw [keyI_inj]
  constructor
  · intro h
    simp at h
    exact Prod.ext (by omega) (by omega)
  · intro h; rw [h]
theorem keyT_P2 (a b : Nat) : keyT (.tuple [.int (a : Int), .int (b : Int)]) = some (kP (a, b)) := keyT_I [(a : Int), (b : Int)]
def encN (L : RowsP) : List (NestedKey × PyData) := L.map fun p => (kP p.1, tS p.2)
def ordL (L : RowsP) : List PyData := L.map fun p => tP p.1
theorem encN_len (L : RowsP) : (encN L).length = L.length := by simp [encN]
theorem ordL_len (L : RowsP) : (ordL L).length = L.length := by simp [ordL]
theorem lookN_enc (L : RowsP) (t : Nat × Nat) : lookN (encN L) (kP t) = (rowG L t).map tS := by
  induction L with
  | nil => rfl
  | cons p r ih =>
    show lookN ((kP p.1, tS p.2) :: encN r) (kP t) = _
    rw [lookN_cons, ih]
    rw [rowG_cons]
    by_cases e : p.1 = t
    · subst e; simp
    · have e1 : ¬ kP p.1 = kP t := fun z => e (kP_inj.mp z)
      simp [e1, e]
theorem putN_enc {L : RowsP} {t : Nat × Nat} {r : List Str} (h : rowG L t = none) : putN (encN L) (kP t) (tS r) = encN (L ++ [(t, r)]) := by
  have hn := rowG_none h
  have e : (encN L).any (fun kv => decide (kv.1 = kP t)) = false := by
    rw [List.any_eq_false]
    intro kv hkv
    obtain ⟨p, hp, rfl⟩ := List.mem_map.mp hkv
    have := hn p hp
    simpa [kP_inj] using this
  unfold putN
  rw [e]
  simp [encN]
theorem zip3_P : ∀ (xs : List Str) (ys zs : List Nat), zip3D (xs.map PyData.str) (lN ys) (lN zs) = (xs.zip (ys.zip zs)).map fun p => .tuple [.str p.1, .int (p.2.1 : Int), .int (p.2.2 : Int)]
  | [], _, _ => by simp [zip3D]
  | _ :: _, [], _ => by simp [zip3D, lN_nil]
  | _ :: _, _ :: _, [] => by simp [zip3D, lN_nil, lN_cons]
  | a :: r, b :: t, c :: u => by simp [zip3D, lN_cons, zip3_P r t u]
section
variable {M : Mach} {xs : List Str} {b : Nat × Nat} {fs : FS} {k : Nat}
def st2 (M : Mach) (p : Nat × Nat) (l : Str) : Nat × Nat := (M.st p.1 l, M.st p.2 l)
theorem fin2 (w : List Str) (p : Nat × Nat) : w.foldl (st2 M) p = (M.fin p.1 w, M.fin p.2 w) := by
  induction w generalizing p with
  | nil => rfl
  | cons l r ih => exact ih (st2 M p l)
structure JP (M : Mach) (b : Nat × Nat) (L : RowsP) : Prop where
  hd : L[0]? = some (b, [])
  nd : (keysG L).Nodup
  row : ∀ (i : Nat) (p : (Nat × Nat) × List Str), L[i]? = some p → (p.1.1 < M.mv.length ∧ p.1.2 < M.mv.length) ∧ (∀ l ∈ p.2, l ∈ M.ls) ∧ p.2.foldl (st2 M) b = p.1 ∧ p.2.length ≤ i
theorem JP.len {L : RowsP} (h : JP M b L) : L.length ≤ M.mv.length * M.mv.length := by
  have key : ∀ p ∈ keysG L, p.1 < M.mv.length ∧ p.2 < M.mv.length := fun p hp => by
    obtain ⟨q, hq, rfl⟩ := List.mem_map.mp hp
    obtain ⟨i, hi, e⟩ := List.getElem_of_mem hq
    exact (h.row i q (by rw [List.getElem?_eq_getElem hi, e])).1
  have := nodup_len (M.mv.length * M.mv.length) ((keysG L).map fun p => M.mv.length * p.1 + p.2) (by
    unfold List.Nodup
    rw [List.pairwise_map]
    refine List.Pairwise.imp_of_mem (fun {p q} hp hq hne e => hne ?_) h.nd
    obtain ⟨a1, a2⟩ := key p hp
    obtain ⟨b1, b2⟩ := key q hq
    have hn : 0 < M.mv.length := by omega
    have e1 := congrArg (· / M.mv.length) e
    have e2 := congrArg (· % M.mv.length) e
    simp only [Nat.mul_add_div hn, Nat.mul_add_mod, Nat.div_eq_of_lt a2, Nat.div_eq_of_lt b2, Nat.mod_eq_of_lt a2, Nat.mod_eq_of_lt b2] at e1 e2
    exact Prod.ext (by omega) e2) fun x hx => by
    obtain ⟨p, hp, rfl⟩ := List.mem_map.mp hx
    obtain ⟨a, c⟩ := key p hp
    have : M.mv.length * (p.1 + 1) ≤ M.mv.length * M.mv.length := Nat.mul_le_mul_left _ a
    rw [Nat.mul_add] at this
    omega
  simpa [keysG] using this
theorem JP.add {L : RowsP} (h : JP M b L) {t : Nat × Nat} {r : List Str} (h0 : rowG L t = none) (h1 : t.1 < M.mv.length ∧ t.2 < M.mv.length) (h2 : ∀ l ∈ r, l ∈ M.ls) (h3 : r.foldl (st2 M) b = t) (h4 : r.length ≤ L.length) : JP M b (L ++ [(t, r)]) := by
  refine ⟨?_, ?_, fun i p hp => ?_⟩
  · have : 0 < L.length := (List.getElem?_eq_some_iff.mp h.hd).1
    rw [List.getElem?_append_left this]
    exact h.hd
  · show ((L ++ [(t, r)]).map (·.1)).Nodup
    rw [List.map_append, List.nodup_append]
    refine ⟨h.nd, by simp, fun x hx y hy => ?_⟩
    have hy' : y = t := by simpa using hy
    rw [hy']
    obtain ⟨p, hp, rfl⟩ := List.mem_map.mp hx
    exact rowG_none h0 p hp
  · by_cases hi : i < L.length
    · rw [List.getElem?_append_left hi] at hp
      exact h.row i p hp
    · rw [List.getElem?_append_right (by omega)] at hp
      have hi' : i - L.length = 0 := by
        have := (List.getElem?_eq_some_iff.mp hp).1
        simp at this
        omega
      rw [hi'] at hp
      cases hp
      exact ⟨h1, h2, h3, by show r.length ≤ i; omega⟩
theorem rowG_mem {L : RowsP} (nd : (keysG L).Nodup) {p : (Nat × Nat) × List Str} (hp : p ∈ L) : rowG L p.1 = some p.2 := by
  induction L with
  | nil => cases hp
  | cons q r ih =>
    have nd' : q.1 ∉ keysG r ∧ (keysG r).Nodup := by
      have := List.nodup_cons.mp (show (q.1 :: keysG r).Nodup from nd)
      exact this
    rw [rowG_cons]
    rcases List.mem_cons.mp hp with rfl | hp
    · simp
    · have hne : ¬ q.1 = p.1 := fun e => nd'.1 (e ▸ List.mem_map.mpr ⟨p, hp, rfl⟩)
      rw [if_neg hne]
      exact ih nd'.2 hp
abbrev StP (M : Mach) (xs : List Str) (b : Nat × Nat) (L : RowsP) (k : Nat) (q7 q8 q9 q10 q11 : Option Pl) (fs : FS) : DS :=
  ⟨[some (.val (mD M)), some (.val (.int b.1)), some (.val (.int b.2)), some (.val (tS xs)), some (.ownN (encN L)), some (.ownL (ordL L)), some (.val (.int k)), q7, q8, q9, q10, q11], fs⟩
theorem inner_par (h : M.Ok) {p0 : Nat × Nat} {row : List Str} (hn6 : M.mv.length ≤ 6) : ∀ (ps : List (Str × (Nat × Nat))) (L : RowsP), JP M b L → rowG L p0 = some row → row.length + 1 ≤ L.length → (∀ l ∈ row, l ∈ M.ls) → row.foldl (st2 M) b = p0 →
    (∀ p ∈ ps, p.1 ∈ M.ls ∧ (p.2.1 < M.mv.length ∧ p.2.2 < M.mv.length) ∧ st2 M p0 p.1 = p.2) →
    (∀ fs q9 q10 q11, ∃ q9' q10' q11', sFor (.tp [.nm 9, .nm 10, .nm 11]) L0_least_parting (ps.map fun p => .tuple [.str p.1, .int (p.2.1 : Int), .int (p.2.2 : Int)]) (StP M xs b L k (some (.val (.int p0.1))) (some (.val (.int p0.2))) q9 q10 q11 fs) = some (.nx (StP M xs b (ps.foldl (addG row) L) k (some (.val (.int p0.1))) (some (.val (.int p0.2))) q9' q10' q11' fs))) ∧
    JP M b (ps.foldl (addG row) L) ∧ (∃ T, ps.foldl (addG row) L = L ++ T)
  | [], L, J, _, _, _, _, _ => ⟨fun fs q9 q10 q11 => ⟨q9, q10, q11, rfl⟩, J, ⟨[], by simp⟩⟩
  | p :: ps, L, J, hr, hl, hm, hf, hp => by
    obtain ⟨p1, p2, p3⟩ := hp p List.mem_cons_self
    have hn := J.len
    have hn2 : M.mv.length * M.mv.length ≤ 6 * 6 := Nat.mul_le_mul hn6 hn6
    have hz := sizeLine_eq
    have zs : 2 ≤ sizeLine := by omega
    have key : (∀ fs q9 q10 q11, ∃ q9' q10' q11', ((Tg.tp [.nm 9, .nm 10, .nm 11]).put (.val (.tuple [.str p.1, .int (p.2.1 : Int), .int (p.2.2 : Int)])) (StP M xs b L k (some (.val (.int p0.1))) (some (.val (.int p0.2))) q9 q10 q11 fs)).bind L0_least_parting = some (.nx (StP M xs b (addG row L p) k (some (.val (.int p0.1))) (some (.val (.int p0.2))) q9' q10' q11' fs))) ∧
        JP M b (addG row L p) ∧ (∃ T, addG row L p = L ++ T) := by
      have kt := keyT_P2 p.2.1 p.2.2
      have k0 := keyT_P2 p0.1 p0.2
      have lk := lookN_enc L p.2
      have lk0 := lookN_enc L p0
      rw [hr] at lk0
      cases e : rowG L p.2 with
      | some r =>
        have ea : addG row L p = L := by simp [addG, e]
        rw [ea]
        rw [e] at lk
        refine ⟨fun fs q9 q10 q11 => ⟨some (.val (.str p.1)), some (.val (.int p.2.1)), some (.val (.int p.2.2)), ?_⟩, J, ⟨[], by simp⟩⟩
        unfold StP
        generalize encN L = E at *
        generalize ordL L = O at *
        simp [L0_least_parting, gNIn, kt, lk, zs]
      | none =>
        have ea : addG row L p = L ++ [(p.2, row ++ [p.1])] := by simp [addG, e]
        rw [ea]
        rw [e] at lk
        refine ⟨fun fs q9 q10 q11 => ⟨some (.val (.str p.1)), some (.val (.int p.2.1)), some (.val (.int p.2.2)), ?_⟩, J.add e p2 (fun l hl' => ?_) ?_ ?_, ⟨_, rfl⟩⟩
        · have e2 := putN_enc (r := row ++ [p.1]) e
          have e3 : ordL (L ++ [(p.2, row ++ [p.1])]) = ordL L ++ [tP p.2] := by simp [ordL]
          have z1 : row.length + 1 ≤ sizeLine := by omega
          have z2 : (encN L).length < sizeLine := by rw [encN_len]; omega
          have z3 : 1 ≤ sizeLine := by omega
          have z4 : (ordL L).length < sizeLine := by rw [ordL_len]; omega
          have hlen : (tS (row ++ [p.1])) = .tuple (row.map .str ++ [.str p.1]) := by simp
          rw [hlen] at e2
          unfold StP
          rw [e3]
          generalize encN L = E at *
          generalize encN (L ++ [(p.2, row ++ [p.1])]) = E1 at *
          generalize ordL L = O at *
          simp [L0_least_parting, gNIn, gND, kt, k0, lk, lk0, z1, z2, z3, z4, e2, tP, zs]
        · rcases List.mem_append.mp hl' with h1 | h1
          · exact hm l h1
          · rw [List.mem_singleton.mp h1]; exact p1
        · rw [List.foldl_append, hf]; exact p3
        · simp; omega
    obtain ⟨k1, k2, ⟨T, k3⟩⟩ := key
    obtain ⟨i1, i2, ⟨T', i3⟩⟩ := inner_par h hn6 ps (addG row L p) k2 (by rw [k3]; exact rowG_app hr T) (by rw [k3, List.length_append]; omega) hm hf fun q hq => hp q (List.mem_cons_of_mem _ hq)
    refine ⟨fun fs q9 q10 q11 => ?_, i2, ⟨T ++ T', by rw [List.foldl_cons, i3, k3, List.append_assoc]⟩⟩
    obtain ⟨a1, a2, a3, e1⟩ := k1 fs q9 q10 q11
    obtain ⟨b1, b2, b3, e2⟩ := i1 fs a1 a2 a3
    refine ⟨b1, b2, b3, ?_⟩
    rw [List.map_cons, sFor_cons]
    cases ep : (Tg.tp [.nm 9, .nm 10, .nm 11]).put (.val (.tuple [.str p.1, .int (p.2.1 : Int), .int (p.2.2 : Int)])) (StP M xs b L k (some (.val (.int p0.1))) (some (.val (.int p0.2))) q9 q10 q11 fs) with
    | none => rw [ep] at e1; cases e1
    | some s1 =>
      rw [ep, Option.bind_some] at e1
      rw [Option.bind_some, e1, Option.bind_some]
      exact e2
end
end Q6

set_option Elab.async false
set_option linter.all false
set_option maxRecDepth 100000
set_option maxHeartbeats 2000000
/-! Q7k: least_parting: the least word that parts. -/
namespace Q6
open PySem PySem.Spec PyProof.Rows L2 PD
section
variable {M : Mach} {xs : List Str} {b : Nat × Nat} {fs : FS} {k : Nat}
def Parts (M : Mach) (xs : List Str) (b : Nat × Nat) (w : List Str) : Prop := (∀ l ∈ w, l ∈ M.ls) ∧ M.ans xs (M.fin b.1 w) ≠ M.ans xs (M.fin b.2 w)
def LeastP (M : Mach) (xs : List Str) (b : Nat × Nat) : Option (List Str) → Prop
  | some r => Parts M xs b r ∧ (∀ w, Parts M xs b w → sl r w) ∧ r.length ≤ 64
  | none => ∀ w, ¬ Parts M xs b w
theorem st2_zip (h : M.Ok) {p : Nat × Nat} (h1 : p.1 < M.mv.length) (h2 : p.2 < M.mv.length) : (∀ q ∈ M.ls.zip ((M.nx p.1).zip (M.nx p.2)), q.1 ∈ M.ls ∧ (q.2.1 < M.mv.length ∧ q.2.2 < M.mv.length) ∧ st2 M p q.1 = q.2) ∧ (M.ls.zip ((M.nx p.1).zip (M.nx p.2))).map (·.1) = M.ls := by
  obtain ⟨_, a2, a3⟩ := h.mv_at h1
  obtain ⟨_, b2, b3⟩ := h.mv_at h2
  refine ⟨fun q hq => ?_, List.map_fst_zip (by simp; omega)⟩
  obtain ⟨j, hj, e⟩ := List.getElem_of_mem hq
  have hj1 : j < M.ls.length := by simp at hj; omega
  have ha : j < (M.nx p.1).length := by omega
  have hb : j < (M.nx p.2).length := by omega
  rw [List.getElem_zip, List.getElem_zip] at e
  subst e
  obtain ⟨l1, l2⟩ := lx_at h hj1
  have el : M.ls.getD j "" = M.ls[j] := by simp [hj1]
  rw [el] at l1 l2
  refine ⟨l1, ⟨a3 _ (List.getElem_mem ha), b3 _ (List.getElem_mem hb)⟩, ?_⟩
  unfold st2
  rw [l2, l2]
  simp [ha, hb]
theorem while_par (h : M.Ok) (hx : Some M xs) (hn6 : M.mv.length ≤ 6) : ∀ (m k : Nat) (L : RowsP), JP M b L → SL (st2 M) M.ls L k → (∀ (i : Nat) (p : (Nat × Nat) × List Str), i < k → L[i]? = some p → M.ans xs p.1.1 = M.ans xs p.1.2) → k ≤ L.length → M.mv.length * M.mv.length + 1 ≤ k + m →
    ∃ o, LeastP M xs b o ∧ ∀ fs q7 q8 q9 q10 q11, ∃ s', s'.fs = fs ∧ sWhile Wc0_least_parting Wb0_least_parting m (StP M xs b L k q7 q8 q9 q10 q11 fs) = some (match o with | some r => .rt (.val (tS r)) s' | none => .nx s')
  | 0, k, L, J, _, _, hk, hm => by
    have := J.len
    omega
  | m + 1, k, L, J, S, hc, hk, hm => by
    have hn := J.len
    have hn2 : M.mv.length * M.mv.length ≤ 6 * 6 := Nat.mul_le_mul hn6 hn6
    have hz := sizeLine_eq
    have zs : 2 ≤ sizeLine := by omega
    have zs3 : 3 ≤ sizeLine := by omega
    have hb0 : rowG L b = some [] := by
      have := rowG_mem J.nd (List.mem_of_getElem? J.hd)
      exact this
    by_cases hlt : k < L.length
    · have hp : L[k]? = some L[k] := List.getElem?_eq_getElem hlt
      obtain ⟨⟨r1, r1'⟩, r2, r3, r4⟩ := J.row k _ hp
      generalize hq : L[k] = p at hp r1 r1' r2 r3 r4
      obtain ⟨⟨s, t⟩, row⟩ := p
      simp only at r1 r1' r2 r3 r4
      have hro : rowG L (s, t) = some row := rowG_mem J.nd (List.mem_of_getElem? hp)
      have hfin := fin2 (M := M) row b
      rw [r3] at hfin
      have hf1 : M.fin b.1 row = s := (congrArg Prod.fst hfin).symm
      have hf2 : M.fin b.2 row = t := (congrArg Prod.snd hfin).symm
      obtain ⟨g1, g2, g3⟩ := h.mv_at r1
      obtain ⟨g1', g2', g3'⟩ := h.mv_at r1'
      have og : (ordL L)[k]? = some (.tuple [.int (s : Int), .int (t : Int)]) := by simp [ordL, hp, tP]
      have c1 : ∀ q7 q8 q9 q10 q11 fs, Wc0_least_parting (StP M xs b L k q7 q8 q9 q10 q11 fs) = some (true, StP M xs b L k q7 q8 q9 q10 q11 fs) := fun q7 q8 q9 q10 q11 fs => by
        have hlt' : (k : Int) < (L.length : Int) := by omega
        simp [Wc0_least_parting, ordL_len, hlt']
      have da := fun fs => d_answers_to h hx r1 fs
      have db := fun fs => d_answers_to h hx r1' fs
      have ev := eqv_tI (M.ans xs s) (M.ans xs t)
      have sh1 := shaped_tI (M.ans xs s)
      have sh2 := shaped_tI (M.ans xs t)
      have kt := keyT_P2 s t
      have lk := lookN_enc L (s, t)
      rw [hro] at lk
      by_cases ea : M.ans xs s = M.ans xs t
      · obtain ⟨z1, z2⟩ := st2_zip (p := (s, t)) h r1 r1'
        obtain ⟨i1, i2, ⟨T, i3⟩⟩ := inner_par (xs := xs) (k := k) h (p0 := (s, t)) (row := row) (b := b) hn6 (M.ls.zip ((M.nx s).zip (M.nx t))) L J hro (by omega) r2 r3 z1
        have S1 : SL (st2 M) M.ls ((M.ls.zip ((M.nx s).zip (M.nx t))).foldl (addG row) L) (k + 1) := S.step h.ln.asc hp z2 (fun q hq => (z1 q hq).2.2) fun i q hi hq e => by
          obtain ⟨_, _, q3, _⟩ := J.row i q hq
          rw [← e, r3] at q3
          have e1 := (List.getElem?_eq_some_iff.mp hp).2
          obtain ⟨hiL, e2⟩ := List.getElem?_eq_some_iff.mp hq
          have := List.pairwise_iff_getElem.mp J.nd k i (by simpa [keysG] using hlt) (by simpa [keysG] using hiL) hi
          simp only [keysG, List.getElem_map, e1, e2] at this
          exact this q3
        generalize hL1 : (M.ls.zip ((M.nx s).zip (M.nx t))).foldl (addG row) L = L1 at i1 i2 i3 S1
        obtain ⟨o, w1, w2⟩ := while_par h hx hn6 m (k + 1) L1 i2 S1 (fun i p hi hp' => by
          have hiL : i < L.length := by omega
          have hp2 : L[i]? = some p := by rw [i3, List.getElem?_append_left hiL] at hp'; exact hp'
          by_cases hik : i < k
          · exact hc i p hik hp2
          · have : i = k := by omega
            subst this
            rw [hp] at hp2
            cases hp2
            exact ea) (by rw [i3, List.length_append]; omega) (by omega)
        refine ⟨o, w1, fun fs q7 q8 q9 q10 q11 => ?_⟩
        obtain ⟨a1, a2, a3, e1⟩ := i1 fs q9 q10 q11
        obtain ⟨s', es, e2⟩ := w2 fs (some (.val (.int s))) (some (.val (.int t))) a1 a2 a3
        refine ⟨s', es, ?_⟩
        rw [← e2]
        rw [← zip3_P] at e1
        have c2 : Wb0_least_parting (StP M xs b L k q7 q8 q9 q10 q11 fs) = some (.nx (StP M xs b L1 (k + 1) (some (.val (.int s))) (some (.val (.int t))) a1 a2 a3 fs)) := by
          rw [decide_eq_true ea] at ev
          unfold StP at e1 ⊢
          generalize encN L = E at *
          generalize ordL L = O at *
          generalize encN L1 = E1 at *
          generalize ordL L1 = O1 at *
          simp [Wb0_least_parting, og, da, db, ev, sh1, sh2, g1, g1', tN_eq, e1]
        exact sWhile_true (c1 q7 q8 q9 q10 q11 fs) c2
      · refine ⟨some row, ⟨⟨r2, by rw [hf1, hf2]; exact ea⟩, fun w hw => ?_, by omega⟩, fun fs q7 q8 q9 q10 q11 => ?_⟩
        · -- the first place that parts is the least
          have key : ∀ (n : Nat) (w : List Str), w.length = n → (∀ l ∈ w, l ∈ M.ls) → (∃ r, rowG L (w.foldl (st2 M) b) = some r ∧ sl r w) ∨ sl row w := by
            intro n
            induction n with
            | zero =>
              intro w hw _
              rw [List.eq_nil_of_length_eq_zero hw]
              exact .inl ⟨[], hb0, sl_refl _⟩
            | succ n ih =>
              intro w hw hm
              have hne : w ≠ [] := by intro e; simp [e] at hw
              obtain ⟨q, l, rfl⟩ : ∃ q l, w = q ++ [l] := ⟨w.dropLast, w.getLast hne, (List.dropLast_concat_getLast hne).symm⟩
              rcases ih q (by simpa using hw) fun x hx => hm x (List.mem_append_left _ hx) with ⟨r, e1, e2⟩ | e1
              · obtain ⟨i, hi, ei⟩ := List.getElem_of_mem (rowG_some e1)
                by_cases hik : i < k
                · obtain ⟨r', f1, f2⟩ := S.s2 i _ hik (by rw [List.getElem?_eq_getElem hi, ei]) l (hm l (by simp))
                  exact .inl ⟨r', by rw [List.foldl_append]; exact f1, sl_trans f2 (sl_snoc l e2)⟩
                · have hr : sl row r := by
                    by_cases hik' : i = k
                    · subst hik'
                      rw [hq] at ei
                      rw [(Prod.mk.inj ei).2]
                      exact sl_refl _
                    · have := List.pairwise_iff_getElem.mp S.s1 k i hlt hi (by omega)
                      rw [hq, ei] at this
                      exact this
                  exact .inr (sl_trans hr (sl_trans e2 (sl_self q l)))
              · exact .inr (sl_trans e1 (sl_self q l))
          rcases key w.length w rfl hw.1 with ⟨r, e1, e2⟩ | e1
          · obtain ⟨i, hi, ei⟩ := List.getElem_of_mem (rowG_some e1)
            by_cases hik : i < k
            · have := hc i _ hik (by rw [List.getElem?_eq_getElem hi, ei])
              simp only [fin2] at this
              exact absurd this hw.2
            · by_cases hik' : i = k
              · subst hik'
                rw [hq] at ei
                rw [(Prod.mk.inj ei).2]
                exact e2
              · have := List.pairwise_iff_getElem.mp S.s1 k i hlt hi (by omega)
                rw [hq, ei] at this
                exact sl_trans this e2
          · exact e1
        · rw [decide_eq_false ea] at ev
          have c2 : Wb0_least_parting (StP M xs b L k q7 q8 q9 q10 q11 fs) = some (.rt (.val (tS row)) (StP M xs b L k (some (.val (.int s))) (some (.val (.int t))) q9 q10 q11 fs)) := by
            unfold StP
            generalize encN L = E at *
            generalize ordL L = O at *
            simp [Wb0_least_parting, og, da, db, ev, sh1, sh2, gND, kt, lk, zs]
          exact ⟨_, rfl, sWhile_rt (c1 q7 q8 q9 q10 q11 fs) c2⟩
    · have hk' : k = L.length := by omega
      subst hk'
      refine ⟨none, fun w hw => ?_, fun fs q7 q8 q9 q10 q11 => ⟨StP M xs b L L.length q7 q8 q9 q10 q11 fs, rfl, ?_⟩⟩
      · obtain ⟨r, e1, _⟩ := S.least hb0 w.length w rfl hw.1
        obtain ⟨i, hi, ei⟩ := List.getElem_of_mem (rowG_some e1)
        have := hc i _ hi (by rw [List.getElem?_eq_getElem hi, ei])
        simp only [fin2] at this
        exact hw.2 this
      · have c1 : Wc0_least_parting (StP M xs b L L.length q7 q8 q9 q10 q11 fs) = some (false, StP M xs b L L.length q7 q8 q9 q10 q11 fs) := by
          simp [Wc0_least_parting, ordL_len]
        exact sWhile_false c1
theorem d_parting (h : M.Ok) (hx : Some M xs) (hn6 : M.mv.length ≤ 6) {s t : Nat} (hs : s < M.mv.length) (ht : t < M.mv.length) : ∃ o, LeastP M xs (s, t) o ∧ ∀ fs, D_parting_row [.val (mD M), .val (.int (s : Int)), .val (.int (t : Int)), .val (tS xs)] fs = some (.val (lvD o), fs) := by
  have hn2 : M.mv.length * M.mv.length ≤ 6 * 6 := Nat.mul_le_mul hn6 hn6
  have hz := sizeLine_eq
  have zs : 2 ≤ sizeLine := by omega
  have zs1 : 1 ≤ sizeLine := by omega
  have J0 : JP M (s, t) [((s, t), [])] := ⟨rfl, by simp [keysG], fun i p hp => by
    have hi : i = 0 := by
      have := (List.getElem?_eq_some_iff.mp hp).1
      simp at this
      exact this
    subst hi
    cases hp
    exact ⟨⟨hs, ht⟩, (fun l hl => by cases hl), rfl, Nat.le_refl _⟩⟩
  obtain ⟨o, w1, w2⟩ := while_par (b := (s, t)) h hx hn6 64 0 [((s, t), [])] J0 (SL.one _ _ _) (fun i p hi => absurd hi (Nat.not_lt_zero _)) (by simp) (by omega)
  refine ⟨o, w1, fun fs => ?_⟩
  obtain ⟨s', es, e⟩ := w2 fs none none none none none
  have kt := keyT_P2 s t
  have e1 : encN [((s, t), [])] = [(kP (s, t), .tuple [])] := rfl
  have e2 : ordL [((s, t), [])] = [.tuple [.int (s : Int), .int (t : Int)]] := rfl
  unfold StP at e
  rw [e1, e2] at e
  have e0 : ((0 : Nat) : Int) = 0 := rfl
  rw [e0] at e
  have dn := d_need_two h hx hs ht
  cases o with
  | some r =>
    simp only at e
    simp [D_parting_row, B_parting_row, dn, D_least_parting, B_least_parting, kt, zs, zs1, e, es, lvD]
  | none =>
    simp only at e
    simp [D_parting_row, B_parting_row, dn, D_least_parting, B_least_parting, kt, zs, zs1, e, es, lvD]
end
end Q6

set_option Elab.async false
set_option linter.all false
set_option maxRecDepth 100000
set_option maxHeartbeats 2000000
/-! Q7l: the law's levels of pairs. -/
namespace Q6
open PySem PySem.Spec PyProof.Rows L2 PD
def Pt1 : Sf := (sIf (fB (fUn (fFz (fBin (f2n 6 (fTup (aCons (fVar 7) (aCons (fVar 8) aNil)))) gND)) (gIsN false))) (sSetN 6 (fBin (f2n 5 (fTup (aCons (fVar 7) (aCons (fVar 8) aNil)))) gND) (fTup (aCons (fVar 7) (aCons (fVar 8) aNil)))) sNil)
def Pt2 : Sf := (sAsg (fLc [13] (wRange1 (fUn (fFz (fBin (f2n 0 (fC (.val (.int 0)))) gSub)) gLen)) (.nm 13) Ct1__law_parted Ce3__law_parted) (.nm 12))
def Pt3 : Sf := (sSetN 11 (fC (.val .none)) (fTup (aCons (fVar 7) (aCons (fVar 8) aNil))))
def Pt4 : Sf := (sIf (fB (fBin (f2n 12 (fLst aNil)) (gEq true))) (sSeq (sAsg (fBin (f2n 12 (fC (.val (.int 0)))) gSub) (.nm 13)) (sSetN 11 (fBin (f2 (fTup (aCons (fBin (f2e (fBin (f2n 0 (fC (.val (.int 0)))) gSub) 13) gSub) aNil)) (fBin (f2n 5 (fTup (aCons (fBin (f2e (fBin (f2e (fBin (f2n 0 (fC (.val (.int 2)))) gSub) 7) gSub) 13) gSub) (aCons (fBin (f2e (fBin (f2e (fBin (f2n 0 (fC (.val (.int 2)))) gSub) 8) gSub) 13) gSub) aNil)))) gND)) gAdd) (fTup (aCons (fVar 7) (aCons (fVar 8) aNil))))) sNil)
theorem Pt_eq : L2__law_parted = sSeq Pt1 (sSeq Pt2 (sSeq Pt3 Pt4)) := rfl
section
variable {M : Mach} {xs : List Str} {fs : FS}
abbrev PF := Nat × Nat → Option (List Str)
abbrev NK := List (NestedKey × PyData)
def stk (M : Mach) (p : Nat × Nat) (k : Nat) : Nat × Nat := ((M.nx p.1).getD k 0, (M.nx p.2).getD k 0)
def waysL (M : Mach) (f : PF) (p : Nat × Nat) : List Nat := (List.range M.ls.length).filter fun k => (f (stk M p k)).isSome
def nxtP (M : Mach) (f : PF) (p : Nat × Nat) : Option (List Str) := match waysL M f p with
  | [] => none
  | k :: _ => some (M.ls.getD k "" :: (f (stk M p k)).getD [])
def Has (n : Nat) (kvs : NK) (f : PF) : Prop := ∀ s t, s < n → t < n → lookN kvs (kP (s, t)) = some (lvD (f (s, t)))
abbrev StL (M : Mach) (xs : List Str) (q3 : Option Pl) (q4 : Option Pl) (sl5 : Pl) (kv6 : NK) (s t : Nat) (q9 q10 : Option Pl) (kv11 : NK) (q12 q13 q14 : Option Pl) (fs : FS) : DS :=
  ⟨[some (.val (mD M)), some (.val (tS xs)), some (.val (.int M.mv.length)), q3, q4, some sl5, some (.ownN kv6), some (.val (.int s)), some (.val (.int t)), q9, q10, some (.ownN kv11), q12, q13, q14], fs⟩
variable {kv5 kv6 kv11 : NK} {sl5 : Pl} {f : PF} {s t : Nat} {q3 q4 q9 q10 q12 q13 q14 : Option Pl}
theorem pt1 (h50 : fz sl5 = .dicN kv5) (h5 : Has M.mv.length kv5 f) (hs : s < M.mv.length) (ht : t < M.mv.length) {u : Option (List Str)} (h6 : lookN kv6 (kP (s, t)) = some (lvD u)) (l6 : kv6.length ≤ 10000) (fs : FS) :
    ∃ kv6', Pt1 (StL M xs q3 q4 sl5 kv6 s t q9 q10 kv11 q12 q13 q14 fs) = some (.nx (StL M xs q3 q4 sl5 kv6' s t q9 q10 kv11 q12 q13 q14 fs)) ∧ kv6'.length ≤ kv6.length + 1 ∧ ∀ q, lookN kv6' q = if kP (s, t) = q then some (lvD (if u = none then f (s, t) else u)) else lookN kv6 q := by
  have hz := sizeLine_eq
  have zs : 2 ≤ sizeLine := by omega
  have kt := keyT_P2 s t
  have g5 := h5 s t hs ht
  have z6 : kv6.length < sizeLine := by omega
  cases u with
  | none =>
    have h6 : lookN kv6 (kP (s, t)) = some .none := h6
    refine ⟨putN kv6 (kP (s, t)) (lvD (f (s, t))), ?_, putN_len _ _ _, fun q => by rw [lookN_put]; simp⟩
    simp [Pt1, h50, gND, kt, h6, g5, zs, z6, isNone]
  | some w =>
    have h6' : lookN kv6 (kP (s, t)) = some (tS w) := h6
    refine ⟨kv6, ?_, Nat.le_succ _, fun q => ?_⟩
    · simp [Pt1, h50, gND, kt, h6', zs, isNone_tS]
    · by_cases e : kP (s, t) = q
      · subst e; simp [h6]
      · simp [e]
theorem pt2 (h : M.Ok) (h50 : fz sl5 = .dicN kv5) (h5 : Has M.mv.length kv5 f) (hs : s < M.mv.length) (ht : t < M.mv.length) (h13 : ∀ a, q13 = some a → a.own = false) (fs : FS) :
    Pt2 (StL M xs q3 q4 sl5 kv6 s t q9 q10 kv11 q12 q13 q14 fs) = some (.nx (StL M xs q3 q4 sl5 kv6 s t q9 q10 kv11 (some (.ownL (lN (waysL M f (s, t))))) q13 q14 fs)) := by
  have hz := sizeLine_eq
  have zs : 2 ≤ sizeLine := by omega
  have l9 := h.l9
  have hro := rOk_small (n := M.ls.length) (by omega)
  obtain ⟨a1, a2, a3⟩ := h.mv_at hs
  obtain ⟨b1, b2, b3⟩ := h.mv_at ht
  have e := lc_turnT (vs := [13]) (t := .nm 13) (ft := Ct1__law_parted) (fe := Ce3__law_parted) (fun k : Nat => PyData.int k) (fun k => (f (stk M (s, t) k)).isSome) (fun k : Nat => PyData.int k) (List.range M.ls.length) (StL M xs q3 q4 sl5 kv6 s t q9 q10 kv11 q12 none q14 fs) (by simp; omega) fun k hk => by
    have hk' := List.mem_range.mp hk
    have ha : k < (M.nx s).length := by omega
    have hb : k < (M.nx t).length := by omega
    have e1 : (M.nx s)[k]? = some ((M.nx s).getD k 0) := by simp [ha]
    have e2 : (M.nx t)[k]? = some ((M.nx t).getD k 0) := by simp [hb]
    have u1 := a3 _ (List.mem_of_getElem? e1)
    have u2 := b3 _ (List.mem_of_getElem? e2)
    have g5 := h5 _ _ u1 u2
    have es : stk M (s, t) k = ((M.nx s).getD k 0, (M.nx t).getD k 0) := rfl
    rw [es]
    generalize (M.nx s).getD k 0 = a at *
    generalize (M.nx t).getD k 0 = b at *
    have kt := keyT_P2 a b
    cases ef : f (a, b) with
    | none =>
      rw [ef] at g5
      have g5 : lookN kv5 (kP (a, b)) = some .none := g5
      simp [turnT, h50, Ct1__law_parted, Ce3__law_parted, a1, b1, tN_eq, lN_get, e1, e2, gND, kt, g5, zs, isNone]
    | some w =>
      rw [ef] at g5
      have g5 : lookN kv5 (kP (a, b)) = some (tS w) := g5
      simp [turnT, h50, Ct1__law_parted, Ce3__law_parted, a1, b1, tN_eq, lN_get, e1, e2, gND, kt, g5, zs, isNone_tS, isNone]
  rw [← lN_map, ← rangeD_lN, ← lN_map] at e
  have ew : (List.range M.ls.length).filter (fun k => (f (stk M (s, t) k)).isSome) = waysL M f (s, t) := rfl
  rw [ew] at e
  unfold StL at e ⊢
  generalize lN (waysL M f (s, t)) = W at *
  cases q13 with
  | none => simp [Pt2, hro, plainAt, e]
  | some a =>
    have := h13 a rfl
    simp [Pt2, hro, plainAt, e, this]
theorem pt34 (h : M.Ok) (h50 : fz sl5 = .dicN kv5) (h5 : Has M.mv.length kv5 f) (hs : s < M.mv.length) (ht : t < M.mv.length) (h13 : ∀ a, q13 = some a → a.own = false) (hw : ∀ p w, f p = some w → w.length ≤ 64) (l11 : kv11.length ≤ 10000) (fs : FS) :
    ∃ q13' kv11', (∀ a, q13' = some a → a.own = false) ∧ (sSeq Pt3 Pt4) (StL M xs q3 q4 sl5 kv6 s t q9 q10 kv11 (some (.ownL (lN (waysL M f (s, t))))) q13 q14 fs) = some (.nx (StL M xs q3 q4 sl5 kv6 s t q9 q10 kv11' (some (.ownL (lN (waysL M f (s, t))))) q13' q14 fs)) ∧ kv11'.length ≤ kv11.length + 2 ∧ ∀ q, lookN kv11' q = if kP (s, t) = q then some (lvD (nxtP M f (s, t))) else lookN kv11 q := by
  have hz := sizeLine_eq
  have zs : 2 ≤ sizeLine := by omega
  have zs1 : 1 ≤ sizeLine := by omega
  have kt0 := keyT_P2 s t
  have z11 : kv11.length < sizeLine := by omega
  have hl := putN_len kv11 (kP (s, t)) .none
  have z12 : (putN kv11 (kP (s, t)) .none).length < sizeLine := by omega
  have s0 : SeqAt.shaped (.list []) = true := rfl
  cases ew : waysL M f (s, t) with
  | nil =>
    have en : nxtP M f (s, t) = none := by unfold nxtP; rw [ew]
    refine ⟨q13, putN kv11 (kP (s, t)) .none, h13, ?_, by omega, fun q => by rw [lookN_put, en]; rfl⟩
    have ev : PyData.eqv (.list []) (.list []) = true := by simp [PyData.eqv, PyData.eqvAll]
    simp [Pt3, Pt4, h50, lN_nil, kt0, z11, s0, ev, zs, zs1]
  | cons k r =>
    have hk : k ∈ waysL M f (s, t) := by rw [ew]; exact List.mem_cons_self
    obtain ⟨hk1, hk2⟩ := List.mem_filter.mp hk
    have hk' := List.mem_range.mp hk1
    obtain ⟨w, hfw⟩ := Option.isSome_iff_exists.mp hk2
    obtain ⟨a1, a2, a3⟩ := h.mv_at hs
    obtain ⟨b1, b2, b3⟩ := h.mv_at ht
    have ha : k < (M.nx s).length := by omega
    have hb : k < (M.nx t).length := by omega
    have e1 : (M.nx s)[k]? = some ((M.nx s).getD k 0) := by simp [ha]
    have e2 : (M.nx t)[k]? = some ((M.nx t).getD k 0) := by simp [hb]
    have e3 : M.ls[k]? = some (M.ls.getD k "") := by simp [hk']
    have u1 := a3 _ (List.mem_of_getElem? e1)
    have u2 := b3 _ (List.mem_of_getElem? e2)
    have g5 := h5 _ _ u1 u2
    have es : stk M (s, t) k = ((M.nx s).getD k 0, (M.nx t).getD k 0) := rfl
    have en : nxtP M f (s, t) = some (M.ls.getD k "" :: w) := by unfold nxtP; rw [ew]; simp [hfw]
    rw [es] at hfw
    rw [hfw] at g5
    have hwl := hw _ _ hfw
    rw [en]
    generalize (M.nx s).getD k 0 = a at *
    generalize (M.nx t).getD k 0 = b at *
    generalize M.ls.getD k "" = l at *
    have kt := keyT_P2 a b
    have g5 : lookN kv5 (kP (a, b)) = some (tS w) := g5
    have ev : PyData.eqv (.list (.int (k : Int) :: lN r)) (.list []) = false := by simp [PyData.eqv, PyData.eqvAll]
    have s1 : SeqAt.shaped (.list (.int (k : Int) :: lN r)) = true := by
      rw [← lN_cons]
      exact shaped_listI fun d hd => by
        rw [lN_map] at hd
        obtain ⟨x, _, rfl⟩ := List.mem_map.mp hd
        exact ⟨by simp [PyData.canLay0], by simp [PyData.depth]⟩
    have zw : 1 + w.length ≤ sizeLine := by omega
    have zw' : w.length + 1 ≤ sizeLine := by omega
    refine ⟨some (.val (.int k)), putN (putN kv11 (kP (s, t)) .none) (kP (s, t)) (tS (l :: w)), (fun a e => by cases e; rfl), ?_, by have := putN_len (putN kv11 (kP (s, t)) .none) (kP (s, t)) (tS (l :: w)); omega, fun q => ?_⟩
    · simp [Pt3, Pt4, h50, lN_cons, kt0, z11, z12, s0, s1, ev, zs, zs1, a1, b1, tN_eq, lN_get, e1, e2, e3, gND, kt, g5, zw, zw']
      rfl
    · rw [lookN_put, lookN_put]
      by_cases e : kP (s, t) = q
      · simp [e, lvD]
      · simp [e]
end
end Q6

set_option Elab.async false
set_option linter.all false
set_option maxRecDepth 100000
set_option maxHeartbeats 2000000
/-! Q7m: the law's parting rows run. -/
namespace Q6
open PySem PySem.Spec PyProof.Rows L2 PD
def Pb1 : Sf := (sPar (fUn (fFz (fBin (f2n 0 (fC (.val (.int 2)))) gSub)) gLen) (fLc [14] (wVal (fVar 1)) (.nm 14) bYes Ce0__law_parted) 2 3)
def Pb2 : Sf := (sPar3 (fLst aNil) fNewN fNewN 4 5 6)
def Pb3 : Sf := (sForW (wRange1 (fVar 2)) (.nm 7) L0__law_parted)
def Pb4 : Sf := (sForW (wVal (fVar 4)) (.tp [(.nm 7), (.nm 8)]) L1__law_parted)
def Pb5 : Sf := (sForW (wRange1 (fVar 2)) (.nm 10) L3__law_parted)
def Pb6 : Sf := (sRetV 6)
theorem Pb_eq : B__law_parted = sSeq Pb1 (sSeq Pb2 (sSeq Pb3 (sSeq Pb4 (sSeq Pb5 Pb6)))) := rfl
section
variable {M : Mach} {xs : List Str} {fs : FS}
def prs (n : Nat) : List (Nat × Nat) := (List.range n).flatMap fun s => (List.range n).map fun t => (s, t)
theorem prs_mem {n : Nat} {p : Nat × Nat} : p ∈ prs n ↔ p.1 < n ∧ p.2 < n := by
  unfold prs
  rw [List.mem_flatMap]
  constructor
  · rintro ⟨s, hs, hp⟩
    obtain ⟨t, ht, rfl⟩ := List.mem_map.mp hp
    exact ⟨List.mem_range.mp hs, List.mem_range.mp ht⟩
  · rintro ⟨h1, h2⟩
    exact ⟨p.1, List.mem_range.mpr h1, List.mem_map.mpr ⟨p.2, List.mem_range.mpr h2, rfl⟩⟩
theorem prs_len (n : Nat) : (prs n).length = n * n := by
  have : ∀ m : Nat, ((List.range m).flatMap fun s => (List.range n).map fun t => (s, t)).length = m * n := by
    intro m
    induction m with
    | zero => simp
    | succ m ih => rw [List.range_succ, List.flatMap_append, List.length_append, ih]; simp [Nat.add_mul]
  exact this n
def lvP (M : Mach) (xs : List Str) : Nat → PF
  | 0 => fun p => if M.ans xs p.1 = M.ans xs p.2 then none else some []
  | m + 1 => nxtP M (lvP M xs m)
def bsP (M : Mach) (xs : List Str) : Nat → PF
  | 0 => fun _ => none
  | m + 1 => fun p => if bsP M xs m p = none then lvP M xs m p else bsP M xs m p
theorem lvP_len (m : Nat) : ∀ p w, lvP M xs m p = some w → w.length = m := by
  induction m with
  | zero =>
    intro p w e
    simp only [lvP] at e
    split at e
    · cases e
    · cases e; rfl
  | succ m ih =>
    intro p w e
    simp only [lvP, nxtP] at e
    split at e
    · cases e
    · rename_i k r ew
      cases e
      have hk : k ∈ waysL M (lvP M xs m) p := by rw [ew]; exact List.mem_cons_self
      obtain ⟨w', hw'⟩ := Option.isSome_iff_exists.mp (List.mem_filter.mp hk).2
      rw [hw']
      simp [ih _ _ hw']
abbrev StM (M : Mach) (xs : List Str) (q3 q4 : Option Pl) (sl5 : Pl) (kv6 : NK) (q7 q8 q9 q10 q11 q12 q13 q14 : Option Pl) (fs : FS) : DS :=
  ⟨[some (.val (mD M)), some (.val (tS xs)), some (.val (.int M.mv.length)), q3, q4, some sl5, some (.ownN kv6), q7, q8, q9, q10, q11, q12, q13, q14], fs⟩
theorem lap_pairs (h : M.Ok) (hn6 : M.mv.length ≤ 6) {f u : PF} {sl5 : Pl} {kv5 kv6 : NK} {q3 q4 q7 q8 q9 q10 q12 q13 q14 : Option Pl} (h50 : fz sl5 = .dicN kv5) (h5 : Has M.mv.length kv5 f) (h6 : Has M.mv.length kv6 u) (hw : ∀ p w, f p = some w → w.length ≤ 64) (h13 : ∀ a, q13 = some a → a.own = false) (l6 : kv6.length ≤ 5000) (fs : FS) :
    ∃ kv6' kv11 q7' q8' q12' q13', sFor (.tp [.nm 7, .nm 8]) L2__law_parted ((prs M.mv.length).map tP) (StM M xs q3 q4 sl5 kv6 q7 q8 q9 q10 (some (.ownN [])) q12 q13 q14 fs) = some (.nx (StM M xs q3 q4 sl5 kv6' q7' q8' q9 q10 (some (.ownN kv11)) q12' q13' q14 fs)) ∧
      Has M.mv.length kv6' (fun p => if u p = none then f p else u p) ∧ Has M.mv.length kv11 (nxtP M f) ∧ kv6'.length ≤ kv6.length + 36 ∧ (∀ a, q13' = some a → a.own = false) := by
  have hn2 : M.mv.length * M.mv.length ≤ 6 * 6 := Nat.mul_le_mul hn6 hn6
  have hpl := prs_len M.mv.length
  obtain ⟨s', e, kv6', kv11, q7', q8', q12', q13', es, i1, i2, i3, i4, i5⟩ := sFor_inv (t := .tp [.nm 7, .nm 8]) (f := L2__law_parted) tP
    (fun i st => ∃ kv6' kv11 q7' q8' q12' q13', st = StM M xs q3 q4 sl5 kv6' q7' q8' q9 q10 (some (.ownN kv11)) q12' q13' q14 fs ∧ (∀ a, q13' = some a → a.own = false) ∧ kv6'.length ≤ kv6.length + i ∧ kv11.length ≤ 2 * i ∧
      (∀ p ∈ prs M.mv.length, lookN kv6' (kP p) = some (lvD (if p ∈ (prs M.mv.length).take i then (if u p = none then f p else u p) else u p))) ∧ ∀ p ∈ (prs M.mv.length).take i, lookN kv11 (kP p) = some (lvD (nxtP M f p)))
    (prs M.mv.length) 0 (StM M xs q3 q4 sl5 kv6 q7 q8 q9 q10 (some (.ownN [])) q12 q13 q14 fs) (fun j p st hx hs => by
      obtain ⟨kv6', kv11, q7', q8', q12', q13', rfl, i1, i2, i3, i4, i5⟩ := hs
      rw [Nat.zero_add] at *
      obtain ⟨hj, ep⟩ := List.getElem?_eq_some_iff.mp hx
      have hpm : p ∈ prs M.mv.length := List.mem_of_getElem? hx
      have htk : (prs M.mv.length).take (j + 1) = (prs M.mv.length).take j ++ [p] := by rw [List.take_succ_eq_append_getElem hj, ep]
      obtain ⟨s, t⟩ := p
      obtain ⟨hs, ht⟩ := prs_mem.mp hpm
      simp only at hs ht
      obtain ⟨kvA, a1, a2, a3⟩ := pt1 (M := M) (xs := xs) (q3 := q3) (q4 := q4) (q9 := q9) (q10 := q10) (q12 := q12') (q13 := q13') (q14 := q14) (kv11 := kv11) h50 h5 hs ht (i4 _ hpm) (by omega) fs
      have b1 := pt2 (xs := xs) (q3 := q3) (q4 := q4) (q9 := q9) (q10 := q10) (q12 := q12') (q13 := q13') (q14 := q14) (kv11 := kv11) (kv6 := kvA) h h50 h5 hs ht i1 fs
      obtain ⟨q13'', kvB, c1, c2, c3, c4⟩ := pt34 (xs := xs) (q3 := q3) (q4 := q4) (q9 := q9) (q10 := q10) (q13 := q13') (q14 := q14) (kv11 := kv11) (kv6 := kvA) h h50 h5 hs ht i1 hw (by omega) fs
      refine ⟨StM M xs q3 q4 sl5 kvA (some (.val (.int s))) (some (.val (.int t))) q9 q10 (some (.ownN kvB)) (some (.ownL (lN (waysL M f (s, t))))) q13'' q14 fs, ?_, kvA, kvB, _, _, _, q13'', rfl, c1, by omega, by omega, fun p hp => ?_, fun p hp => ?_⟩
      · have put : (Tg.tp [.nm 7, .nm 8]).put (.val (tP (s, t))) (StM M xs q3 q4 sl5 kv6' q7' q8' q9 q10 (some (.ownN kv11)) q12' q13' q14 fs) = some (StL M xs q3 q4 sl5 kv6' s t q9 q10 kv11 q12' q13' q14 fs) := rfl
        rw [put, Option.bind_some, Pt_eq, sSeq_ap, a1]
        show (sSeq Pt2 (sSeq Pt3 Pt4)) _ = _
        rw [sSeq_ap, b1]
        exact c2
      · rw [a3, i4 p hp, htk]
        by_cases e : (s, t) = p
        · subst e
          have hm' : (s, t) ∈ (prs M.mv.length).take j ++ [(s, t)] := by simp
          rw [if_pos rfl, if_pos hm']
          by_cases hm : (s, t) ∈ (prs M.mv.length).take j <;> by_cases hu : u (s, t) = none <;> simp [hm, hu]
        · have e1 : ¬ kP (s, t) = kP p := fun z => e (kP_inj.mp z)
          have e2 : ¬ p = (s, t) := fun z => e z.symm
          simp [e1, e2]
      · rw [c4]
        rw [htk] at hp
        by_cases e : (s, t) = p
        · subst e; simp
        · have e1 : ¬ kP (s, t) = kP p := fun z => e (kP_inj.mp z)
          have e2 : ¬ p = (s, t) := fun z => e z.symm
          rw [if_neg e1]
          rcases List.mem_append.mp hp with q | q
          · exact i5 p q
          · exact absurd (List.mem_singleton.mp q) e2) ⟨kv6, [], q7, q8, q12, q13, rfl, h13, by omega, Nat.le_refl _, fun p hp => by
            obtain ⟨a, b⟩ := prs_mem.mp hp
            have := h6 p.1 p.2 a b
            simpa using this, fun p hp => by simp at hp⟩
  subst es
  have htk : (prs M.mv.length).take (0 + (prs M.mv.length).length) = prs M.mv.length := List.take_of_length_le (by omega)
  rw [htk] at i4 i5
  refine ⟨kv6', kv11, q7', q8', q12', q13', e, fun s t hs ht => ?_, fun s t hs ht => i5 _ (prs_mem.mpr ⟨hs, ht⟩), by omega, i1⟩
  have := i4 (s, t) (prs_mem.mpr ⟨hs, ht⟩)
  rw [if_pos (prs_mem.mpr ⟨hs, ht⟩)] at this
  exact this
/-- all laps -/
theorem all_laps (h : M.Ok) (hn6 : M.mv.length ≤ 6) {kv5 kv6 : NK} {q3 q7 q8 q9 q11 q12 q13 q14 : Option Pl} (h5 : Has M.mv.length kv5 (lvP M xs 0)) (h6 : Has M.mv.length kv6 (bsP M xs 0)) (h13 : ∀ a, q13 = some a → a.own = false) (l6 : kv6.length ≤ 100) (fs : FS) :
    ∃ kv6' s', Has M.mv.length kv6' (bsP M xs M.mv.length) ∧ s'.fs = fs ∧ s'.env[6]? = some (some (.ownN kv6')) ∧ Pb5 (StM M xs q3 (some (.val (.list ((prs M.mv.length).map tP)))) (.ownN kv5) kv6 q7 q8 q9 none q11 q12 q13 q14 fs) = some (.nx s') := by
  have hro := rOk_small (n := M.mv.length) (by omega)
  obtain ⟨s', e, sl5, kv5', kv6', q7', q8', q10', q11', q12', q13', es, i0, i1, i2, i3, i4⟩ := sFor_inv (t := .nm 10) (f := L3__law_parted) (fun k : Nat => PyData.int k)
    (fun m st => ∃ sl5 kv5' kv6' q7' q8' q10' q11' q12' q13', st = StM M xs q3 (some (.val (.list ((prs M.mv.length).map tP)))) sl5 kv6' q7' q8' q9 q10' q11' q12' q13' q14 fs ∧ fz sl5 = .dicN kv5' ∧ Has M.mv.length kv5' (lvP M xs m) ∧ Has M.mv.length kv6' (bsP M xs m) ∧ kv6'.length ≤ 100 + 36 * m ∧ (∀ a, q13' = some a → a.own = false))
    (List.range M.mv.length) 0 (StM M xs q3 (some (.val (.list ((prs M.mv.length).map tP)))) (.ownN kv5) kv6 q7 q8 q9 none q11 q12 q13 q14 fs) (fun m x st hx hs => by
      obtain ⟨sl5, kv5', kv6', q7', q8', q10', q11', q12', q13', rfl, i0, i1, i2, i3, i4⟩ := hs
      rw [Nat.zero_add] at *
      have hm : m < M.mv.length := by
        have := (List.getElem?_eq_some_iff.mp hx).1
        simpa using this
      obtain ⟨kvA, kvB, a7, a8, a12, a13, e1, j1, j2, j3, j4⟩ := lap_pairs (xs := xs) (q3 := q3) (q4 := some (.val (.list ((prs M.mv.length).map tP)))) (q7 := q7') (q8 := q8') (q9 := q9) (q10 := some (.val (.int x))) (q12 := q12') (q13 := q13') (q14 := q14) h hn6 i0 i1 i2 (fun p w e => by rw [lvP_len m p w e]; omega) i4 (by omega) fs
      refine ⟨StM M xs q3 (some (.val (.list ((prs M.mv.length).map tP)))) (.dicN kvB) kvA a7 a8 q9 (some (.val (.int x))) (some (.dicN kvB)) a12 a13 q14 fs, ?_, .dicN kvB, kvB, kvA, _, _, _, _, _, a13, rfl, rfl, j2, j1, by omega, j4⟩
      unfold StM at e1 ⊢
      generalize (prs M.mv.length).map tP = PP at *
      simp [L3__law_parted, e1]) ⟨.ownN kv5, kv5, kv6, q7, q8, none, q11, q12, q13, rfl, rfl, h5, h6, by omega, h13⟩
  subst es
  have hl : 0 + (List.range M.mv.length).length = M.mv.length := by simp
  rw [hl] at i2
  refine ⟨kv6', StM M xs q3 (some (.val (.list ((prs M.mv.length).map tP)))) sl5 kv6' q7' q8' q9 q10' q11' q12' q13' q14 fs, i2, rfl, rfl, ?_⟩
  rw [← lN_map, ← rangeD_lN] at e
  unfold StM at e ⊢
  generalize (prs M.mv.length).map tP = PP at *
  simp [Pb5, hro, e]
end
end Q6

set_option Elab.async false
set_option linter.all false
set_option maxRecDepth 100000
set_option maxHeartbeats 2000000
/-! Q7n: the law's parting rows: the beginning. -/
namespace Q6
open PySem PySem.Spec PyProof.Rows L2 PD
section
variable {M : Mach} {xs : List Str} {fs : FS}
theorem sSeq_nx {f g : Sf} {s s1 : DS} (h : f s = some (.nx s1)) : sSeq f g s = g s1 := by
  rw [sSeq_ap, h]
  rfl
def spots (M : Mach) (xs : List Str) : List Nat := xs.map M.ax
theorem unlike_iff (M : Mach) (xs : List Str) (s t : Nat) : (spots M xs).filter (fun k => decide (M.as s k ≠ M.as t k)) = [] ↔ M.ans xs s = M.ans xs t := by
  unfold spots Mach.ans
  induction xs with
  | nil => simp
  | cons x r ih =>
    by_cases e : M.as s (M.ax x) = M.as t (M.ax x)
    · simp [e] at ih ⊢
    · simp [e]
theorem ax_lt (h : M.Ok) (hx : Some M xs) {x : Str} (hm : x ∈ xs) : M.ax x < M.ks.length ∧ (M.ks.findIdx? fun y => decide (y = x)) = some (M.ax x) := by
  obtain ⟨k, hk⟩ := List.mem_iff_getElem?.mp (hx.sub x hm)
  have e3 := idx_of h.kn.asc hk
  have e4 : M.ax x = k := by simp [Mach.ax, e3]
  rw [e4]
  exact ⟨(List.getElem?_eq_some_iff.mp hk).1, e3⟩
abbrev StI (M : Mach) (xs : List Str) (q3 q4 : Option Pl) (kv5 kv6 : NK) (q7 q8 q9 : Option Pl) (fs : FS) : DS :=
  ⟨[some (.val (mD M)), some (.val (tS xs)), some (.val (.int M.mv.length)), q3, q4, some (.ownN kv5), some (.ownN kv6), q7, q8, q9, none, none, none, none, none], fs⟩
theorem init_one (h : M.Ok) (hx : Some M xs) {q3 q4 q9 : Option Pl} (h3 : q3 = some (.ownL (lN (spots M xs))) ∨ q3 = some (.val (.list (lN (spots M xs))))) {kv5 kv6 : NK} {s t : Nat} (hs : s < M.mv.length) (ht : t < M.mv.length) (l5 : kv5.length ≤ 10000) (l6 : kv6.length ≤ 10000) (fs : FS) :
    ∃ q9', L1__law_parted (StI M xs q3 q4 kv5 kv6 (some (.val (.int s))) (some (.val (.int t))) q9 fs) = some (.nx (StI M xs (some (.val (.list (lN (spots M xs))))) q4 (putN kv5 (kP (s, t)) (lvD (lvP M xs 0 (s, t)))) (putN kv6 (kP (s, t)) .none) (some (.val (.int s))) (some (.val (.int t))) q9' fs)) := by
  have hz := sizeLine_eq
  have zs : 2 ≤ sizeLine := by omega
  have zs1 : 1 ≤ sizeLine := by omega
  have z5 : kv5.length < sizeLine := by omega
  have z6 : kv6.length < sizeLine := by omega
  have kt := keyT_P2 s t
  have hl := hx.ok.len
  have e := lc_turnT (vs := [13]) (t := .nm 13) (ft := Ct0__law_parted) (fe := Ce2__law_parted) (fun k : Nat => PyData.int k) (fun k => decide (M.as s k ≠ M.as t k)) (fun k : Nat => PyData.int k) (spots M xs) (StI M xs (some (.val (.list (lN (spots M xs))))) q4 kv5 kv6 (some (.val (.int s))) (some (.val (.int t))) q9 fs) (by simp [spots]; omega) fun k hk => by
    obtain ⟨x, hx1, rfl⟩ := List.mem_map.mp hk
    obtain ⟨hk1, _⟩ := ax_lt h hx hx1
    obtain ⟨r, e1, e2⟩ := h.an_at hs hk1
    obtain ⟨r', e1', e2'⟩ := h.an_at ht hk1
    generalize M.as s (M.ax x) = u at *
    generalize M.as t (M.ax x) = v at *
    by_cases c : u = v <;> simp [turnT, Ct0__law_parted, Ce2__law_parted, e1, e2, e1', e2', shaped_int, eqv_int, c]
  rw [← lN_map, ← lN_map] at e
  have iff := unlike_iff M xs s t
  generalize (spots M xs).filter (fun k => decide (M.as s k ≠ M.as t k)) = U at *
  have sU : SeqAt.shaped (.list (lN U)) = true := shaped_listI fun d hd => by
    rw [lN_map] at hd
    obtain ⟨x, _, rfl⟩ := List.mem_map.mp hd
    exact ⟨by simp [PyData.canLay0], by simp [PyData.depth]⟩
  have s0 : SeqAt.shaped (.list []) = true := rfl
  refine ⟨some (.ownL (lN U)), ?_⟩
  have ev : PyData.eqv (.list (lN U)) (.list []) = decide (U = []) := by
    cases U with
    | nil => simp [lN_nil, PyData.eqv, PyData.eqvAll]
    | cons a r => simp [lN_cons, PyData.eqv, PyData.eqvAll]
  unfold StI at e ⊢
  generalize lN (spots M xs) = S at *
  by_cases c : U = []
  · have el : lvP M xs 0 (s, t) = none := by simp [lvP, iff.mp c]
    rw [el]
    rw [decide_eq_true c] at ev
    generalize lN U = W at *
    rcases h3 with rfl | rfl <;> simp [L1__law_parted, plainAt, e, sU, s0, ev, kt, zs, zs1, z5, z6, lvD]
  · have el : lvP M xs 0 (s, t) = some [] := by
      have : ¬ M.ans xs s = M.ans xs t := fun z => c (iff.mpr z)
      simp [lvP, this]
    rw [el]
    rw [decide_eq_false c] at ev
    generalize lN U = W at *
    rcases h3 with rfl | rfl <;> simp [L1__law_parted, plainAt, e, sU, s0, ev, kt, zs, zs1, z5, z6, lvD] <;> rfl
theorem init_all (h : M.Ok) (hx : Some M xs) (hn6 : M.mv.length ≤ 6) {q7 : Option Pl} (fs : FS) :
    ∃ kv5 kv6 q3 q7' q8' q9', Has M.mv.length kv5 (lvP M xs 0) ∧ Has M.mv.length kv6 (bsP M xs 0) ∧ kv6.length ≤ 100 ∧ Pb4 (StI M xs (some (.ownL (lN (spots M xs)))) (some (.ownL ((prs M.mv.length).map tP))) [] [] q7 none none fs) = some (.nx (StI M xs q3 (some (.val (.list ((prs M.mv.length).map tP)))) kv5 kv6 q7' q8' q9' fs)) := by
  have hn2 : M.mv.length * M.mv.length ≤ 6 * 6 := Nat.mul_le_mul hn6 hn6
  have hpl := prs_len M.mv.length
  obtain ⟨s', e, q3, kv5, kv6, q7', q8', q9', es, i0, i1, i2, i3, i4⟩ := sFor_inv (t := .tp [.nm 7, .nm 8]) (f := L1__law_parted) tP
    (fun i st => ∃ q3 kv5 kv6 q7' q8' q9', st = StI M xs q3 (some (.val (.list ((prs M.mv.length).map tP)))) kv5 kv6 q7' q8' q9' fs ∧ (q3 = some (.ownL (lN (spots M xs))) ∨ q3 = some (.val (.list (lN (spots M xs))))) ∧ kv5.length ≤ i ∧ kv6.length ≤ i ∧
      (∀ p ∈ (prs M.mv.length).take i, lookN kv5 (kP p) = some (lvD (lvP M xs 0 p))) ∧ ∀ p ∈ (prs M.mv.length).take i, lookN kv6 (kP p) = some .none)
    (prs M.mv.length) 0 (StI M xs (some (.ownL (lN (spots M xs)))) (some (.val (.list ((prs M.mv.length).map tP)))) [] [] q7 none none fs) (fun j p st hp hs => by
      obtain ⟨q3, kv5, kv6, q7', q8', q9', rfl, i0, i1, i2, i3, i4⟩ := hs
      rw [Nat.zero_add] at *
      obtain ⟨hj, ep⟩ := List.getElem?_eq_some_iff.mp hp
      have hpm : p ∈ prs M.mv.length := List.mem_of_getElem? hp
      have htk : (prs M.mv.length).take (j + 1) = (prs M.mv.length).take j ++ [p] := by rw [List.take_succ_eq_append_getElem hj, ep]
      obtain ⟨s, t⟩ := p
      obtain ⟨hs, ht⟩ := prs_mem.mp hpm
      simp only at hs ht
      obtain ⟨q9'', e1⟩ := init_one (q4 := some (.val (.list ((prs M.mv.length).map tP)))) (q9 := q9') h hx i0 (kv5 := kv5) (kv6 := kv6) hs ht (by omega) (by omega) fs
      have p5 := putN_len kv5 (kP (s, t)) (lvD (lvP M xs 0 (s, t)))
      have p6 := putN_len kv6 (kP (s, t)) .none
      refine ⟨_, ?_, _, _, _, (some (.val (.int s))), (some (.val (.int t))), q9'', rfl, .inr rfl, Nat.le_trans p5 (by omega), Nat.le_trans p6 (by omega), fun p hp => ?_, fun p hp => ?_⟩
      · have put : (Tg.tp [.nm 7, .nm 8]).put (.val (tP (s, t))) (StI M xs q3 (some (.val (.list ((prs M.mv.length).map tP)))) kv5 kv6 q7' q8' q9' fs) = some (StI M xs q3 (some (.val (.list ((prs M.mv.length).map tP)))) kv5 kv6 (some (.val (.int s))) (some (.val (.int t))) q9' fs) := rfl
        rw [put, Option.bind_some]
        exact e1
      · rw [lookN_put]
        rw [htk] at hp
        by_cases e : (s, t) = p
        · subst e; simp
        · have e1 : ¬ kP (s, t) = kP p := fun z => e (kP_inj.mp z)
          rw [if_neg e1]
          rcases List.mem_append.mp hp with q | q
          · exact i3 p q
          · exact absurd (List.mem_singleton.mp q).symm e
      · rw [lookN_put]
        rw [htk] at hp
        by_cases e : (s, t) = p
        · subst e; simp
        · have e1 : ¬ kP (s, t) = kP p := fun z => e (kP_inj.mp z)
          rw [if_neg e1]
          rcases List.mem_append.mp hp with q | q
          · exact i4 p q
          · exact absurd (List.mem_singleton.mp q).symm e) ⟨_, [], [], q7, none, none, rfl, .inl rfl, Nat.le_refl _, Nat.le_refl _, fun p hp => by simp at hp, fun p hp => by simp at hp⟩
  subst es
  have htk : (prs M.mv.length).take (0 + (prs M.mv.length).length) = prs M.mv.length := List.take_of_length_le (by omega)
  rw [htk] at i3 i4
  refine ⟨kv5, kv6, q3, q7', q8', q9', fun s t hs ht => i3 _ (prs_mem.mpr ⟨hs, ht⟩), fun s t hs ht => i4 _ (prs_mem.mpr ⟨hs, ht⟩), by omega, ?_⟩
  unfold StI at e ⊢
  generalize (prs M.mv.length).map tP = PP at *
  simp [Pb4, e]
theorem d_parted (h : M.Ok) (hx : Some M xs) (hn6 : M.mv.length ≤ 6) (fs : FS) : ∃ kv, Has M.mv.length kv (bsP M xs M.mv.length) ∧ D__law_parted [.val (mD M), .val (tS xs)] fs = some (.ownN kv, fs) := by
  have hz := sizeLine_eq
  have zs : 2 ≤ sizeLine := by omega
  have hro := rOk_small (n := M.mv.length) (by omega)
  have hl := hx.ok.len
  have e1 : Pb1 ⟨[some (.val (mD M)), some (.val (tS xs)), none, none, none, none, none, none, none, none, none, none, none, none, none], fs⟩ = some (.nx ⟨[some (.val (mD M)), some (.val (tS xs)), some (.val (.int M.mv.length)), some (.ownL (lN (spots M xs))), none, none, none, none, none, none, none, none, none, none, none], fs⟩) := by
    have e := lc_turn (vs := [14]) (t := .nm 14) (fe := Ce0__law_parted) PyData.str (fun l => .int (M.ax l : Nat)) xs ⟨[some (.val (mD M)), some (.val (tS xs)), none, none, none, none, none, none, none, none, none, none, none, none, none], fs⟩ (by omega) fun x hm => by
      obtain ⟨a1, a2⟩ := ax_lt h hx hm
      simp [turnE, Ce0__law_parted, gIdx_t, a2]
    have e5 : (xs.map fun l => PyData.int (M.ax l : Nat)) = lN (spots M xs) := by rw [lN_map]; simp [spots, Function.comp_def]
    rw [e5] at e
    generalize lN (spots M xs) = S at *
    simp [Pb1, plainAt, e]
  have e2 : Pb2 ⟨[some (.val (mD M)), some (.val (tS xs)), some (.val (.int M.mv.length)), some (.ownL (lN (spots M xs))), none, none, none, none, none, none, none, none, none, none, none], fs⟩ = some (.nx (StI M xs (some (.ownL (lN (spots M xs)))) (some (.ownL [])) [] [] none none none fs)) := by
    simp [Pb2]
  have e3 : ∃ q7, Pb3 (StI M xs (some (.ownL (lN (spots M xs)))) (some (.ownL [])) [] [] none none none fs) = some (.nx (StI M xs (some (.ownL (lN (spots M xs)))) (some (.ownL ((prs M.mv.length).map tP))) [] [] q7 none none fs)) := by
    obtain ⟨s', e, q7, es⟩ := sFor_inv (t := .nm 7) (f := L0__law_parted) (fun k : Nat => PyData.int k)
      (fun m st => ∃ q7, st = StI M xs (some (.ownL (lN (spots M xs)))) (some (.ownL (((List.range m).flatMap fun s => (List.range M.mv.length).map fun t => (s, t)).map tP))) [] [] q7 none none fs)
      (List.range M.mv.length) 0 (StI M xs (some (.ownL (lN (spots M xs)))) (some (.ownL [])) [] [] none none none fs) (fun m x st hxm hs => by
        obtain ⟨q7, rfl⟩ := hs
        rw [Nat.zero_add] at *
        have hm : m < M.mv.length := by
          have := (List.getElem?_eq_some_iff.mp hxm).1
          simpa using this
        have hxm' : x = m := by
          have := (List.getElem?_eq_some_iff.mp hxm).2
          simpa using this.symm
        subst hxm'
        have hc : ((List.range x).flatMap fun s => (List.range M.mv.length).map fun t => (s, t)).length = x * M.mv.length := by
          generalize M.mv.length = n
          clear hm hxm
          induction x with
          | zero => simp
          | succ m ih => rw [List.range_succ, List.flatMap_append, List.length_append, ih]; simp [Nat.add_mul]
        have hb : x * M.mv.length ≤ 6 * 6 := Nat.mul_le_mul (by omega) hn6
        refine ⟨StI M xs (some (.ownL (lN (spots M xs)))) (some (.ownL (((List.range (x + 1)).flatMap fun s => (List.range M.mv.length).map fun t => (s, t)).map tP))) [] [] (some (.val (.int x))) none none fs, ?_, _, rfl⟩
        have er : ((List.range (x + 1)).flatMap fun s => (List.range M.mv.length).map fun t => (s, t)).map tP = ((List.range x).flatMap fun s => (List.range M.mv.length).map fun t => (s, t)).map tP ++ (List.range M.mv.length).map fun t => tP (x, t) := by
          rw [List.range_succ, List.flatMap_append, List.map_append]
          simp [Function.comp_def]
        rw [er]
        have hc' : (((List.range x).flatMap fun s => (List.range M.mv.length).map fun t => (s, t)).map tP).length + M.mv.length ≤ sizeLine := by rw [List.length_map, hc]; omega
        generalize ((List.range x).flatMap fun s => (List.range M.mv.length).map fun t => (s, t)).map tP = PP at *
        have e := lc_turn (vs := [8]) (t := .nm 8) (fe := Ce1__law_parted) (fun k : Nat => PyData.int k) (fun t => tP (x, t)) (List.range M.mv.length) (StI M xs (some (.ownL (lN (spots M xs)))) (some (.ownL PP)) [] [] (some (.val (.int x))) none none fs) (by simp; omega) fun t ht => by
          simp [turnE, Ce1__law_parted, zs, tP]
        rw [← lN_map, ← rangeD_lN] at e
        unfold StI at e ⊢
        generalize hT : (List.range M.mv.length).map (fun t => tP (x, t)) = TT at *
        have hTl : TT.length = M.mv.length := by rw [← hT]; simp
        have hc'' : PP.length + TT.length ≤ sizeLine := by omega
        simp [L0__law_parted, hro, plainAt, e, hc'']) ⟨none, by simp⟩
    subst es
    have hl : 0 + (List.range M.mv.length).length = M.mv.length := by simp
    rw [hl] at e
    refine ⟨q7, ?_⟩
    rw [← lN_map, ← rangeD_lN] at e
    have ep : ((List.range M.mv.length).flatMap fun s => (List.range M.mv.length).map fun t => (s, t)) = prs M.mv.length := rfl
    rw [ep] at e
    unfold StI at e ⊢
    generalize (prs M.mv.length).map tP = PP at *
    simp [Pb3, hro, e]
  obtain ⟨q7, e3⟩ := e3
  obtain ⟨kv5, kv6, q3, q7', q8', q9', a1, a2, a3, e4⟩ := init_all (q7 := q7) h hx hn6 fs
  obtain ⟨kv, s', b1, b2, b3, e5⟩ := all_laps (q3 := q3) (q7 := q7') (q8 := q8') (q9 := q9') (q11 := none) (q12 := none) (q13 := none) (q14 := none) h hn6 a1 a2 (fun a e => nomatch e) a3 fs
  refine ⟨kv, b1, ?_⟩
  obtain ⟨env, fs'⟩ := s'
  simp only at b2 b3
  subst b2
  have e6 : B__law_parted ⟨[some (.val (mD M)), some (.val (tS xs)), none, none, none, none, none, none, none, none, none, none, none, none, none], fs'⟩ = Pb6 ⟨env, fs'⟩ := by
    rw [Pb_eq, sSeq_nx e1, sSeq_nx e2, sSeq_nx e3, sSeq_nx e4, sSeq_nx e5]
  simp [D__law_parted, e6, Pb6, b3]
end
end Q6

set_option Elab.async false
set_option linter.all false
set_option maxRecDepth 100000
set_option maxHeartbeats 2000000
/-! Q7o: the law's parting rows are the program's. -/
namespace Q6
open PySem PySem.Spec PyProof.Rows L2 PD
section
variable {M : Mach} {xs : List Str} {fs : FS}
theorem ways_first {f : PF} {p : Nat × Nat} {k : Nat} {r : List Nat} (e : waysL M f p = k :: r) : ∀ j, j < M.ls.length → (f (stk M p j)).isSome = true → k ≤ j := fun j hj hf => by
  have hm : j ∈ waysL M f p := List.mem_filter.mpr ⟨List.mem_range.mpr hj, hf⟩
  have pw : (waysL M f p).Pairwise (· < ·) := (List.pairwise_lt_range (n := M.ls.length)).filter _
  rw [e] at hm pw
  rcases List.mem_cons.mp hm with rfl | h
  · exact Nat.le_refl _
  · exact Nat.le_of_lt (List.rel_of_pairwise_cons pw h)
theorem stk_st (h : M.Ok) {p : Nat × Nat} {k : Nat} (hk : k < M.ls.length) : stk M p k = (M.st p.1 (M.ls.getD k ""), M.st p.2 (M.ls.getD k "")) := by
  obtain ⟨_, l2⟩ := lx_at h hk
  rw [l2, l2]; rfl
theorem lvP_ok (h : M.Ok) : ∀ (m : Nat) (p : Nat × Nat), p.1 < M.mv.length → p.2 < M.mv.length → match lvP M xs m p with
    | some w => Parts M xs p w ∧ ∀ w', Parts M xs p w' → w'.length = m → leW w w'
    | none => ∀ w', w'.length = m → ¬ Parts M xs p w'
  | 0, p, h1, h2 => by
    by_cases e : M.ans xs p.1 = M.ans xs p.2
    · have : lvP M xs 0 p = none := by simp [lvP, e]
      rw [this]
      intro w' hw hp
      rw [List.eq_nil_of_length_eq_zero hw] at hp
      exact hp.2 e
    · have : lvP M xs 0 p = some [] := by simp [lvP, e]
      rw [this]
      refine ⟨⟨(fun _ q => nomatch q), e⟩, fun w' _ hl => ?_⟩
      rw [List.eq_nil_of_length_eq_zero hl]
      exact leW_refl _
  | m + 1, p, h1, h2 => by
    have split : ∀ w', w'.length = m + 1 → Parts M xs p w' → ∃ k r, k < M.ls.length ∧ w' = M.ls.getD k "" :: r ∧ r.length = m ∧ Parts M xs (stk M p k) r := fun w' hl hp => by
      cases w' with
      | nil => simp at hl
      | cons l r =>
        obtain ⟨k, hk, e⟩ := List.getElem_of_mem (hp.1 l List.mem_cons_self)
        have el : M.ls.getD k "" = l := by simp [hk, e]
        refine ⟨k, r, hk, by rw [el], by simpa using hl, ?_⟩
        rw [stk_st h hk, el]
        exact ⟨fun x hx => hp.1 x (List.mem_cons_of_mem _ hx), hp.2⟩
    have ok : ∀ k, k < M.ls.length → (stk M p k).1 < M.mv.length ∧ (stk M p k).2 < M.mv.length := fun k hk => by
      obtain ⟨l1, _⟩ := lx_at h hk
      rw [stk_st h hk]
      exact ⟨(M.st_lt h h1 l1).1, (M.st_lt h h2 l1).1⟩
    show match nxtP M (lvP M xs m) p with | some w => _ | none => _
    cases ew : waysL M (lvP M xs m) p with
    | nil =>
      have en : nxtP M (lvP M xs m) p = none := by unfold nxtP; rw [ew]
      rw [en]
      intro w' hl hp
      obtain ⟨k, r, hk, _, hr, hpr⟩ := split w' hl hp
      have ih := lvP_ok h m (stk M p k) (ok k hk).1 (ok k hk).2
      cases ef : lvP M xs m (stk M p k) with
      | none =>
        rw [ef] at ih
        exact ih r hr hpr
      | some w =>
        have : k ∈ waysL M (lvP M xs m) p := List.mem_filter.mpr ⟨List.mem_range.mpr hk, by rw [ef]; rfl⟩
        rw [ew] at this
        cases this
    | cons k r0 =>
      have hkm : k ∈ waysL M (lvP M xs m) p := by rw [ew]; exact List.mem_cons_self
      obtain ⟨hk1, hk2⟩ := List.mem_filter.mp hkm
      have hk := List.mem_range.mp hk1
      obtain ⟨w, hw⟩ := Option.isSome_iff_exists.mp hk2
      have en : nxtP M (lvP M xs m) p = some (M.ls.getD k "" :: w) := by unfold nxtP; rw [ew]; simp [hw]
      rw [en]
      obtain ⟨l1, _⟩ := lx_at h hk
      have ih := lvP_ok h m (stk M p k) (ok k hk).1 (ok k hk).2
      rw [hw] at ih
      obtain ⟨⟨i1, i2⟩, i3⟩ := ih
      have hwl := lvP_len (M := M) (xs := xs) m _ _ hw
      refine ⟨⟨fun x hx => ?_, ?_⟩, fun w' hp hl => ?_⟩
      · rcases List.mem_cons.mp hx with rfl | hx
        · exact l1
        · exact i1 x hx
      · rw [stk_st h hk] at i2
        exact i2
      · obtain ⟨j, r, hj, rfl, hr, hpr⟩ := split w' hl hp
        have ihj := lvP_ok h m (stk M p j) (ok j hj).1 (ok j hj).2
        have hsome : (lvP M xs m (stk M p j)).isSome = true := by
          cases ef : lvP M xs m (stk M p j) with
          | none =>
            rw [ef] at ihj
            exact absurd hpr (ihj r hr)
          | some _ => rfl
        have hle := ways_first ew j hj hsome
        by_cases e : k = j
        · subst e
          exact .inr ⟨rfl, i3 r hpr hr⟩
        · refine .inl ⟨?_, by omega⟩
          have := List.pairwise_iff_getElem.mp h.ln.asc k j hk hj (by omega)
          have e1 : M.ls.getD k "" = M.ls[k] := by simp [hk]
          have e2 : M.ls.getD j "" = M.ls[j] := by simp [hj]
          rw [e1, e2]
          exact this
theorem bsP_ok (h : M.Ok) {p : Nat × Nat} (h1 : p.1 < M.mv.length) (h2 : p.2 < M.mv.length) : ∀ (m : Nat), match bsP M xs m p with
    | some w => Parts M xs p w ∧ ∀ w', Parts M xs p w' → sl w w'
    | none => ∀ w', w'.length < m → ¬ Parts M xs p w'
  | 0 => fun w' hw => absurd hw (Nat.not_lt_zero _)
  | m + 1 => by
    have ih := bsP_ok h h1 h2 m
    have lv := lvP_ok (xs := xs) h m p h1 h2
    show match (if bsP M xs m p = none then lvP M xs m p else bsP M xs m p) with | some w => _ | none => _
    cases eb : bsP M xs m p with
    | some w =>
      rw [eb] at ih
      simpa using ih
    | none =>
      rw [eb] at ih
      rw [if_pos rfl]
      cases el : lvP M xs m p with
      | none =>
        rw [el] at lv
        intro w' hw hp
        rcases Nat.lt_or_ge w'.length m with q | q
        · exact ih w' q hp
        · exact lv w' (by omega) hp
      | some w =>
        rw [el] at lv
        refine ⟨lv.1, fun w' hp => ?_⟩
        have hwl := lvP_len (M := M) (xs := xs) m _ _ el
        rcases Nat.lt_trichotomy w'.length m with q | q | q
        · exact absurd hp (ih w' q)
        · exact .inr (lv.2 w' hp q)
        · exact .inl (by omega)
theorem parts_not {s t : Nat} : Alike M xs s t ↔ ∀ w, ¬ Parts M xs (s, t) w := by
  constructor
  · intro h w hp
    exact hp.2 (h w hp.1)
  · intro h w hm
    exact Classical.not_not.mp fun z => h w ⟨hm, z⟩
theorem bsP_least (h : M.Ok) {s t : Nat} (hs : s < M.mv.length) (ht : t < M.mv.length) {o : Option (List Str)} (ho : LeastP M xs (s, t) o) : bsP M xs M.mv.length (s, t) = o := by
  have B := bsP_ok (xs := xs) (p := (s, t)) h hs ht M.mv.length
  cases eb : bsP M xs M.mv.length (s, t) with
  | none =>
    rw [eb] at B
    cases o with
    | none => rfl
    | some r =>
      exfalso
      have hn : Near M xs (M.mv.length - 1) s t := fun w hw hm => Classical.not_not.mp fun z => B w (by have := h.n1; omega) ⟨hm, z⟩
      exact parts_not.mp (near_alike h hs ht hn) r ho.1
  | some w =>
    rw [eb] at B
    cases o with
    | none => exact absurd B.1 (ho w)
    | some r => rw [sl_antisymm (B.2 r ho.1) (ho.2.1 w B.1)]
theorem bsP_alike (h : M.Ok) {s t : Nat} (hs : s < M.mv.length) (ht : t < M.mv.length) : bsP M xs M.mv.length (s, t) = none ↔ Alike M xs s t := by
  have B := bsP_ok (xs := xs) (p := (s, t)) h hs ht M.mv.length
  constructor
  · intro e
    rw [e] at B
    exact near_alike h hs ht fun w hw hm => Classical.not_not.mp fun z => B w (by have := h.n1; omega) ⟨hm, z⟩
  · intro ha
    cases eb : bsP M xs M.mv.length (s, t) with
    | none => rfl
    | some w =>
      rw [eb] at B
      exact absurd B.1 (parts_not.mp ha w)
theorem least_swap {s t : Nat} {o : Option (List Str)} (ho : LeastP M xs (t, s) o) : LeastP M xs (s, t) o := by
  have sw : ∀ w, Parts M xs (s, t) w ↔ Parts M xs (t, s) w := fun w => ⟨fun h => ⟨h.1, fun e => h.2 e.symm⟩, fun h => ⟨h.1, fun e => h.2 e.symm⟩⟩
  cases o with
  | none => exact fun w hw => ho w ((sw w).mp hw)
  | some r => exact ⟨(sw r).mpr ho.1, fun w hw => ho.2.1 w ((sw w).mp hw), ho.2.2⟩
end
end Q6

set_option Elab.async false
set_option linter.all false
set_option maxRecDepth 100000
set_option maxHeartbeats 2000000
/-! Q7p: alike states right. -/
namespace Q6
open PySem PySem.Spec PyProof.Rows L2 PD
def Pa1 : Sf := (sPar (fCall D__law_draw (aCons (fVar 0) (aCons (fVar 4) aNil))) (fCall D__law_draw (aCons (fVar 0) (aCons (fVar 4) aNil))) 8 9)
def Pa2 : Sf := (sAsg (fLst (aCons (fCall D_are_alike (aCons (fVar 1) (aCons (fVar 8) (aCons (fVar 9) (aCons (fVar 2) aNil))))) (aCons (fCall D_are_alike (aPick [3, 2, 1, 0] (aCons (fVar 2) (aCons (fVar 9) (aCons (fVar 8) (aCons (fVar 1) aNil)))))) aNil))) (.nm 6))
def Pa3 : Sf := (sAsg (fBin (f2n 6 (fLst (aCons (fCall D_parting_row (aCons (fVar 1) (aCons (fVar 8) (aCons (fVar 9) (aCons (fVar 2) aNil))))) (aCons (fCall D_parting_row (aPick [3, 2, 1, 0] (aCons (fVar 2) (aCons (fVar 9) (aCons (fVar 8) (aCons (fVar 1) aNil)))))) aNil)))) gAdd) (.nm 6))
def Pa4 : Sf := (sExpr (fApp 6 (fCall D_parting_row (aCons (fVar 1) (aCons (fVar 9) (aCons (fVar 8) (aCons (fVar 2) aNil)))))))
def Pa5 : Sf := (sAsg (fBin (f2n 3 (fTup (aCons (fVar 8) (aCons (fVar 9) aNil)))) gND) (.nm 10))
def Pa6 : Sf := (sIf (bNot (fTru (fFz (fCall D__law_same (aCons (fVar 6) (aCons (fLst (aCons (fUn (fPeek 10) (gIsN false)) (aCons (fUn (fPeek 10) (gIsN false)) (aCons (fVar 10) (aCons (fVar 10) (aCons (fVar 10) aNil)))))) aNil)))))) (sRet (fC (.val (.bool false)))) sNil)
theorem Pa_eq : L0__law_are_alike_right = sSeq Pa1 (sSeq Pa2 (sSeq Pa3 (sSeq Pa4 (sSeq Pa5 Pa6)))) := rfl
def Pr1 : Sf := (sPar (fCall D__law_parted (aCons (fVar 1) (aCons (fVar 2) aNil))) (fUn (fFz (fBin (f2n 1 (fC (.val (.int 2)))) gSub)) gLen) 3 4)
def Pr2 : Sf := (sAsg (fLc [8] (wRange1 (fVar 4)) (.nm 8) bYes Ce1__law_are_alike_right) (.nm 5))
def Pr3 : Sf := (sAsg (fLst (aCons (fCall D_alike_classes (aCons (fVar 1) (aCons (fVar 2) aNil))) (aCons (fCall D_alike_classes (aPick [1, 0] (aCons (fVar 2) (aCons (fVar 1) aNil)))) aNil))) (.nm 6))
def Pr4 : Sf := (sIf (bNot (fTru (fFz (fCall D__law_same (aCons (fVar 6) (aCons (fLst (aCons (fUn (fPeek 5) gTupleOf) (aCons (fUn (fPeek 5) gTupleOf) aNil))) aNil)))))) (sRet (fC (.val (.bool false)))) sNil)
def Pr5 : Sf := (sForW (wRange1 (fC (.val (.int 4)))) (.nm 7) L0__law_are_alike_right)
def Pr6 : Sf := (sRet (fC (.val (.bool true))))
theorem Pr_eq : B__law_are_alike_right = sSeq Pr1 (sSeq Pr2 (sSeq Pr3 (sSeq Pr4 (sSeq Pr5 Pr6)))) := rfl
section
variable {M : Mach} {xs : List Str} {fs : FS}
abbrev StQ (M : Mach) (xs : List Str) (kv : NK) (q5 q6 q7 q8 q9 q10 : Option Pl) (fs : FS) : DS := ⟨[some .fd, some (.val (mD M)), some (.val (tS xs)), some (.ownN kv), some (.val (.int M.mv.length)), q5, q6, q7, q8, q9, q10], fs⟩
theorem fmin : ∀ (r : List Int) (a : Int), (r.foldl min a ≤ a ∧ ∀ y ∈ r, r.foldl min a ≤ y) ∧ (r.foldl min a = a ∨ r.foldl min a ∈ r)
  | [], a => ⟨⟨Int.le_refl _, fun _ h => nomatch h⟩, .inl rfl⟩
  | x :: r, a => by
    obtain ⟨⟨i1, i2⟩, i3⟩ := fmin r (min a x)
    refine ⟨⟨?_, fun y hy => ?_⟩, ?_⟩
    · show r.foldl min (min a x) ≤ a
      omega
    · show r.foldl min (min a x) ≤ y
      rcases List.mem_cons.mp hy with rfl | hy
      · omega
      · exact i2 y hy
    · show r.foldl min (min a x) = a ∨ r.foldl min (min a x) ∈ x :: r
      rcases i3 with e | e
      · rw [e]
        by_cases c : a ≤ x
        · exact .inl (by omega)
        · have : min a x = x := by omega
          rw [this]
          exact .inr List.mem_cons_self
      · exact .inr (List.mem_cons_of_mem _ e)
theorem minI_of' {ns : List Int} {m : Int} (h1 : m ∈ ns) (h2 : ∀ y, y ∈ ns → m ≤ y) : minI ns = some m := by
  cases ns with
  | nil => cases h1
  | cons a r =>
    obtain ⟨⟨i1, i2⟩, i3⟩ := fmin r a
    show some (r.foldl min a) = some m
    have a1 : m ≤ r.foldl min a := by
      rcases i3 with e | e
      · rw [e]; exact h2 a List.mem_cons_self
      · exact h2 _ (List.mem_cons_of_mem _ e)
    have a2 : r.foldl min a ≤ m := by
      rcases List.mem_cons.mp h1 with rfl | h
      · exact i1
      · exact i2 m h
    rw [Int.le_antisymm a2 a1]
theorem rp_lv (h : M.Ok) {p : Nat × Nat} {o : Option (List Str)} (ho : LeastP M xs p o) : Rp 1 1000 (lvD o) := by
  cases o with
  | none => exact rp_none.up (by decide) (by decide)
  | some r => exact (rp_word h ho.1.1 ho.2.2).up (Nat.le_refl _) (by decide)
theorem alike_lap (h : M.Ok) (hx : Some M xs) (hn6 : M.mv.length ≤ 6) {C : List Nat} (hC : Cl M xs C) {kv : NK} (hk : Has M.mv.length kv (bsP M xs M.mv.length)) (q5 q6 q7 q8 q9 q10 : Option Pl) (fs : FS) :
    ∃ q6' q8' q9' q10' fs', L0__law_are_alike_right (StQ M xs kv q5 q6 q7 q8 q9 q10 fs) = some (.nx (StQ M xs kv q5 q6' q7 q8' q9' q10' fs')) := by
  have hz := sizeLine_eq
  have zs : 2 ≤ sizeLine := by omega
  have zs4 : 4 ≤ sizeLine := by omega
  have zs5 : 5 ≤ sizeLine := by omega
  have zl4 : 4 < sizeLine := by omega
  have h1 := h.n1
  obtain ⟨k1, fs1, e1, a1, a2⟩ := d_draw (n := (M.mv.length : Int)) (by omega) (by omega) fs
  obtain ⟨k2, fs2, e2, b1, b2⟩ := d_draw (n := (M.mv.length : Int)) (by omega) (by omega) fs1
  obtain ⟨s, rfl⟩ : ∃ s : Nat, k1 = s := ⟨k1.toNat, by omega⟩
  obtain ⟨t, rfl⟩ : ∃ t : Nat, k2 = t := ⟨k2.toNat, by omega⟩
  have hs : s < M.mv.length := by omega
  have ht : t < M.mv.length := by omega
  have p1 : Pa1 (StQ M xs kv q5 q6 q7 q8 q9 q10 fs) = some (.nx (StQ M xs kv q5 q6 q7 (some (.val (.int s))) (some (.val (.int t))) q10 fs2)) := by
    simp [Pa1, e1, e2]
  obtain ⟨o, ho, dp⟩ := d_parting h hx hn6 hs ht
  obtain ⟨o', ho', dp'⟩ := d_parting h hx hn6 ht hs
  have eo := bsP_least h hs ht ho
  have eo' := bsP_least h hs ht (least_swap ho')
  rw [eo] at eo'
  subst eo'
  have gk := hk s t hs ht
  rw [eo] at gk
  have da := fun fs => d_are_alike h hx hC hs ht (b := isNone (lvD o)) (by
    rw [← bsP_alike h hs ht, eo]
    cases o <;> simp [lvD, isNone]) fs
  have kt := keyT_P2 s t
  have same : ∀ fs, D__law_same [.val (.list [.bool (isNone (lvD o)), .bool (isNone (lvD o)), lvD o, lvD o, lvD o]), .val (.list [.bool (isNone (lvD o)), .bool (isNone (lvD o)), lvD o, lvD o, lvD o])] fs = some (.val (.bool true), fs) := fun fs => by
    refine d_same (rp_repr (Rp.lst (k := 1) (w := 1000) (m := 5) (fun d hd => ?_) (by simp)) (by decide) (by decide)) fs
    simp only [List.mem_cons, List.not_mem_nil, or_false] at hd
    rcases hd with rfl | rfl | rfl | rfl | rfl
    · exact (rp_bool _).up (by decide) (by decide)
    · exact (rp_bool _).up (by decide) (by decide)
    · exact rp_lv h ho
    · exact rp_lv h ho
    · exact rp_lv h ho
  generalize hb : isNone (lvD o) = b at *
  generalize lvD o = D at *
  have p2 : Pa2 (StQ M xs kv q5 q6 q7 (some (.val (.int s))) (some (.val (.int t))) q10 fs2) = some (.nx (StQ M xs kv q5 (some (.ownL [.bool b, .bool b])) q7 (some (.val (.int s))) (some (.val (.int t))) q10 fs2)) := by
    simp [Pa2, da, pick, zs]
  have p3 : Pa3 (StQ M xs kv q5 (some (.ownL [.bool b, .bool b])) q7 (some (.val (.int s))) (some (.val (.int t))) q10 fs2) = some (.nx (StQ M xs kv q5 (some (.ownL [.bool b, .bool b, D, D])) q7 (some (.val (.int s))) (some (.val (.int t))) q10 fs2)) := by
    simp [Pa3, dp, pick, zs, zs4]
  have p4 : Pa4 (StQ M xs kv q5 (some (.ownL [.bool b, .bool b, D, D])) q7 (some (.val (.int s))) (some (.val (.int t))) q10 fs2) = some (.nx (StQ M xs kv q5 (some (.ownL [.bool b, .bool b, D, D, D])) q7 (some (.val (.int s))) (some (.val (.int t))) q10 fs2)) := by
    simp [Pa4, dp', zl4]
  have p5 : Pa5 (StQ M xs kv q5 (some (.ownL [.bool b, .bool b, D, D, D])) q7 (some (.val (.int s))) (some (.val (.int t))) q10 fs2) = some (.nx (StQ M xs kv q5 (some (.ownL [.bool b, .bool b, D, D, D])) q7 (some (.val (.int s))) (some (.val (.int t))) (some (.val D)) fs2)) := by
    simp [Pa5, gND, kt, gk, zs]
  have p6 : Pa6 (StQ M xs kv q5 (some (.ownL [.bool b, .bool b, D, D, D])) q7 (some (.val (.int s))) (some (.val (.int t))) (some (.val D)) fs2) = some (.nx (StQ M xs kv q5 (some (.val (.list [.bool b, .bool b, D, D, D]))) q7 (some (.val (.int s))) (some (.val (.int t))) (some (.val D)) fs2)) := by
    simp [Pa6, same, zs5, hb, gTru]
  refine ⟨some (.val (.list [.bool b, .bool b, D, D, D])), some (.val (.int s)), some (.val (.int t)), some (.val D), fs2, ?_⟩
  rw [Pa_eq, sSeq_nx p1, sSeq_nx p2, sSeq_nx p3, sSeq_nx p4, sSeq_nx p5]
  exact p6
theorem d_are_alike_right (h : M.Ok) (hx : Some M xs) (hn6 : M.mv.length ≤ 6) (fs : FS) : ∃ fs', D__law_are_alike_right [.fd, .val (mD M), .val (tS xs)] fs = some (.val (.bool true), fs') := by
  have hz := sizeLine_eq
  have zs : 2 ≤ sizeLine := by omega
  have hro := rOk_small (n := M.mv.length) (by omega)
  have hro4 : rOk 4 = true := rfl
  obtain ⟨C, hC⟩ := cl_ex h hx
  obtain ⟨kv, hk, dp⟩ := d_parted h hx hn6 fs
  have lC := hC.1.len
  have dc := fun fs => d_alike_classes h hx hC fs
  have p1 : Pr1 ⟨[some .fd, some (.val (mD M)), some (.val (tS xs)), none, none, none, none, none, none, none, none], fs⟩ = some (.nx (StQ M xs kv none none none none none none fs)) := by
    simp [Pr1, dp]
  have p2 : Pr2 (StQ M xs kv none none none none none none fs) = some (.nx (StQ M xs kv (some (.ownL (lN C))) none none none none none fs)) := by
    have e := lc_turn (vs := [8]) (t := .nm 8) (fe := Ce1__law_are_alike_right) (fun k : Nat => PyData.int k) (fun s => .int (C.getD s 0 : Nat)) (List.range M.mv.length) (StQ M xs kv none none none none none none fs) (by simp; omega) fun s hsr => by
      have hs := List.mem_range.mp hsr
      have e2 := lc_turnT (vs := [9]) (t := .nm 9) (ft := Ct0__law_are_alike_right) (fe := Ce0__law_are_alike_right) (fun k : Nat => PyData.int k) (fun t => isNone (lvD (bsP M xs M.mv.length (s, t)))) (fun k : Nat => PyData.int k) (List.range M.mv.length) (StQ M xs kv none none none (some (.val (.int s))) none none fs) (by simp; omega) fun t htr => by
        have ht := List.mem_range.mp htr
        have gk := hk s t hs ht
        have kt := keyT_P2 s t
        generalize lvD (bsP M xs M.mv.length (s, t)) = D at *
        cases hD : isNone D <;> simp [turnT, Ct0__law_are_alike_right, Ce0__law_are_alike_right, gND, kt, gk, zs, hD]
      rw [← lN_map, ← rangeD_lN, ← lN_map] at e2
      obtain ⟨l1, l2, l3⟩ := hC.1.least hs
      have iff : ∀ t, t < M.mv.length → (isNone (lvD (bsP M xs M.mv.length (s, t))) = true ↔ Alike M xs s t) := fun t ht => by
        rw [← bsP_alike h hs ht]
        cases bsP M xs M.mv.length (s, t) <;> simp [lvD, isNone]
      have hm : minI (castL ((List.range M.mv.length).filter fun t => isNone (lvD (bsP M xs M.mv.length (s, t))))) = some ((C.getD s 0 : Nat) : Int)   := minI_of' (List.mem_map.mpr ⟨_, List.mem_filter.mpr ⟨List.mem_range.mpr l1, (iff _ l1).mpr l2⟩, rfl⟩) fun y hy => by
        obtain ⟨t, ht, rfl⟩ := List.mem_map.mp hy
        obtain ⟨t1, t2⟩ := List.mem_filter.mp ht
        have := l3 t (List.mem_range.mp t1) ((iff t (List.mem_range.mp t1)).mp t2)
        exact Int.ofNat_le.mpr this
      generalize (List.range M.mv.length).filter (fun t => isNone (lvD (bsP M xs M.mv.length (s, t)))) = F at *
      have eF : lN F = (castL F).map .int := rfl
      rw [eF] at e2
      generalize castL F = G at *
      generalize C.getD s 0 = c at *
      unfold StQ at e2 ⊢
      simp [turnE, Ce1__law_are_alike_right, hro, plainAt, e2, hm]
    rw [← lN_map, ← rangeD_lN] at e
    have eC : (List.range M.mv.length).map (fun s => PyData.int (C.getD s 0 : Nat)) = lN C := by
      rw [lN_map]
      apply List.ext_getElem
      · simp [lC]
      · intro i h1 h2
        simp at h1
        have : i < C.length := by omega
        simp [this]
    rw [eC] at e
    unfold StQ at e ⊢
    generalize lN C = CC at *
    simp [Pr2, hro, plainAt, e]
  have same : ∀ fs, D__law_same [.val (.list [.tuple (lN C), .tuple (lN C)]), .val (.list [.tuple (lN C), .tuple (lN C)])] fs = some (.val (.bool true), fs) := fun fs => by
    have rc : Rp 1 100 (.tuple (lN C)) := (rp_tN (xs := C) (m := 6) (fun x hx => by
      obtain ⟨i, hi, rfl⟩ := List.getElem_of_mem hx
      have := hC.1.le i (by omega)
      simp [hi] at this
      omega) (by omega)).up (Nat.le_refl _) (by decide)
    refine d_same (rp_repr (Rp.lst (k := 1) (w := 100) (m := 2) (fun d hd => ?_) (by simp)) (by decide) (by decide)) fs
    simp only [List.mem_cons, List.not_mem_nil, or_false] at hd
    rcases hd with rfl | rfl
    · exact rc
    · exact rc
  have p3 : Pr3 (StQ M xs kv (some (.ownL (lN C))) none none none none none fs) = some (.nx (StQ M xs kv (some (.ownL (lN C))) (some (.ownL [.tuple (lN C), .tuple (lN C)])) none none none none fs)) := by
    generalize lN C = CC at *
    simp [Pr3, dc, pick, zs]
  have p4 : Pr4 (StQ M xs kv (some (.ownL (lN C))) (some (.ownL [.tuple (lN C), .tuple (lN C)])) none none none none fs) = some (.nx (StQ M xs kv (some (.ownL (lN C))) (some (.val (.list [.tuple (lN C), .tuple (lN C)]))) none none none none fs)) := by
    generalize lN C = CC at *
    simp [Pr4, same, zs, gTru]
  have p5 : ∃ s', Pr5 (StQ M xs kv (some (.ownL (lN C))) (some (.val (.list [.tuple (lN C), .tuple (lN C)]))) none none none none fs) = some (.nx s') := by
    obtain ⟨s', e, _⟩ := sFor_inv (t := .nm 7) (f := L0__law_are_alike_right) (fun d : PyData => d) (fun _ st => ∃ q6 q7 q8 q9 q10 fs, st = StQ M xs kv (some (.ownL (lN C))) q6 q7 q8 q9 q10 fs) (rangeD 0 4) 0 (StQ M xs kv (some (.ownL (lN C))) (some (.val (.list [.tuple (lN C), .tuple (lN C)]))) none none none none fs) (fun j x st hx' hs => by
      obtain ⟨q6, q7, q8, q9, q10, fs, rfl⟩ := hs
      obtain ⟨a, b, c, d, fs', e⟩ := alike_lap h hx hn6 hC hk (some (.ownL (lN C))) q6 (some (.val x)) q8 q9 q10 fs
      exact ⟨_, e, a, some (.val x), b, c, d, fs', rfl⟩) ⟨_, _, _, _, _, _, rfl⟩
    rw [List.map_id'] at e
    refine ⟨s', ?_⟩
    unfold StQ at e ⊢
    generalize lN C = CC at *
    simp [Pr5, hro4, e]
  obtain ⟨s', p5⟩ := p5
  refine ⟨s'.fs, ?_⟩
  have eB : B__law_are_alike_right ⟨[some .fd, some (.val (mD M)), some (.val (tS xs)), none, none, none, none, none, none, none, none], fs⟩ = Pr6 s' := by
    rw [Pr_eq, sSeq_nx p1, sSeq_nx p2, sSeq_nx p3, sSeq_nx p4, sSeq_nx p5]
  simp [D__law_are_alike_right, eB, Pr6]
end
end Q6

set_option Elab.async false
set_option linter.all false
set_option maxRecDepth 100000
set_option maxHeartbeats 2000000
/-! Q6run: the law's run. -/
namespace Q6
open PySem PySem.Spec PyProof.Rows L2 PD
def Pl1 : Sf := (sAsg (fCall D__law_box (aCons (fVar 1) aNil)) (.nm 3))
def Pl2 : Sf := (sIf (bNot (fTru (fFz (fCall D__law_are_rows_right (aCons (fVar 3) aNil))))) (sRet (fC (.val (.bool false)))) sNil)
def Pl3 : Sf := (sAsg (fUn (fFz (fLc [6] (wVal (fBin (f2n 3 (fC (.val (.int 1)))) gSub)) (.nm 6) Ct0_law Ce0_law)) gTupleOf) (.nm 4))
def Pl4 : Sf := (sForW (wVal (fLst (aCons (fVar 4) (aCons (fCall D__law_any (aCons (fVar 1) (aCons (fLst (aCons (fTup aNil) (aCons (fBin (f2n 3 (fC (.val (.int 1)))) gSub) (aCons (fBin (f2n 3 (fC (.val (.int 1)))) gSub) aNil)))) aNil))) aNil)))) (.nm 5) L0_law)
theorem Pl_eq : L1_law = sSeq Pl1 (sSeq Pl2 (sSeq Pl3 Pl4)) := rfl
section
variable {M : Mach}
abbrev StZ (q2 q3 q4 q5 q6 : Option Pl) (fs : FS) : DS := ⟨[none, some .fd, q2, q3, q4, q5, q6], fs⟩
theorem some_lc (q2 q3 q4 q5 : Option Pl) : ∀ (ks : List Str) (acc : List PyData) (fs : FS), acc.length + ks.length ≤ sizeLine →
    ∃ (ys : List Str) (fs' : FS), ys.Sublist ks ∧ lcLoop [6] (.nm 6) Ct0_law Ce0_law (ks.map PyData.str) acc (StZ q2 q3 q4 q5 none fs) = some (acc ++ ys.map .str, StZ q2 q3 q4 q5 none fs')
  | [], acc, fs, _ => ⟨[], fs, .slnil, by simp [lcLoop]⟩
  | x :: r, acc, fs, hl => by
    have hl' : acc.length + (r.length + 1) ≤ sizeLine := hl
    obtain ⟨k, fs1, e1, a1, a2⟩ := d_draw (n := 2) (by decide) (by decide) fs
    have z : acc.length < sizeLine := by omega
    by_cases c : k = 0
    · subst c
      obtain ⟨ys, fs', i1, i2⟩ := some_lc q2 q3 q4 q5 r (acc ++ [.str x]) fs1 (by simp; omega)
      refine ⟨x :: ys, fs', i1.cons_cons x, ?_⟩
      have e2 : acc ++ (x :: ys).map PyData.str = (acc ++ [.str x]) ++ ys.map .str := by simp
      rw [e2, ← i2]
      simp [lcLoop, Ct0_law, Ce0_law, e1, shaped_int, eqv_int, z, wipeE]
    · obtain ⟨ys, fs', i1, i2⟩ := some_lc q2 q3 q4 q5 r acc fs1 (by omega)
      refine ⟨ys, fs', i1.cons x, ?_⟩
      rw [← i2]
      simp [lcLoop, Ct0_law, Ce0_law, e1, shaped_int, eqv_int, c, wipeE]
theorem some_sub (h : M.Ok) {ys : List Str} (hy : ys.Sublist M.ks) : Some M ys :=
  ⟨⟨fun x hx => h.kn.all x (hy.subset hx), h.kn.asc.sublist hy, Nat.le_trans hy.length_le h.kn.len⟩, fun x hx => hy.subset hx⟩
theorem look_lap (h : M.Ok) (hn6 : M.mv.length ≤ 6) {xs : List Str} (hx : Some M xs) (q2 q4 q6 : Option Pl) (fs : FS) :
    ∃ fs', L0_law (StZ q2 (some (.val (mD M))) q4 (some (.val (tS xs))) q6 fs) = some (.nx (StZ q2 (some (.val (mD M))) q4 (some (.val (tS xs))) q6 fs')) := by
  obtain ⟨fs', e⟩ := d_are_alike_right h hx hn6 fs
  exact ⟨fs', by simp [L0_law, e, gTru]⟩
theorem lap_turn (q2 q3 q4 q5 q6 : Option Pl) (h6 : ∀ a, q6 = some a → a.own = false) (fs : FS) : ∃ q3' q4' q5' fs', L1_law (StZ q2 q3 q4 q5 q6 fs) = some (.nx (StZ q2 q3' q4' q5' q6 fs')) := by
  have hz := sizeLine_eq
  have zs2 : 2 ≤ sizeLine := by omega
  have zs3 : 3 ≤ sizeLine := by omega
  obtain ⟨M, f1, h, hn6, hl4, hk3, eb⟩ := d_box fs
  have er := fun fs => d_are_rows_right h fs
  have p1 : Pl1 (StZ q2 q3 q4 q5 q6 fs) = some (.nx (StZ q2 (some (.val (mD M))) q4 q5 q6 f1)) := by
    generalize mD M = m0 at *
    simp [Pl1, eb]
  have p2 : Pl2 (StZ q2 (some (.val (mD M))) q4 q5 q6 f1) = some (.nx (StZ q2 (some (.val (mD M))) q4 q5 q6 f1)) := by
    generalize mD M = m0 at *
    simp [Pl2, er, gTru]
  obtain ⟨ys, f2, hy, es⟩ := some_lc q2 (some (.val (mD M))) q4 q5 M.ks [] f1 (by simp; omega)
  have hp : plainAt [none, some Pl.fd, q2, some (.val (mD M)), q4, q5, q6] [6] = true := by
    cases q6 with
    | none => rfl
    | some a => simp [plainAt, h6 a rfl]
  have p3 : Pl3 (StZ q2 (some (.val (mD M))) q4 q5 q6 f1) = some (.nx (StZ q2 (some (.val (mD M))) (some (.val (tS ys))) q5 q6 f2)) := by
    rw [List.nil_append] at es
    unfold StZ at es ⊢
    simp only [mD] at hp es ⊢
    simp [Pl3, hp, es]
  obtain ⟨d, hd, f3, ea⟩ := d_any (ds := [.tuple [], tS M.ks, tS M.ks]) (by simp) (by simp) f2
  obtain ⟨zs, hzs, rfl⟩ : ∃ zs, Some M zs ∧ d = tS zs := by
    simp only [List.mem_cons, List.not_mem_nil, or_false] at hd
    rcases hd with rfl | rfl | rfl
    · exact ⟨[], some_sub h (List.nil_sublist _), rfl⟩
    · exact ⟨M.ks, some_sub h (List.Sublist.refl _), rfl⟩
    · exact ⟨M.ks, some_sub h (List.Sublist.refl _), rfl⟩
  have hys := some_sub h hy
  obtain ⟨f4, g1⟩ := look_lap h hn6 hys q2 (some (.val (tS ys))) q6 f3
  obtain ⟨f5, g2⟩ := look_lap h hn6 hzs q2 (some (.val (tS ys))) q6 f4
  have e2 : sFor (.nm 5) L0_law [tS ys, tS zs] (StZ q2 (some (.val (mD M))) (some (.val (tS ys))) q5 q6 f3) = some (.nx (StZ q2 (some (.val (mD M))) (some (.val (tS ys))) (some (.val (tS zs))) q6 f5)) := by
    have put : ∀ d q fs, (Tg.nm 5).put (.val d) (StZ q2 (some (.val (mD M))) (some (.val (tS ys))) q q6 fs) = some (StZ q2 (some (.val (mD M))) (some (.val (tS ys))) (some (.val d)) q6 fs) := fun _ _ _ => rfl
    rw [sFor_cons, put, Option.bind_some, g1]
    show sFor (.nm 5) L0_law [tS zs] _ = _
    rw [sFor_cons, put, Option.bind_some, g2]
    rfl
  have p4 : Pl4 (StZ q2 (some (.val (mD M))) (some (.val (tS ys))) q5 q6 f2) = some (.nx (StZ q2 (some (.val (mD M))) (some (.val (tS ys))) (some (.val (tS zs))) q6 f5)) := by
    have zs0 : 0 ≤ sizeLine := Nat.zero_le _
    unfold StZ at e2 ⊢
    simp only [mD] at e2 ⊢
    simp [Pl4, zs2, zs3, ea, e2]
  refine ⟨some (.val (mD M)), some (.val (tS ys)), some (.val (tS zs)), f5, ?_⟩
  rw [Pl_eq, sSeq_nx p1, sSeq_nx p2, sSeq_nx p3]
  exact p4
theorem law_run (fs : FS) : ∃ s', B_law ⟨none :: some .fd :: List.replicate 5 none, fs⟩ = some (.rt (.val (.bool true)) s') := by
  obtain ⟨s', e, _⟩ := sFor_inv (t := .nm 2) (f := L1_law) (fun n : Nat => .int (n : Int)) (fun i st => ∃ q2 q3 q4 q5 fs, st = StZ q2 q3 q4 q5 none fs) (List.range 2) 0
    (StZ none none none none none fs) (fun j x st hj hI => by
      obtain ⟨q2, q3, q4, q5, fs, rfl⟩ := hI
      obtain ⟨b3, b4, b5, f', e⟩ := lap_turn (some (.val (.int x))) q3 q4 q5 none (fun a e => nomatch e) fs
      exact ⟨_, e, _, b3, b4, b5, f', rfl⟩) ⟨_, _, _, _, fs, rfl⟩
  rw [← lN_map, ← rangeD_lN] at e
  have hr : rOk (2 : Int) = true := rfl
  refine ⟨s', ?_⟩
  simp [B_law, hr, e]
end
end Q6

set_option Elab.async false
set_option linter.all false
set_option maxRecDepth 100000
set_option maxHeartbeats 0
open PySem PySem.W PySem.Calls PyProof.Rows
theorem PySem.Challenge.cw_actasone_k06_whole_rows_and_alike_states_holds : PySem.Challenge.rw_actasone_k06_whole_rows_and_alike_states.Holds := by
  w_on; o_law
  refine HandSHeadRun.head_any (r := OpenLaw.row PySem.Challenge.rw_actasone_k06_whole_rows_and_alike_states) (q := view (OpenLaw.row PySem.Challenge.rw_actasone_k06_whole_rows_and_alike_states).prog [51]) (H := Q6.hk) (ob := Q6.ob) (M := 4000) (loose := Q6.loL) (d := HandSHeadRun.topDef (OpenLaw.row PySem.Challenge.rw_actasone_k06_whole_rows_and_alike_states).prog 51) (kwd := []) Q6.ob_eq
    (by kernel_rfl) (fun s => by kernel_rfl) Q6.run (by kernel_rfl) (by kernel_rfl) (by kernel_rfl) (by rfl) (by first | assumption | decide +kernel) (by decide +kernel) ⟨rfl, rfl, rfl, rfl, rfl, by decide +kernel⟩ ?hw ?hc
  case hw => w_witness2
  case hc =>
    refine Att.attach_call (n := 63) rfl (by kernel_rfl) fun w s₀ s₁ mg mb fa o pm cd doc a vs ns G Y ho hd hcd hmg hobj hints hlen hg => ?_
    obtain ⟨K, KX, c⟩ := Y
    have hm : mg ("law" : PySem.Str) = some (.ref fa) := by
      have e : (HandSHeadRun.topDef (OpenLaw.row PySem.Challenge.rw_actasone_k06_whole_rows_and_alike_states).prog 51).name = ("law" : PySem.Str) := by kernel_rfl
      rw [← e]
      exact hmg
    letI : PD.TheW := ⟨w⟩
    obtain ⟨fd, hb, hF⟩ := Q6.facts (P := (PySem.Challenge.rw_actasone_k06_whole_rows_and_alike_states).prog) (w := w) rfl KX G.T.g hm c Q6.law_run
    have inT : ∀ p ∈ Q6.tfL.map (He.cT K), ∃ q ∈ Q6.tfL, p = He.cT K q := fun p hp => by
      obtain ⟨q, h1, h2⟩ := List.mem_map.mp hp
      exact ⟨q, h1, h2.symm⟩
    refine PD.law_at (Q6.tfL.map (He.cT K)) KX G.T.g G.T.b G.T.builtins G.T.nolimit hg (fun p hp => ?_) (fun p hp => ?_) (fun p hp => ?_) G.T.bmain hobj hints (Nat.le_trans hlen (by decide +kernel)) fun base H kb gb hTB E hS tOk hH => ?_
    · obtain ⟨q, h1, rfl⟩ := inT p hp
      exact c.empty q h1
    · obtain ⟨q, h1, rfl⟩ := inT p hp
      exact c.out q h1
    · obtain ⟨q, h1, rfl⟩ := inT p hp
      exact c.hd q h1
    · have tok : PD.TOk H := fun b ps e => by
        rw [tOk b ps e]
        trivial
      have tbt : PD.TbAt (Q6.tbs K) H := fun P hP => by
        obtain ⟨q, h1, rfl⟩ := hP
        exact ⟨_, hH _ (List.mem_map.mpr ⟨q, h1, rfl⟩)⟩
      exact (hF base kb gb hTB).run PySem.callerA [] s₁ H ⟨[.ref a], []⟩ [.ref a] [.ref a] _ ⟨rfl, by decide, by decide⟩ rfl E (hb s₁ (.ref a)) (.cons rfl .nil) rfl ⟨a, ns, rfl, hS, hlen, tok, tbt, fun _ => rfl⟩
