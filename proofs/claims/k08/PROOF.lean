import PyProof.Rows.All
import Wide.All
import OpenK.AllK
import Wide.FinOn
import HandS.ForMost
import HandS.IsInst
import HandS.Deep
import HandS.TupAny
import HandS.TupMul
import HandS.Strs
import HandS.More
import KE.DatumIndex
import KE.DatumOrd
import HandS.Style
import HandS.Zip
import HandS.Comp
import PyProof.Rows.StrStep
import HandS.Iter
import KE.GoesMore
import KE.GoesEnum
import HandS.Words
import HandS.Dict
import HandS.Defaults
import HandS.HeadEnd
import HandS.Head0
import HandS.Head1
import HandS.Head2
import HandS.HeadHook1
import HandS.HeadHook2
import PySem.Challenge.RW_actasone_k08_whole_looks_that_move
set_option Elab.async false
set_option linter.all false
set_option maxRecDepth 100000
set_option maxHeartbeats 1000000
/-! PDa: data, slots, states; what stands for what. -/
namespace PD
open PySem PySem.Spec PyProof.Rows L2

/-- a tuple whose object is known to bear no dict of its own -/
def TupK (K : PySem.W.Frag) (G : Hp) (a : Addr) (xs : List V) : Prop :=
  (∃ o, G a = some (.frz o (.tup xs)) ∧ o.dict = none) ∨
    ∃ (o : Obj) (its : Array Value) (n : Nat), K.lookup a = some o ∧ o.cls = .type "tuple" ∧ o.dict = none ∧ o.data = .seq its n ∧ its.size ≤ sizeLine ∧ Vals xs its.toList
theorem TupK.sqt {K : PySem.W.Frag} {G : Hp} {a : Addr} {xs : List V} (h : TupK K G a xs) : SqT K G a xs := by
  rcases h with ⟨o, h, _⟩ | ⟨o, its, n, h1, h2, _, h4, h5, h6⟩
  · exact .inl (.inr ⟨o, h⟩)
  · exact .inr ⟨o, its, n, h1, h2, h4, h5, h6⟩
theorem TupK.mono {K : PySem.W.Frag} {G G' : Hp} {a : Addr} {xs : List V} (h : Same G G') (q : TupK K G a xs) : TupK K G' a xs := by
  rcases q with ⟨o, q, d⟩ | q
  · exact .inl ⟨o, h _ _ q, d⟩
  · exact .inr q
mutual
inductive Rp (K : PySem.W.Frag) (G : Hp) : V → PyData → Prop
  | non : Rp K G .non .none
  | bl (b : Bool) : Rp K G (.bl b) (.bool b)
  | int (i : Int) : Rp K G (.int i) (.int i)
  | str (x : Str) : Rp K G (.str x) (.str x)
  | lst {a : Addr} {xs : List V} {ds : List PyData} : G a = some (.lst xs) → RpAll K G xs ds → Rp K G (.ref a) (.list ds)
  | tup {a : Addr} {xs : List V} {ds : List PyData} : TupK K G a xs → RpAll K G xs ds → Rp K G (.ref a) (.tuple ds)
inductive RpAll (K : PySem.W.Frag) (G : Hp) : List V → List PyData → Prop
  | nil : RpAll K G [] []
  | cons {v : V} {vs : List V} {d : PyData} {ds : List PyData} : Rp K G v d → RpAll K G vs ds → RpAll K G (v :: vs) (d :: ds)
end

mutual
theorem Rp.mono {K : PySem.W.Frag} {G G' : Hp} (h : Same G G') : ∀ {v : V} {d : PyData}, Rp K G v d → Rp K G' v d
  | _, _, .non => .non
  | _, _, .bl b => .bl b
  | _, _, .int i => .int i
  | _, _, .str x => .str x
  | _, _, .lst q r => .lst (h _ _ q) (RpAll.mono h r)
  | _, _, .tup q r => .tup (q.mono h) (RpAll.mono h r)
theorem RpAll.mono {K : PySem.W.Frag} {G G' : Hp} (h : Same G G') : ∀ {vs : List V} {ds : List PyData}, RpAll K G vs ds → RpAll K G' vs ds
  | _, _, .nil => .nil
  | _, _, .cons q r => .cons (Rp.mono h q) (RpAll.mono h r)
end
mutual
theorem Rp.dp {K : PySem.W.Frag} {G : Hp} : ∀ {v : V} {d : PyData}, Rp K G v d → Dp K G v d
  | _, _, .non => .non
  | _, _, .bl b => .bl b
  | _, _, .int i => .int i
  | _, _, .str x => .str x
  | _, _, .lst q r => .lst (.inl (.inl q)) (RpAll.dp r)
  | _, _, .tup q r => .tup q.sqt (RpAll.dp r)
theorem RpAll.dp {K : PySem.W.Frag} {G : Hp} : ∀ {vs : List V} {ds : List PyData}, RpAll K G vs ds → DpAll K G vs ds
  | _, _, .nil => .nil
  | _, _, .cons q r => .cons (Rp.dp q) (RpAll.dp r)
end
theorem RpAll.length {K : PySem.W.Frag} {G : Hp} : ∀ {vs : List V} {ds : List PyData}, RpAll K G vs ds → vs.length = ds.length
  | _, _, .nil => rfl
  | _, _, .cons _ r => congrArg (· + 1) (RpAll.length r)
theorem RpAll.append {K : PySem.W.Frag} {G : Hp} : ∀ {vs ws : List V} {ds es : List PyData}, RpAll K G vs ds → RpAll K G ws es → RpAll K G (vs ++ ws) (ds ++ es)
  | _, _, _, _, .nil, s => s
  | _, _, _, _, .cons q r, s => .cons q (RpAll.append r s)
theorem RpAll.get {K : PySem.W.Frag} {G : Hp} : ∀ {vs : List V} {ds : List PyData} {i : Nat} {d : PyData}, RpAll K G vs ds → ds[i]? = some d → ∃ v, vs[i]? = some v ∧ Rp K G v d
  | _, _, _, _, .nil, e => by simp at e
  | _, _, 0, _, .cons q r, e => by simp at e; subst e; exact ⟨_, rfl, q⟩
  | _, _, i + 1, d, .cons q r, e => by
    obtain ⟨v, h1, h2⟩ := RpAll.get (i := i) r (by simpa using e)
    exact ⟨v, by simpa using h1, h2⟩
theorem RpAll.take {K : PySem.W.Frag} {G : Hp} : ∀ {vs : List V} {ds : List PyData} (n : Nat), RpAll K G vs ds → RpAll K G (vs.take n) (ds.take n)
  | _, _, 0, _ => by simp; exact .nil
  | _, _, _ + 1, .nil => .nil
  | _, _, n + 1, .cons q r => .cons q (RpAll.take n r)
theorem RpAll.drop {K : PySem.W.Frag} {G : Hp} : ∀ {vs : List V} {ds : List PyData} (n : Nat), RpAll K G vs ds → RpAll K G (vs.drop n) (ds.drop n)
  | _, _, 0, r => r
  | _, _, _ + 1, .nil => .nil
  | _, _, n + 1, .cons _ r => RpAll.drop n r
theorem RpAll.set {K : PySem.W.Frag} {G : Hp} {v : V} {d : PyData} (q : Rp K G v d) : ∀ {vs : List V} {ds : List PyData} (i : Nat), RpAll K G vs ds → RpAll K G (vs.set i v) (ds.set i d)
  | _, _, _, .nil => .nil
  | _, _, 0, .cons _ r => .cons q r
  | _, _, i + 1, .cons p r => .cons p (RpAll.set q i r)
theorem RpAll.eraseIdx {K : PySem.W.Frag} {G : Hp} : ∀ {vs : List V} {ds : List PyData} (i : Nat), RpAll K G vs ds → RpAll K G (vs.eraseIdx i) (ds.eraseIdx i)
  | _, _, _, .nil => .nil
  | _, _, 0, .cons _ r => r
  | _, _, i + 1, .cons p r => .cons p (RpAll.eraseIdx i r)
theorem RpAll.reverse {K : PySem.W.Frag} {G : Hp} : ∀ {vs : List V} {ds : List PyData}, RpAll K G vs ds → RpAll K G vs.reverse ds.reverse
  | _, _, .nil => .nil
  | _, _, .cons q r => by
    rw [List.reverse_cons, List.reverse_cons]
    exact RpAll.append (RpAll.reverse r) (.cons q .nil)
theorem RpAll.ints {K : PySem.W.Frag} {G : Hp} : ∀ {vs : List V} {ns : List Int}, RpAll K G vs (ns.map PyData.int) → vs = ns.map V.int
  | _, [], h => by cases h; rfl
  | _, n :: ns, h => by
    cases h with
    | cons q r => cases q; rw [RpAll.ints r]; rfl
theorem RpAll.of_ints {K : PySem.W.Frag} {G : Hp} : ∀ (ns : List Int), RpAll K G (ns.map V.int) (ns.map PyData.int)
  | [] => .nil
  | n :: ns => .cons (.int n) (RpAll.of_ints ns)
theorem RpAll.strs {K : PySem.W.Frag} {G : Hp} : ∀ {vs : List V} {ns : List Str}, RpAll K G vs (ns.map PyData.str) → vs = ns.map V.str
  | _, [], h => by cases h; rfl
  | _, n :: ns, h => by
    cases h with
    | cons q r => cases q; rw [RpAll.strs r]; rfl
theorem RpAll.of_strs {K : PySem.W.Frag} {G : Hp} : ∀ (ns : List Str), RpAll K G (ns.map V.str) (ns.map PyData.str)
  | [] => .nil
  | n :: ns => .cons (.str n) (RpAll.of_strs ns)
theorem RpAll.bools {K : PySem.W.Frag} {G : Hp} : ∀ {vs : List V} {ns : List Bool}, RpAll K G vs (ns.map PyData.bool) → vs = ns.map V.bl
  | _, [], h => by cases h; rfl
  | _, n :: ns, h => by
    cases h with
    | cons q r => cases q; rw [RpAll.bools r]; rfl

/-- the entries of a dict -/
def KVRp (K : PySem.W.Frag) (G : Hp) : List (Key × V) → List (Key × PyData) → Prop := Paired fun p q => p.1 = q.1 ∧ Rp K G p.2 q.2
theorem KVRp.mono {K : PySem.W.Frag} {G G' : Hp} (h : Same G G') : ∀ {a : List (Key × V)} {b : List (Key × PyData)}, KVRp K G a b → KVRp K G' a b
  | _, _, .nil => .nil
  | _, _, .cons q r => .cons ⟨q.1, q.2.mono h⟩ (KVRp.mono h r)

/-- the script's feed: cells, spot, rest, turn -/
structure FS where
  cells : List Int
  spot : Int
  rest : Int
  turn : Int

/-- what a name's place holds -/
inductive Pl where
  | val (d : PyData)
  | fd
  | dic (kvs : List (Key × PyData))
  | ownL (xs : List PyData)
  | ownK (kvs : List (Key × PyData))
def Pl.own : Pl → Bool
  | .ownL _ => true
  | .ownK _ => true
  | _ => false

def SRp (K : PySem.W.Frag) (fa : Addr) (H G : Hp) (v : V) : Pl → Prop
  | .val d => Rp K G v d
  | .fd => v = .ref fa
  | .dic kvs => ∃ p kv, v = .ref p ∧ G p = some (.dK kv) ∧ KVRp K G kv kvs
  | .ownL xs => ∃ p vs, v = .ref p ∧ H p = some (.lst vs) ∧ G p = none ∧ p ≠ fa ∧ RpAll K G vs xs
  | .ownK kvs => ∃ p kv, v = .ref p ∧ H p = some (.dK kv) ∧ G p = none ∧ p ≠ fa ∧ KVRp K G kv kvs

structure DS where
  env : List (Option Pl)
  fs : FS

/-- an own thing of a name's place stands there -/
def OwnAt (σ : L2.St) (s : DS) (b : Addr) : Prop := ∃ (i : Nat) (a : Pl), s.env[i]? = some (some a) ∧ a.own = true ∧ σ[i]? = some (some (.ref b))

def kCells : Key := .inr "cells"
def kSpot : Key := .inr "spot"
def kRest : Key := .inr "rest"
def kTurn : Key := .inr "turn"
/-- the feed's dict -/
def FeedAt (fa : Addr) (H G : Hp) (f : FS) : Prop :=
  ∃ c, H fa = some (.dK [(kCells, .ref c), (kSpot, .int f.spot), (kRest, .int f.rest), (kTurn, .int f.turn)]) ∧ G fa = none ∧ G c = some (.lst (f.cells.map V.int))

structure Gm where
  fa : Addr
  H0 : Hp
  G0 : Hp

structure Sta (K : PySem.W.Frag) (Γ : Gm) (σ : L2.St) (H G : Hp) (s : DS) : Prop where
  sub : Same G H
  g0 : Same Γ.G0 G
  fr : ∀ b, G b ≠ none → Γ.G0 b ≠ none ∨ Γ.H0 b = none
  keep : ∀ b o, b ≠ Γ.fa → Γ.H0 b = some o → H b = some o
  len : s.env.length = σ.length
  env : ∀ (i : Nat) (sl : Pl), s.env[i]? = some (some sl) → ∃ v, σ[i]? = some (some v) ∧ SRp K Γ.fa H G v sl
  dis : ∀ (i j : Nat) (a c : Pl) (v : V), s.env[i]? = some (some a) → s.env[j]? = some (some c) → a.own = true → c.own = true → σ[i]? = some (some v) → σ[j]? = some (some v) → i = j
  new : ∀ b, OwnAt σ s b → Γ.H0 b = none
  fd : FeedAt Γ.fa H G s.fs

/-- what an expression may do: G grows by what was new (or one's own), all but the feed and one's own stays -/
structure Stp (Γ : Gm) (σ : L2.St) (H G : Hp) (s : DS) (H' G' : Hp) (s' : DS) : Prop where
  gg : Same G G'
  keep : ∀ b o, b ≠ Γ.fa → ¬ OwnAt σ s b → H b = some o → H' b = some o
  own : ∀ b, OwnAt σ s' b → OwnAt σ s b
  nw : ∀ b, G' b ≠ none → G b ≠ none ∨ H b = none ∨ OwnAt σ s b
  mo : ∀ b, H b ≠ none → H' b ≠ none
theorem Stp.refl {Γ : Gm} {σ : L2.St} {H G : Hp} {s : DS} : Stp Γ σ H G s H G s :=
  ⟨Same.refl _, fun _ _ _ _ e => e, fun _ e => e, fun _ e => .inl e, fun _ e => e⟩
theorem Stp.trans {Γ : Gm} {σ : L2.St} {H G H1 G1 H2 G2 : Hp} {s s1 s2 : DS} (a : Stp Γ σ H G s H1 G1 s1) (b : Stp Γ σ H1 G1 s1 H2 G2 s2) : Stp Γ σ H G s H2 G2 s2 :=
  ⟨a.gg.trans b.gg, fun c o h1 h2 e => b.keep c o h1 (fun z => h2 (a.own c z)) (a.keep c o h1 h2 e), fun c e => a.own c (b.own c e),
    fun c e => by
      rcases b.nw c e with q | q | q
      · exact a.nw c q
      · refine .inr (.inl ?_)
        cases z : H c with
        | none => rfl
        | some o => exact absurd q (a.mo c (by rw [z]; simp))
      · exact .inr (.inr (a.own c q)),
    fun c e => b.mo c (a.mo c e)⟩

/-- a value that has come (Hs: the heap at the start): an own one is new -/
structure Got (K : PySem.W.Frag) (Γ : Gm) (Hs H G : Hp) (v : V) (r : Pl) : Prop where
  rp : SRp K Γ.fa H G v r
  ow : r.own = true → ∃ p, v = .ref p ∧ Hs p = none

abbrev Ef := DS → Option (Pl × DS)
/-- an expression as a function of data -/
def PEd (X : Cx) (Γ : Gm) (e : Expr) (f : Ef) : Prop :=
  ∃ t : TE, PE X e t ∧ ∀ (σ : L2.St) (H G : Hp) (s s' : DS) (r : Pl) (Q : VK), Sta X.K Γ σ H G s → f s = some (r, s') →
    (∀ v H' G', Sta X.K Γ σ H' G' s' → Stp Γ σ H G s H' G' s' → Got X.K Γ H H' G' v r → Q v H') → t σ H Q

end PD

set_option Elab.async false
set_option linter.all false
set_option maxRecDepth 100000
set_option maxHeartbeats 1000000
/-! PDb: freezing; views; the first expressions. -/
namespace PD
open PySem PySem.Spec PyProof.Rows L2
section
variable {K : PySem.W.Frag} {Γ : Gm} {σ : L2.St} {H G : Hp} {s : DS}

theorem same_upd' {H : Hp} {p : Addr} {o : HO} (h : H p = none) : Same H (upd H p o) := fun b x e => by
  rw [upd_ne (ne_of_none e h)]
  exact e
def fz : Pl → Pl
  | .ownL xs => .val (.list xs)
  | .ownK k => .dic k
  | s => s
@[simp] theorem fz_val (d : PyData) : fz (.val d) = .val d := rfl
@[simp] theorem fz_fd : fz .fd = .fd := rfl
@[simp] theorem fz_dic (k) : fz (.dic k) = .dic k := rfl
@[simp] theorem fz_ownL (xs) : fz (.ownL xs) = .val (.list xs) := rfl
@[simp] theorem fz_ownK (k) : fz (.ownK k) = .dic k := rfl
theorem fz_own (r : Pl) : (fz r).own = false := by cases r <;> rfl

theorem SRp.step {K : PySem.W.Frag} {fa : Addr} {H G H' G' : Hp} {v : V} {r : Pl} (a : SRp K fa H G v r) (hg : Same G G') (ho : r.own = true → ∀ p, v = .ref p → H' p = H p ∧ G' p = none) : SRp K fa H' G' v r := by
  cases r with
  | val d => exact Rp.mono hg a
  | fd => exact a
  | dic kvs => obtain ⟨p, kv, e, h, q⟩ := a; exact ⟨p, kv, e, hg _ _ h, q.mono hg⟩
  | ownL xs =>
    obtain ⟨p, vs, e, h, n, f, q⟩ := a
    obtain ⟨h1, h2⟩ := ho rfl p e
    exact ⟨p, vs, e, h1.trans h, h2, f, q.mono hg⟩
  | ownK kvs =>
    obtain ⟨p, kv, e, h, n, f, q⟩ := a
    obtain ⟨h1, h2⟩ := ho rfl p e
    exact ⟨p, kv, e, h1.trans h, h2, f, q.mono hg⟩

/-- an own thing: where it stands -/
theorem SRp.ownP {K : PySem.W.Frag} {fa : Addr} {H G : Hp} {v : V} {r : Pl} (a : SRp K fa H G v r) (h : r.own = true) :
    ∃ p o, v = .ref p ∧ H p = some o ∧ G p = none ∧ p ≠ fa ∧ (∀ G', Same G G' → G' p = some o → SRp K fa H G' v (fz r)) := by
  cases r with
  | val d => cases h
  | fd => cases h
  | dic kvs => cases h
  | ownL xs =>
    obtain ⟨p, vs, e, h, n, f, q⟩ := a
    exact ⟨p, _, e, h, n, f, fun G' hg hp => by rw [e]; exact .lst hp (q.mono hg)⟩
  | ownK kvs =>
    obtain ⟨p, kv, e, h, n, f, q⟩ := a
    exact ⟨p, _, e, h, n, f, fun G' hg hp => ⟨p, kv, e, hp, q.mono hg⟩⟩

/-- an own thing stands -/
theorem Sta.ownThere (S : Sta K Γ σ H G s) {b : Addr} (h : OwnAt σ s b) : (∃ o, H b = some o) ∧ G b = none ∧ b ≠ Γ.fa := by
  obtain ⟨i, a, h1, h2, h3⟩ := h
  obtain ⟨v, e1, e2⟩ := S.env i a h1
  obtain ⟨p, o, e3, e4, e5, e6, _⟩ := e2.ownP h2
  rw [e1] at h3
  cases h3
  cases e3
  exact ⟨⟨o, e4⟩, e5, e6⟩
theorem Sta.fresh0 (S : Sta K Γ σ H G s) {p : Addr} (h : H p = none) : Γ.H0 p = none := by
  by_cases z : p = Γ.fa
  · obtain ⟨c, h1, _⟩ := S.fd
    rw [z, h1] at h; cases h
  · cases q : Γ.H0 p with
    | none => rfl
    | some o => rw [S.keep p o z q] at h; cases h

/-- G grows by p, a thing that is new since the start -/
theorem Sta.adopt {H1 G1 : Hp} {s1 : DS} (S : Sta K Γ σ H G s) (S1 : Sta K Γ σ H1 G1 s1) (T : Stp Γ σ H G s H1 G1 s1) {p : Addr} {o : HO} (h : H p = none) (hp : H1 p = some o) (gp : G1 p = none) :
    Sta K Γ σ H1 (upd G1 p o) s1 ∧ Stp Γ σ H G s H1 (upd G1 p o) s1 := by
  have sg : Same G1 (upd G1 p o) := same_upd' gp
  have no : ¬ OwnAt σ s1 p := fun z => by
    obtain ⟨⟨o, q⟩, _⟩ := S.ownThere (T.own p z)
    rw [h] at q; cases q
  have pf : p ≠ Γ.fa := fun z => by
    obtain ⟨c, h1, _⟩ := S.fd
    rw [z, h1] at h; cases h
  refine ⟨⟨fun b x e => ?_, S1.g0.trans sg, fun b e => ?_, S1.keep, S1.len, fun i sl e => ?_, S1.dis, S1.new, ?_⟩, ⟨T.gg.trans sg, T.keep, T.own, fun b e => ?_, T.mo⟩⟩
  · by_cases z : b = p
    · rw [z, upd_same] at e; rw [z, hp]; exact e
    · rw [upd_ne z] at e; exact S1.sub _ _ e
  · by_cases z : b = p
    · exact .inr (by rw [z]; exact S.fresh0 h)
    · rw [upd_ne z] at e; exact S1.fr b e
  · obtain ⟨v, h1, h2⟩ := S1.env i sl e
    refine ⟨v, h1, h2.step sg fun ow q hq => ⟨rfl, ?_⟩⟩
    obtain ⟨q', o', e1, e2, e3, _⟩ := h2.ownP ow
    rw [hq] at e1
    cases e1
    rw [upd_ne (fun z => no ⟨i, sl, e, ow, by rw [h1, hq, z]⟩)]
    exact e3
  · obtain ⟨c, h1, h2, h3⟩ := S1.fd
    exact ⟨c, h1, by rw [upd_ne (Ne.symm pf)]; exact h2, sg _ _ h3⟩
  · by_cases z : b = p
    · rw [z]; exact .inr (.inl h)
    · rw [upd_ne z] at e; exact T.nw b e
/-- what has come is kept for good -/
theorem Sta.freeze {H1 G1 : Hp} {s1 : DS} {v : V} {r : Pl} (S : Sta K Γ σ H G s) (S1 : Sta K Γ σ H1 G1 s1) (T : Stp Γ σ H G s H1 G1 s1) (g : Got K Γ H H1 G1 v r) :
    ∃ G2, Sta K Γ σ H1 G2 s1 ∧ Stp Γ σ H G s H1 G2 s1 ∧ SRp K Γ.fa H1 G2 v (fz r) := by
  cases ho : r.own with
  | false =>
    refine ⟨G1, S1, T, ?_⟩
    cases r with
    | ownL xs => cases ho
    | ownK k => cases ho
    | val d => exact g.rp
    | fd => exact g.rp
    | dic k => exact g.rp
  | true =>
    obtain ⟨p, o, e1, e2, e3, e4, e5⟩ := g.rp.ownP ho
    obtain ⟨p', f1, f2⟩ := g.ow ho
    rw [e1] at f1
    cases f1
    obtain ⟨A, B⟩ := S.adopt S1 T f2 e2 e3
    exact ⟨_, A, B, e5 _ (same_upd' e3) upd_same⟩
/-- an own name's thing is kept for good -/
theorem Sta.freezeAt (S : Sta K Γ σ H G s) {i : Nat} {sl : Pl} (h : s.env[i]? = some (some sl)) (ho : sl.own = true) :
    ∃ G' v, σ[i]? = some (some v) ∧ Sta K Γ σ H G' ⟨s.env.set i (some (fz sl)), s.fs⟩ ∧ Stp Γ σ H G s H G' ⟨s.env.set i (some (fz sl)), s.fs⟩ ∧ SRp K Γ.fa H G' v (fz sl) := by
  obtain ⟨v, hv, hr⟩ := S.env i sl h
  obtain ⟨p, o, rfl, hp, gp, pf, hz⟩ := hr.ownP ho
  have sg : Same G (upd G p o) := same_upd' gp
  have hown : OwnAt σ s p := ⟨i, sl, h, ho, hv⟩
  have lt : i < s.env.length := (List.getElem?_eq_some_iff.mp h).1
  have old : ∀ (j : Nat) (a : Pl), (s.env.set i (some (fz sl)))[j]? = some (some a) → (j = i ∧ a = fz sl) ∨ (j ≠ i ∧ s.env[j]? = some (some a)) := fun j a e => by
    by_cases z : j = i
    · subst z
      rw [List.getElem?_set_self lt] at e
      cases e
      exact .inl ⟨rfl, rfl⟩
    · rw [List.getElem?_set_ne (Ne.symm z)] at e
      exact .inr ⟨z, e⟩
  have oldO : ∀ b, OwnAt σ ⟨s.env.set i (some (fz sl)), s.fs⟩ b → OwnAt σ s b := fun b ⟨j, a, e1, e2, e3⟩ => by
    rcases old j a e1 with ⟨_, rfl⟩ | ⟨_, e⟩
    · rw [fz_own] at e2; cases e2
    · exact ⟨j, a, e, e2, e3⟩
  refine ⟨upd G p o, .ref p, hv, ⟨fun b x e => ?_, S.g0.trans sg, fun b e => ?_, S.keep, by simpa using S.len, fun j a e => ?_, fun j k a c w e1 e2 e3 e4 => ?_, fun b e => S.new b (oldO b e), ?_⟩, ⟨sg, fun _ _ _ _ e => e, oldO, fun b e => ?_, fun _ e => e⟩, hz _ sg upd_same⟩
  · by_cases z : b = p
    · rw [z, upd_same] at e; rw [z, hp]; exact e
    · rw [upd_ne z] at e; exact S.sub _ _ e
  · by_cases z : b = p
    · exact .inr (by rw [z]; exact S.new p hown)
    · rw [upd_ne z] at e; exact S.fr b e
  · rcases old j a e with ⟨rfl, rfl⟩ | ⟨z, e⟩
    · exact ⟨_, hv, hz _ sg upd_same⟩
    · obtain ⟨w, h1, h2⟩ := S.env j a e
      refine ⟨w, h1, h2.step sg fun ow q hq => ⟨rfl, ?_⟩⟩
      obtain ⟨q', o', f1, f2, f3, _⟩ := h2.ownP ow
      rw [hq] at f1
      cases f1
      rw [upd_ne (fun y => z (S.dis j i a sl (.ref q) e h ow ho (by rw [h1, hq]) (by rw [hv, y])))]
      exact f3
  · rcases old j a e1 with ⟨_, rfl⟩ | ⟨_, f1⟩
    · rw [fz_own] at e3; cases e3
    · rcases old k c e2 with ⟨_, rfl⟩ | ⟨_, f2⟩
      · rw [fz_own] at e4; cases e4
      · exact S.dis j k a c w f1 f2 e3 e4
  · obtain ⟨c, h1, h2, h3⟩ := S.fd
    exact ⟨c, h1, by rw [upd_ne (Ne.symm pf)]; exact h2, sg _ _ h3⟩
  · by_cases z : b = p
    · rw [z]; exact .inr (.inr hown)
    · rw [upd_ne z] at e; exact .inl e

/-! ### views -/
/-- a value that shows data now, kept or own -/
def View (K : PySem.W.Frag) (fa : Addr) (H G : Hp) (v : V) : Pl → Prop
  | .val (.list ds) => ∃ p vs, v = .ref p ∧ H p = some (.lst vs) ∧ RpAll K G vs ds
  | .val d => Rp K G v d
  | .dic kvs => ∃ p kv, v = .ref p ∧ H p = some (.dK kv) ∧ KVRp K G kv kvs
  | .fd => v = .ref fa
  | _ => False
theorem View.of (sub : Same G H) {fa : Addr} {v : V} {r : Pl} (h : SRp K fa H G v r) : View K fa H G v (fz r) := by
  cases r with
  | val d =>
    cases d with
    | list ds =>
      cases h with
      | lst q r => exact ⟨_, _, rfl, sub _ _ q, r⟩
    | none => exact h
    | bool b => exact h
    | int i => exact h
    | str x => exact h
    | tuple ds => exact h
    | dict ds => exact h
  | fd => exact h
  | dic kvs => obtain ⟨p, kv, e, h, q⟩ := h; exact ⟨p, kv, e, sub _ _ h, q⟩
  | ownL xs => obtain ⟨p, vs, e, h, n, f, q⟩ := h; exact ⟨p, vs, e, h, q⟩
  | ownK kvs => obtain ⟨p, kv, e, h, n, f, q⟩ := h; exact ⟨p, kv, e, h, q⟩
theorem View.dp (sub : Same G H) {fa : Addr} {v : V} {d : PyData} (h : View K fa H G v (.val d)) : Dp K H v d := by
  cases d with
  | list ds => obtain ⟨p, vs, rfl, h, q⟩ := h; exact .lst (.inl (.inl h)) (q.mono sub).dp
  | none => exact (Rp.mono sub h).dp
  | bool b => exact (Rp.mono sub h).dp
  | int i => exact (Rp.mono sub h).dp
  | str x => exact (Rp.mono sub h).dp
  | tuple ds => exact (Rp.mono sub h).dp
  | dict ds => exact (Rp.mono sub h).dp

end

/-! ### operands -/
section
variable {X : Cx} {Γ : Gm}
/-- an expression's view -/
def P1d (X : Cx) (Γ : Gm) (e : Expr) (f : Ef) : Prop :=
  ∃ t : TE, PE X e t ∧ ∀ (σ : L2.St) (H G : Hp) (s s' : DS) (r : Pl) (Q : VK), Sta X.K Γ σ H G s → f s = some (r, s') →
    (∀ v H' G', Sta X.K Γ σ H' G' s' → Stp Γ σ H G s H' G' s' → View X.K Γ.fa H' G' v r → Q v H') → t σ H Q
/-- a name's place as it stands, frozen to look at -/
def fPeek (i : Nat) : Ef := fun s => match s.env[i]? with
  | some (some sl) => some (fz sl, s)
  | _ => none
/-- a name's place, kept for good -/
def fVar (i : Nat) : Ef := fun s => match s.env[i]? with
  | some (some (.ownL xs)) => some (.val (.list xs), ⟨s.env.set i (some (.val (.list xs))), s.fs⟩)
  | some (some (.ownK k)) => some (.dic k, ⟨s.env.set i (some (.dic k)), s.fs⟩)
  | some (some sl) => some (sl, s)
  | _ => none
def fFz (f : Ef) : Ef := fun s => (f s).map fun (r, s') => (fz r, s')
theorem pd_var {e : Expr} (i : Nat) (h : PE X e (tVar i)) : PEd X Γ e (fVar i) := by
  refine ⟨_, h, fun σ H G s s' r Q S hf hq => ?_⟩
  unfold fVar at hf
  cases he : s.env[i]? with
  | none => rw [he] at hf; cases hf
  | some o =>
    cases o with
    | none => rw [he] at hf; cases hf
    | some sl =>
      rw [he] at hf
      cases ho : sl.own with
      | false =>
        obtain ⟨v, h1, h2⟩ := S.env i sl he
        have hf2 : some (sl, s) = some (r, s') := by cases sl <;> first | exact hf | cases ho
        cases hf2
        exact ⟨v, h1, hq v H G S .refl ⟨h2, fun z => by rw [ho] at z; cases z⟩⟩
      | true =>
        obtain ⟨G', v, h1, h2, h3, h4⟩ := S.freezeAt he ho
        have hf2 : some (fz sl, (⟨s.env.set i (some (fz sl)), s.fs⟩ : DS)) = some (r, s') := by cases sl <;> first | exact hf | cases ho
        cases hf2
        exact ⟨v, h1, hq v H G' h2 h3 ⟨h4, fun z => by rw [fz_own] at z; cases z⟩⟩
theorem p1_n {e : Expr} (i : Nat) (h : PE X e (tVar i)) : P1d X Γ e (fPeek i) := by
  refine ⟨_, h, fun σ H G s s' r Q S hf hq => ?_⟩
  unfold fPeek at hf
  cases he : s.env[i]? with
  | none => rw [he] at hf; cases hf
  | some o =>
    cases o with
    | none => rw [he] at hf; cases hf
    | some sl =>
      rw [he] at hf
      cases hf
      obtain ⟨v, h1, h2⟩ := S.env i sl he
      exact ⟨v, h1, hq v H G S .refl (View.of S.sub h2)⟩
theorem p1_e {e : Expr} {f : Ef} (h : PEd X Γ e f) : P1d X Γ e (fFz f) := by
  obtain ⟨t, h, k⟩ := h
  refine ⟨t, h, fun σ H G s s' r Q S hf hq => ?_⟩
  unfold fFz at hf
  cases hs : f s with
  | none => rw [hs] at hf; cases hf
  | some q =>
    obtain ⟨r1, s1⟩ := q
    rw [hs] at hf
    cases hf
    exact k σ H G s _ r1 Q S hs fun v H' G' S' T g => hq v H' G' S' T (View.of S'.sub g.rp)

/-- two operands, from the left -/
def P2d (X : Cx) (Γ : Gm) (a b : Expr) (f : DS → Option (Pl × Pl × DS)) : Prop :=
  ∃ ta tb : TE, PE X a ta ∧ PE X b tb ∧ ∀ (σ : L2.St) (H G : Hp) (s s' : DS) (r1 r2 : Pl) (R : V → V → Hp → Prop), Sta X.K Γ σ H G s → f s = some (r1, r2, s') →
    (∀ v w H' G', Sta X.K Γ σ H' G' s' → Stp Γ σ H G s H' G' s' → View X.K Γ.fa H' G' v r1 → View X.K Γ.fa H' G' w r2 → R v w H') → ta σ H fun v H1 => tb σ H1 fun w H2 => R v w H2
def f2 (f g : Ef) : DS → Option (Pl × Pl × DS) := fun s => (f s).bind fun (a, s1) => (g s1).bind fun (b, s2) => some (fz a, fz b, s2)
/-- the first is a name: what it holds behind the second -/
def f2n (i : Nat) (g : Ef) : DS → Option (Pl × Pl × DS) := fun s => (fPeek i s).bind fun _ => (g s).bind fun (b, s2) => (fPeek i s2).bind fun (a, _) => some (a, fz b, s2)
def f2e (f : Ef) (j : Nat) : DS → Option (Pl × Pl × DS) := fun s => (f s).bind fun (a, s1) => (fPeek j s1).bind fun (b, _) => some (fz a, b, s1)
def f2nn (i j : Nat) : DS → Option (Pl × Pl × DS) := fun s => (fPeek i s).bind fun (a, _) => (fPeek j s).bind fun (b, _) => some (a, b, s)
theorem fPeek_some {i : Nat} {s s' : DS} {r : Pl} (h : fPeek i s = some (r, s')) : ∃ sl, s.env[i]? = some (some sl) ∧ r = fz sl ∧ s' = s := by
  unfold fPeek at h
  cases he : s.env[i]? with
  | none => rw [he] at h; cases h
  | some o =>
    cases o with
    | none => rw [he] at h; cases h
    | some sl => rw [he] at h; cases h; exact ⟨sl, rfl, rfl, rfl⟩
theorem View.mono {K : PySem.W.Frag} {fa : Addr} {H G H' G' : Hp} {v : V} {r : Pl} (h : SRp K fa H G v r) (n : r.own = false) (hg : Same G G') (sub : Same G' H') : View K fa H' G' v r := by
  cases r with
  | val d => exact View.of (r := .val d) sub (Rp.mono hg h)
  | fd => exact h
  | dic kvs => obtain ⟨p, kv, e, h, q⟩ := h; exact ⟨p, kv, e, sub _ _ (hg _ _ h), q.mono hg⟩
  | ownL xs => cases n
  | ownK kvs => cases n
theorem p2_ee {a b : Expr} {f g : Ef} (ha : PEd X Γ a f) (hb : PEd X Γ b g) : P2d X Γ a b (f2 f g) := by
  obtain ⟨ta, ha, ka⟩ := ha
  obtain ⟨tb, hb, kb⟩ := hb
  refine ⟨ta, tb, ha, hb, fun σ H G s s' r1 r2 R S hf hq => ?_⟩
  unfold f2 at hf
  cases h1 : f s with
  | none => rw [h1] at hf; cases hf
  | some q =>
    obtain ⟨x, s1⟩ := q
    rw [h1, Option.bind_some] at hf
    cases h2 : g s1 with
    | none => simp only [h2, Option.bind_none] at hf; cases hf
    | some q2 =>
      obtain ⟨y, s2⟩ := q2
      simp only [h2, Option.bind_some, Option.some.injEq, Prod.mk.injEq] at hf
      obtain ⟨rfl, rfl, rfl⟩ := hf
      refine ka σ H G s s1 x _ S h1 fun v H1 G1 S1 T1 g1 => ?_
      obtain ⟨G1', S1', T1', r1'⟩ := S.freeze S1 T1 g1
      refine kb σ H1 G1' s1 s2 y _ S1' h2 fun w H2 G2 S2 T2 g2 => ?_
      exact hq v w H2 G2 S2 (T1'.trans T2) (View.mono r1' (fz_own x) T2.gg S2.sub) (View.of S2.sub g2.rp)
theorem p2_ne {a b : Expr} {g : Ef} (i : Nat) (ha : PE X a (tVar i)) (hb : PEd X Γ b g) : P2d X Γ a b (f2n i g) := by
  obtain ⟨tb, hb, kb⟩ := hb
  refine ⟨_, tb, ha, hb, fun σ H G s s' r1 r2 R S hf hq => ?_⟩
  unfold f2n at hf
  cases h0 : fPeek i s with
  | none => rw [h0] at hf; cases hf
  | some q0 =>
    rw [h0, Option.bind_some] at hf
    obtain ⟨sl0, e0, _⟩ := fPeek_some h0
    obtain ⟨v, hv, _⟩ := S.env i sl0 e0
    cases h2 : g s with
    | none => rw [h2] at hf; cases hf
    | some q2 =>
      obtain ⟨y, s2⟩ := q2
      rw [h2, Option.bind_some] at hf
      cases h3 : fPeek i s2 with
      | none => simp only [h3, Option.bind_none] at hf; cases hf
      | some q3 =>
        obtain ⟨x, s3⟩ := q3
        simp only [h3, Option.bind_some, Option.some.injEq, Prod.mk.injEq] at hf
        obtain ⟨rfl, rfl, rfl⟩ := hf
        obtain ⟨sl, e1, rfl, _⟩ := fPeek_some h3
        refine ⟨v, hv, kb σ H G s s2 y _ S h2 fun w H2 G2 S2 T2 g2 => ?_⟩
        obtain ⟨v', hv', r'⟩ := S2.env i sl e1
        rw [hv] at hv'
        cases hv'
        exact hq v w H2 G2 S2 T2 (View.of S2.sub r') (View.of S2.sub g2.rp)
theorem p2_en {a b : Expr} {f : Ef} (j : Nat) (ha : PEd X Γ a f) (hb : PE X b (tVar j)) : P2d X Γ a b (f2e f j) := by
  obtain ⟨ta, ha, ka⟩ := ha
  refine ⟨ta, _, ha, hb, fun σ H G s s' r1 r2 R S hf hq => ?_⟩
  unfold f2e at hf
  cases h1 : f s with
  | none => rw [h1] at hf; cases hf
  | some q =>
    obtain ⟨x, s1⟩ := q
    rw [h1, Option.bind_some] at hf
    cases h3 : fPeek j s1 with
    | none => simp only [h3, Option.bind_none] at hf; cases hf
    | some q3 =>
      obtain ⟨y, s3⟩ := q3
      simp only [h3, Option.bind_some, Option.some.injEq, Prod.mk.injEq] at hf
      obtain ⟨rfl, rfl, rfl⟩ := hf
      obtain ⟨sl, e1, rfl, _⟩ := fPeek_some h3
      refine ka σ H G s s1 x _ S h1 fun v H1 G1 S1 T1 g1 => ?_
      obtain ⟨w, hw, rw'⟩ := S1.env j sl e1
      exact ⟨w, hw, hq v w H1 G1 S1 T1 (View.of S1.sub g1.rp) (View.of S1.sub rw')⟩
theorem p2_nn {a b : Expr} (i j : Nat) (ha : PE X a (tVar i)) (hb : PE X b (tVar j)) : P2d X Γ a b (f2nn i j) := by
  refine ⟨_, _, ha, hb, fun σ H G s s' r1 r2 R S hf hq => ?_⟩
  unfold f2nn at hf
  cases h1 : fPeek i s with
  | none => rw [h1] at hf; cases hf
  | some q =>
    obtain ⟨x, s1⟩ := q
    rw [h1, Option.bind_some] at hf
    cases h3 : fPeek j s with
    | none => simp only [h3, Option.bind_none] at hf; cases hf
    | some q3 =>
      obtain ⟨y, s3⟩ := q3
      simp only [h3, Option.bind_some, Option.some.injEq, Prod.mk.injEq] at hf
      obtain ⟨rfl, rfl, rfl⟩ := hf
      obtain ⟨sl, e1, rfl, _⟩ := fPeek_some h1
      obtain ⟨sl2, e2, rfl, _⟩ := fPeek_some h3
      obtain ⟨v, hv, rv⟩ := S.env i sl e1
      obtain ⟨w, hw, rw'⟩ := S.env j sl2 e2
      exact ⟨v, hv, w, hw, hq v w H G S .refl (View.of S.sub rv) (View.of S.sub rw')⟩

/-! ### operators by data -/
/-- what an operation does on data: r is its reading on values -/
def OpD (X : Cx) (r : R2) (g : Pl → Pl → Option Pl) : Prop :=
  ∀ (Γ : Gm) (σ : L2.St) (H G : Hp) (s : DS) (v w : V) (a b c : Pl) (Q : VK), Sta X.K Γ σ H G s → View X.K Γ.fa H G v a → View X.K Γ.fa H G w b → g a b = some c →
    (∀ u H' G', Sta X.K Γ σ H' G' s → Stp Γ σ H G s H' G' s → Got X.K Γ H H' G' u c → Q u H') → r v w H Q
def fBin (f : DS → Option (Pl × Pl × DS)) (g : Pl → Pl → Option Pl) : Ef := fun s => (f s).bind fun (a, b, s') => (g a b).map fun c => (c, s')
theorem Got.later {K : PySem.W.Frag} {Γ : Gm} {σ : L2.St} {Hs Gs H1 G1 H G : Hp} {s s1 : DS} {v : V} {r : Pl} (T : Stp Γ σ Hs Gs s H1 G1 s1) (g : Got K Γ H1 H G v r) : Got K Γ Hs H G v r :=
  ⟨g.rp, fun h => by
    obtain ⟨p, e, n⟩ := g.ow h
    refine ⟨p, e, ?_⟩
    cases z : Hs p with
    | none => rfl
    | some o => exact absurd n (T.mo p (by rw [z]; simp))⟩
theorem pd_tOp {a b : Expr} {f : DS → Option (Pl × Pl × DS)} {r : R2} {g : Pl → Pl → Option Pl} (h : P2d X Γ a b f) (ho : OpD X r g) :
    ∃ ta tb : TE, PE X a ta ∧ PE X b tb ∧ ∀ (σ : L2.St) (H G : Hp) (s s' : DS) (c : Pl) (Q : VK), Sta X.K Γ σ H G s → fBin f g s = some (c, s') →
      (∀ v H' G', Sta X.K Γ σ H' G' s' → Stp Γ σ H G s H' G' s' → Got X.K Γ H H' G' v c → Q v H') → tOp r ta tb σ H Q := by
  obtain ⟨ta, tb, ha, hb, k⟩ := h
  refine ⟨ta, tb, ha, hb, fun σ H G s s' c Q S hf hq => ?_⟩
  unfold fBin at hf
  cases h1 : f s with
  | none => rw [h1] at hf; cases hf
  | some q =>
    obtain ⟨x, y, s1⟩ := q
    rw [h1, Option.bind_some] at hf
    cases h2 : g x y with
    | none => simp only [h2, Option.map_none] at hf; cases hf
    | some z =>
      simp only [h2, Option.map_some, Option.some.injEq, Prod.mk.injEq] at hf
      obtain ⟨rfl, rfl⟩ := hf
      refine k σ H G s s1 x y _ S h1 fun v w H1 G1 S1 T1 v1 v2 => ?_
      exact ho Γ σ H1 G1 s1 v w x y z Q S1 v1 v2 h2 fun u H2 G2 S2 T2 g2 => hq u H2 G2 S2 (T1.trans T2) (g2.later T1)
theorem pd_op {a b : Expr} {op : Operator} {pos : Pos} {f : DS → Option (Pl × Pl × DS)} {r : R2} {g : Pl → Pl → Option Pl} (h : P2d X Γ a b f) (hr : OpR X (binaryOp op) r) (ho : OpD X r g) :
    PEd X Γ (.BinOp a op b pos) (fBin f g) := by
  obtain ⟨ta, tb, ha, hb, k⟩ := pd_tOp h ho
  exact ⟨_, pe_op hr ha hb, k⟩
theorem pd_cmp {a b : Expr} {op : CmpOp} {pos : Pos} {f : DS → Option (Pl × Pl × DS)} {r : R2} {g : Pl → Pl → Option Pl} (h : P2d X Γ a b f) (hr : OpR X (compareOp op) r) (ho : OpD X r g) (hm : behindInMarks op b = false) :
    PEd X Γ (.Compare a [op] [b] pos) (fBin f g) := by
  obtain ⟨ta, tb, ha, hb, k⟩ := pd_tOp h ho
  exact ⟨_, pe_cmpR hr ha hb hm, k⟩
theorem pd_ix {a b : Expr} {pos : Pos} {f : DS → Option (Pl × Pl × DS)} {r : R2} {g : Pl → Pl → Option Pl} (h : P2d X Γ a b f) (hr : IxR X r) (ho : OpD X r g) (hs : PlainIx b) :
    PEd X Γ (.Subscript a b pos) (fBin f g) := by
  obtain ⟨ta, tb, ha, hb, k⟩ := pd_tOp h ho
  exact ⟨_, pe_ix hr ha hb hs, k⟩

/-! ### constants -/
def fC (r : Pl) : Ef := fun s => some (r, s)
theorem pd_c {e : Expr} {v : V} {r : Pl} (h : PE X e (tC v)) (hr : ∀ H G, SRp X.K Γ.fa H G v r) (ho : r.own = false) : PEd X Γ e (fC r) := by
  refine ⟨_, h, fun σ H G s s' r' Q S hf hq => ?_⟩
  cases hf
  exact hq v H G S .refl ⟨hr H G, fun z => by rw [ho] at z; cases z⟩
theorem pd_int {i : Int} {j pos} : PEd X Γ (.Constant (.int i) j pos) (fC (.val (.int i))) := pd_c pe_int (fun _ _ => .int i) rfl
theorem pd_bl {b : Bool} {j pos} : PEd X Γ (.Constant (.bool b) j pos) (fC (.val (.bool b))) := pd_c pe_bl (fun _ _ => .bl b) rfl
theorem pd_non {j pos} : PEd X Γ (.Constant .none j pos) (fC (.val .none)) := pd_c pe_non (fun _ _ => .non) rfl
theorem pd_str {x : Str} {j pos} : PEd X Γ (.Constant (.str x) j pos) (fC (.val (.str x))) := pd_c pe_str (fun _ _ => .str x) rfl
end
end PD

set_option Elab.async false
set_option linter.all false
set_option maxRecDepth 100000
set_option maxHeartbeats 1000000
/-! PDt: tuples whose objects are known: display, tuple(x), +, slices, *; their methods. -/
namespace PD
open PySem PySem.Spec PyProof.Rows L2
/-- a new tuple -/
def NT (xs : List V) (H : Hp) (Q : VK) : Prop := ∀ p o, H p = none → o.dict = none → Q (.ref p) (upd H p (.frz o (.tup xs)))
section
variable {X : Cx}
theorem laidT {pins : List (Addr × Obj)} {σ : L2.St} {H : Hp} {s : Shared} {xs : List V} {its : List Value} {tk : Nat} {Q : VK} (I : Inv X pins σ H s) (hz : xs.length ≤ sizeLine) (r : Vals xs its) (h : NT xs H Q) :
    EP X pins σ Q (.ref s.heap.objs.size) { s with heap := s.heap.push { cls := .type "tuple", data := .seq its.toArray }, toks := tk } := by
  refine ⟨.ref s.heap.objs.size, _, I.laid (t' := tk) (o := .frz { cls := .type "tuple", data := .seq its.toArray } (.tup xs)) (fun b ob q => Heap.get?_push_of_some _ q) (Nat.le_refl _) ⟨Heap.get?_push_size _ rfl, hz, its, r, IsTup.new _ _⟩, rfl, h _ _ (I.hok.fresh (Nat.le_refl _)) rfl⟩
def tTupF (t : TA) : TE := fun σ H Q => t σ H fun xs H1 => xs.length ≤ sizeLine ∧ NT xs H1 Q
theorem pe_tupF {es : List Expr} {t : TA} {x1 pos} (h : PA X es t) : PE X (.Tuple es x1 pos) (tTupF t) := by
  refine ⟨fun pins s σ H Q I hq => ?_⟩
  exact wpAny_Tuple_spliced (thn (h.run pos pins s σ H _ I hq) fun us s1 ⟨xs, H1, I1, r, z, q⟩ => ⟨by rw [← r.length]; exact z, laidT (tk := s1.toks) I1 z r q⟩)
theorem call_tuple_ofF : CallR X (.type "tuple") (fun xs H Q => ∃ p ys, xs = [.ref p] ∧ ((SqL X.K H p ys ∧ NT ys H Q) ∨ (SqT X.K H p ys ∧ Q (.ref p) H))) := by
  intro pins s σ H xs us Q I r h
  obtain ⟨p, ys, rfl, h⟩ := h
  obtain ⟨u, rfl, rx⟩ := vals1 r
  cases rx
  rcases h with ⟨hq, q⟩ | ⟨hq, q⟩
  · obtain ⟨its, r', pl, hz⟩ := I.list hq
    have hlen := r'.length
    refine call_tuple_list pl.isList (fun h' kp => ?_) (by simp only [List.size_toArray] <;> omega)
    have I1 : Inv X pins σ H { s with heap := h' } := I.kept (t' := s.toks) kp
    exact laidT (tk := s.toks) I1 hz r' q
  · exact call_tuple_of pins s σ H [.ref p] [.ref p] Q I (.cons rfl .nil) ⟨p, ys, rfl, .inr ⟨hq, q⟩⟩
def rCatF (K : PySem.W.Frag) : R2 := fun x y H Q => ∃ a b xs ys, x = .ref a ∧ y = .ref b ∧ SqT K H a xs ∧ SqT K H b ys ∧ xs.length + ys.length ≤ sizeLine ∧
  (xs = [] → Q (.ref b) H) ∧ (xs ≠ [] → ys = [] → Q (.ref a) H) ∧ (xs ≠ [] → ys ≠ [] → NT (xs ++ ys) H Q)
theorem op_catF : OpR X (binaryOp .Add) (rCatF X.K) := by
  intro pins s σ H x y v u Q I rx ry h
  obtain ⟨a, b, xs, ys, rfl, rfl, ha, hb, hz, q0, q1, q2⟩ := h
  cases rx
  cases ry
  obtain ⟨its, r1, p1, _⟩ := I.tuple ha
  obtain ⟨its2, r2, p2, _⟩ := I.tuple hb
  by_cases hx : xs = []
  · subst hx
    cases r1
    exact cat_tup0 p1 p2 ⟨.ref b, H, I, rfl, q0 rfl⟩
  · refine HT.cat_tup p1 p2 (fun z => hx (r1.nil_iff.mp z)) (fun z => ⟨.ref a, H, I, rfl, q1 hx (r2.nil_iff.mp z)⟩) (fun z => ?_) (by rw [← r1.length, ← r2.length]; exact hz)
    exact laidT (tk := s.toks) I (by rw [List.length_append]; exact hz) (r1.append r2) (q2 hx fun w => z (r2.nil_iff.mpr w))
def rSlF (K : PySem.W.Frag) : V → Option Int → Option Int → Hp → VK → Prop := fun x lo hi H Q => ∃ a xs, x = .ref a ∧ SqT K H a xs ∧
  (HT.sIx xs.length 0 lo = 0 ∧ HT.sIx xs.length xs.length hi = xs.length → Q (.ref a) H) ∧ (¬ (HT.sIx xs.length 0 lo = 0 ∧ HT.sIx xs.length xs.length hi = xs.length) → NT (cutV xs lo hi) H Q)
theorem sl_tupF : SlR X (rSlF X.K) := by
  intro pins s σ H x v vl vu lo hi sl Q I rx hs pl pu h
  obtain ⟨a, xs, rfl, hx, q1, q2⟩ := h
  cases rx
  obtain ⟨its, r, ht, hz⟩ := I.tuple hx
  have hlen : its.toArray.size = xs.length := by rw [List.size_toArray]; exact r.length.symm
  refine ⟨"tuple", _, PyProof.Rows.slot_tuple_getitem.lookup, ht.typeIs, ?_⟩
  by_cases hw : HT.sIx xs.length 0 lo = 0 ∧ HT.sIx xs.length xs.length hi = xs.length
  · exact getItem_tuple_whole ht hs pl pu (by rw [hlen]; exact hw) ⟨.ref a, H, I, rfl, q1 hw⟩
  · refine HT.getItem_tuple_cut ht hs pl pu (by rw [hlen]; exact hw) ?_ (by rw [hlen]; exact hz)
    rw [hlen]
    exact laidT (tk := s.toks) I (Nat.le_trans (cutV_length xs lo hi) hz) ((r.drop (HT.sIx xs.length 0 lo)).take (HT.sIx xs.length xs.length hi - HT.sIx xs.length 0 lo)) (q2 hw)

/-! ### a tuple's method -/
def tTM (K : PySem.W.Frag) (r : V → List V → Hp → VK → Prop) (to : TE) (t : TA) : TE := fun σ H Q => to σ H fun x H1 => (∃ a xs, x = .ref a ∧ TupK K H1 a xs) ∧ t σ H1 fun ys H2 => r x ys H2 Q
theorem TupK.plain {pins : List (Addr × Obj)} {σ : L2.St} {H : Hp} {s : Shared} {a : Addr} {xs : List V} (I : Inv X pins σ H s) (h : TupK X.K H a xs) : s.TypeIs (.ref a) "tuple" ∧ ∃ ob, s.heap.get? a = some ob ∧ ob.dict = none := by
  rcases h with ⟨o, h, d⟩ | ⟨o, its, n, h1, h2, h3, _⟩
  · obtain ⟨e, z, its, r, ob, e2, c, _⟩ := I.hok a _ h
    rw [e] at e2
    cases e2
    exact ⟨⟨o, e, c⟩, o, e, d⟩
  · exact ⟨⟨o, I.kIn _ _ h1, h2⟩, o, I.kIn _ _ h1, h3⟩
variable {o e : Expr} {es : List Expr} {to : TE} {t : TA} {name : Str} {apos cpos : Pos} {id : String} {r : V → List V → Hp → VK → Prop}
theorem pe_tm (slot : Slot "tuple" name id) (hty : typeOf (.builtin id) = pure (.type "method_descriptor")) (hm : MtR X id r) (ho : PE X o to) (ha : PA X (e :: es) t)
    (hbase : attributeBase o name X.env (eval o X.env) = eval o X.env := by rfl)
    (hfew : ((backTo cpos (starEach (e :: es) X.env)).all (fun x => !x.1) && (backToKw cpos (keywordEach [] X.env)).all (fun x => x.1.isSome)
      && decide ((e :: es).length + ([] : List Keyword).length + (if ([] : List Keyword).isEmpty then 0 else 1) < 30)) = true := by rfl)
    (hline : (apos.endLine == cpos.line) = true := by rfl) (hs : starEach (e :: es) X.env = (false, eval e X.env) :: starEach es X.env := by rfl) (hplain : (backTo cpos (starEach es X.env)).any (·.1) = false := by rfl) :
    PE X (.Call (.Attribute o name apos) (e :: es) [] cpos) (tTM X.K r to t) := by
  refine ⟨fun pins s σ H Q I h => ?_⟩
  refine wpAny_Call_method_late hbase hfew hline rfl (thn (ho.run pins s σ H _ I h) fun v s1 ⟨x, H1, I1, r1, ty, q1⟩ => ?_)
  obtain ⟨a, xs, rfl, ty⟩ := ty
  cases r1
  obtain ⟨h1, ob, h2, h3⟩ := ty.plain I1
  refine ⟨"tuple", id, PySem.F.plainAttrs_tuple, slot, hty, h1, fun b eb => (by cases eb; exact ⟨ob, h2, h3⟩), ?_⟩
  have hA := ha.run cpos pins s1 σ H1 _ I1 q1
  rw [hs] at hA ⊢
  refine Calls.callWith_builtin (by show (false || (backTo cpos (starEach es X.env)).any (·.1)) = false; rw [hplain] <;> rfl) (Calls.evalArgs_plain ?_)
  exact thn hA fun us s2 ⟨vs, H2, I2, r2, q2⟩ => hm pins s2 σ H2 (.ref a) vs (.ref a) us Q I2 rfl r2 q2
end
end PD

set_option Elab.async false
set_option linter.all false
set_option maxRecDepth 100000
set_option maxHeartbeats 1000000
/-! PDc: new objects; operators on data. -/
namespace PD
open PySem PySem.Spec PyProof.Rows L2
section
variable {K : PySem.W.Frag} {Γ : Gm} {σ : L2.St} {H G : Hp} {s : DS}
/-- a new object is laid, not (yet) kept -/
theorem Sta.alloc (S : Sta K Γ σ H G s) {p : Addr} {o : HO} (h : H p = none) : Sta K Γ σ (upd H p o) G s ∧ Stp Γ σ H G s (upd H p o) G s := by
  have sg : Same H (upd H p o) := same_upd' h
  have pf : p ≠ Γ.fa := fun z => by
    obtain ⟨c, h1, _⟩ := S.fd
    rw [z, h1] at h; cases h
  refine ⟨⟨S.sub.trans sg, S.g0, S.fr, fun b x h1 h2 => sg _ _ (S.keep b x h1 h2), S.len, fun i sl e => ?_, S.dis, S.new, ?_⟩, ⟨Same.refl _, fun b x _ _ e => sg _ _ e, fun _ e => e, fun b e => .inl e, fun b e => ?_⟩⟩
  · obtain ⟨v, h1, h2⟩ := S.env i sl e
    refine ⟨v, h1, h2.step (Same.refl _) fun ow q hq => ?_⟩
    obtain ⟨q', o', e1, e2, e3, _⟩ := h2.ownP ow
    rw [hq] at e1
    cases e1
    exact ⟨upd_ne (ne_of_none e2 h), e3⟩
  · obtain ⟨c, h1, h2, h3⟩ := S.fd
    exact ⟨c, by rw [upd_ne (Ne.symm pf)]; exact h1, h2, h3⟩
  · cases q : H b with
    | none => exact absurd q e
    | some x => rw [sg _ _ q]; simp
/-- a new object is laid and kept -/
theorem Sta.allocG (S : Sta K Γ σ H G s) {p : Addr} {o : HO} (h : H p = none) : Sta K Γ σ (upd H p o) (upd G p o) s ∧ Stp Γ σ H G s (upd H p o) (upd G p o) s := by
  obtain ⟨A, B⟩ := S.alloc (o := o) h
  have gp : G p = none := by
    cases q : G p with
    | none => rfl
    | some x => rw [S.sub _ _ q] at h; cases h
  exact S.adopt A B h upd_same gp
theorem Got.new {fa : Addr} {v : V} {d : PyData} {Hs : Hp} (h : Rp K G v d) : Got K Γ Hs H G v (.val d) := ⟨h, fun z => nomatch z⟩
end

section
variable {X : Cx}
def gOr (g g' : Pl → Pl → Option Pl) (a b : Pl) : Option Pl := match g a b with
  | some x => some x
  | none => g' a b
theorem OpD.or {r r' : R2} {g g' : Pl → Pl → Option Pl} (h : OpD X r g) (h' : OpD X r' g') : OpD X (fun x y H Q => r x y H Q ∨ r' x y H Q) (gOr g g') := by
  intro Γ σ H G s v w a b c Q S v1 v2 hg hq
  unfold gOr at hg
  cases e : g a b with
  | none =>
    rw [e] at hg
    exact .inr (h' Γ σ H G s v w a b c Q S v1 v2 hg hq)
  | some x =>
    rw [e] at hg
    cases hg
    exact .inl (h Γ σ H G s v w a b _ Q S v1 v2 e hq)
/-- two ints -/
def gI (C : Int → Int → Bool) (f : Int → Int → PyData) : Pl → Pl → Option Pl
  | .val (.int a), .val (.int b) => if C a b then some (.val (f a b)) else none
  | _, _ => none
theorem od_I {C : Int → Int → Prop} {c : Int → Int → Bool} {f : Int → Int → PyData} {g : Int → Int → V} (hc : ∀ i j, c i j = true → C i j) (hf : ∀ i j K G, Rp K G (g i j) (f i j)) : OpD X (rI C g) (gI c f) := by
  intro Γ σ H G s v w a b r Q S v1 v2 hg hq
  unfold gI at hg
  split at hg
  · rename_i x y
    have e1 : Rp X.K G v (.int x) := v1
    have e2 : Rp X.K G w (.int y) := v2
    cases e1
    cases e2
    by_cases hx : c x y = true
    · rw [if_pos hx] at hg
      cases hg
      exact ⟨x, y, rfl, rfl, hc x y hx, hq _ H G S .refl ⟨hf x y _ _, fun z => nomatch z⟩⟩
    · rw [if_neg hx] at hg; cases hg
  · cases hg
theorem od_I0 {f : Int → Int → PyData} {g : Int → Int → V} (hf : ∀ i j K G, Rp K G (g i j) (f i j)) : OpD X (rI0 g) (gI (fun _ _ => true) f) := by
  intro Γ σ H G s v w a b r Q S v1 v2 hg hq
  obtain ⟨i, j, e1, e2, _, q⟩ := od_I (C := fun _ _ => True) (fun _ _ _ => trivial) hf Γ σ H G s v w a b r Q S v1 v2 hg hq
  exact ⟨i, j, e1, e2, q⟩
/-- two texts -/
def gS (C : Str → Str → Bool) (f : Str → Str → PyData) : Pl → Pl → Option Pl
  | .val (.str a), .val (.str b) => if C a b then some (.val (f a b)) else none
  | _, _ => none
theorem od_S {C : Str → Str → Prop} {c : Str → Str → Bool} {f : Str → Str → PyData} {g : Str → Str → V} (hc : ∀ i j, c i j = true → C i j) (hf : ∀ i j K G, Rp K G (g i j) (f i j)) :
    OpD X (fun x y H Q => ∃ i j, x = .str i ∧ y = .str j ∧ C i j ∧ Q (g i j) H) (gS c f) := by
  intro Γ σ H G s v w a b r Q S v1 v2 hg hq
  unfold gS at hg
  split at hg
  · rename_i x y
    have e1 : Rp X.K G v (.str x) := v1
    have e2 : Rp X.K G w (.str y) := v2
    cases e1
    cases e2
    by_cases hx : c x y = true
    · rw [if_pos hx] at hg
      cases hg
      exact ⟨x, y, rfl, rfl, hc x y hx, hq _ H G S .refl ⟨hf x y _ _, fun z => nomatch z⟩⟩
    · rw [if_neg hx] at hg; cases hg
  · cases hg
theorem od_S0 {f : Str → Str → PyData} {g : Str → Str → V} (hf : ∀ i j K G, Rp K G (g i j) (f i j)) : OpD X (fun x y H Q => ∃ i j, x = .str i ∧ y = .str j ∧ Q (g i j) H) (gS (fun _ _ => true) f) := by
  intro Γ σ H G s v w a b r Q S v1 v2 hg hq
  obtain ⟨i, j, e1, e2, _, q⟩ := od_S (C := fun _ _ => True) (fun _ _ _ => trivial) hf Γ σ H G s v w a b r Q S v1 v2 hg hq
  exact ⟨i, j, e1, e2, q⟩
/-- lists and tuples joined -/
def gCatL : Pl → Pl → Option Pl
  | .val (.list a), .val (.list b) => if a.length + b.length ≤ sizeLine then some (.ownL (a ++ b)) else none
  | _, _ => none
theorem od_cat : OpD X rCat gCatL := by
  intro Γ σ H G s v w a b r Q S v1 v2 hg hq
  unfold gCatL at hg
  split at hg
  · rename_i x y
    obtain ⟨p, vs, rfl, h1, q1⟩ := v1
    obtain ⟨p', ws, rfl, h2, q2⟩ := v2
    by_cases hx : x.length + y.length ≤ sizeLine
    · rw [if_pos hx] at hg
      cases hg
      refine ⟨p, p', vs, ws, rfl, rfl, h1, h2, by rw [q1.length, q2.length]; exact hx, fun n hn => ?_⟩
      obtain ⟨A, B⟩ := S.alloc (o := .lst (vs ++ ws)) hn
      have gp : G n = none := by
        cases q : G n with
        | none => rfl
        | some x => rw [S.sub _ _ q] at hn; cases hn
      have pf : n ≠ Γ.fa := fun z => by
        obtain ⟨c, h1, _⟩ := S.fd
        rw [z, h1] at hn; cases hn
      exact hq _ _ G A B ⟨⟨n, _, rfl, upd_same, gp, pf, q1.append q2⟩, fun _ => ⟨n, rfl, hn⟩⟩
    · rw [if_neg hx] at hg; cases hg
  · cases hg
def gCatT : Pl → Pl → Option Pl
  | .val (.tuple a), .val (.tuple b) => if a.length + b.length ≤ sizeLine then some (.val (.tuple (a ++ b))) else none
  | _, _ => none
theorem Rp.tupI {K : PySem.W.Frag} {G : Hp} {v : V} {ds : List PyData} (h : Rp K G v (.tuple ds)) : ∃ p vs, v = .ref p ∧ TupK K G p vs ∧ RpAll K G vs ds := by
  cases h with
  | tup q r => exact ⟨_, _, rfl, q, r⟩
theorem RpAll.nilI {K : PySem.W.Frag} {G : Hp} {vs : List V} {ds : List PyData} (h : RpAll K G vs ds) : vs = [] ↔ ds = [] := by
  cases h with
  | nil => simp
  | cons q r => simp
theorem od_catT : OpD X (rCatF X.K) gCatT := by
  intro Γ σ H G s v w a b r Q S v1 v2 hg hq
  unfold gCatT at hg
  split at hg
  · rename_i x y
    obtain ⟨p, vs, rfl, h1, q1⟩ := Rp.tupI v1
    obtain ⟨p', ws, rfl, h2, q2⟩ := Rp.tupI v2
    by_cases hx : x.length + y.length ≤ sizeLine
    · rw [if_pos hx] at hg
      cases hg
      refine ⟨p, p', vs, ws, rfl, rfl, (h1.mono S.sub).sqt, (h2.mono S.sub).sqt, by rw [q1.length, q2.length]; exact hx, fun e => ?_, fun _ e => ?_, fun _ _ n ob hn hob => ?_⟩
      · have e' := q1.nilI.mp e
        subst e'
        exact hq _ H G S .refl (.new (fa := Γ.fa) (show Rp X.K G _ (.tuple ([] ++ y)) from v2))
      · have e' := q2.nilI.mp e
        subst e'
        exact hq _ H G S .refl (.new (fa := Γ.fa) (by rw [List.append_nil]; exact v1))
      · obtain ⟨A, B⟩ := S.allocG (o := .frz ob (.tup (vs ++ ws))) hn
        exact hq _ _ _ A B (.new (fa := Γ.fa) (.tup (.inl ⟨ob, upd_same, hob⟩) ((q1.append q2).mono B.gg)))
    · rw [if_neg hx] at hg; cases hg
  · cases hg

/-! ### equality, membership -/
def gEq (neg : Bool) : Pl → Pl → Option Pl
  | .val a, .val b => if SeqAt.shaped a && SeqAt.shaped b then some (.val (.bool (if neg then !PyData.eqv a b else PyData.eqv a b))) else none
  | _, _ => none
theorem od_eqD : OpD X (rEqD X.K) (gEq false) := by
  intro Γ σ H G s v w a b r Q S v1 v2 hg hq
  unfold gEq at hg
  split at hg
  · rename_i x y
    by_cases hx : (SeqAt.shaped x && SeqAt.shaped y) = true
    · rw [if_pos hx] at hg
      cases hg
      obtain ⟨s1, s2⟩ := Bool.and_eq_true_iff.mp hx
      exact ⟨x, y, v1.dp S.sub, v2.dp S.sub, s1, s2, hq _ H G S .refl (.new (fa := Γ.fa) (.bl _))⟩
    · rw [if_neg hx] at hg; cases hg
  · cases hg
theorem od_neD : OpD X (rNeD X.K) (gEq true) := by
  intro Γ σ H G s v w a b r Q S v1 v2 hg hq
  unfold gEq at hg
  split at hg
  · rename_i x y
    by_cases hx : (SeqAt.shaped x && SeqAt.shaped y) = true
    · rw [if_pos hx] at hg
      cases hg
      obtain ⟨s1, s2⟩ := Bool.and_eq_true_iff.mp hx
      exact ⟨x, y, v1.dp S.sub, v2.dp S.sub, s1, s2, hq _ H G S .refl (.new (fa := Γ.fa) (.bl _))⟩
    · rw [if_neg hx] at hg; cases hg
  · cases hg
def rInT (K : PySem.W.Frag) (neg : Bool) : R2 := fun x y H Q => ∃ d ds, Dp K H x d ∧ Dp K H y (.tuple ds) ∧ SeqAt.shaped d = true ∧ SeqAt.shaped (.tuple ds) = true ∧ Q (.bl (if neg then !(ds.any fun z => PyData.eqv z d) else ds.any fun z => PyData.eqv z d)) H
theorem op_inT (hu : X.A.units + 65 < cLine) : OpR X (compareOp .In) (rInT X.K false) := by
  intro pins s σ H x y v u Q I rx ry h
  obtain ⟨d, ds, hd, he, sd, se, q⟩ := h
  obtain ⟨as, r1⟩ := Dp.reads I d x v hd rx
  obtain ⟨bs, r2⟩ := Dp.reads I (.tuple ds) y u he ry
  exact SeqAt.in_tuple_reads r2 r1 (SeqAt.canLay_of_shaped se) (SeqAt.canLay_of_shaped sd) (room_in_shaped sd hu) ⟨.bl _, H, I, rfl, q⟩
theorem op_notInT (hu : X.A.units + 65 < cLine) : OpR X (compareOp .NotIn) (rInT X.K true) := by
  intro pins s σ H x y v u Q I rx ry h
  obtain ⟨d, ds, hd, he, sd, se, q⟩ := h
  obtain ⟨as, r1⟩ := Dp.reads I d x v hd rx
  obtain ⟨bs, r2⟩ := Dp.reads I (.tuple ds) y u he ry
  exact SeqAt.notIn_tuple_reads r2 r1 (SeqAt.canLay_of_shaped se) (SeqAt.canLay_of_shaped sd) (room_in_shaped sd hu) ⟨.bl _, H, I, rfl, q⟩
def gInL (neg : Bool) : Pl → Pl → Option Pl
  | .val a, .val (.list b) => if SeqAt.shaped a && SeqAt.shaped (.list b) then some (.val (.bool (if neg then !(b.any fun z => PyData.eqv z a) else b.any fun z => PyData.eqv z a))) else none
  | _, _ => none
def gInT (neg : Bool) : Pl → Pl → Option Pl
  | .val a, .val (.tuple b) => if SeqAt.shaped a && SeqAt.shaped (.tuple b) then some (.val (.bool (if neg then !(b.any fun z => PyData.eqv z a) else b.any fun z => PyData.eqv z a))) else none
  | _, _ => none
theorem od_inT {neg : Bool} : OpD X (rInT X.K neg) (gInT neg) := by
  intro Γ σ H G s v w a b r Q S v1 v2 hg hq
  unfold gInT at hg
  split at hg
  · rename_i x y
    by_cases hx : (SeqAt.shaped x && SeqAt.shaped (.tuple y)) = true
    · rw [if_pos hx] at hg
      cases hg
      obtain ⟨s1, s2⟩ := Bool.and_eq_true_iff.mp hx
      exact ⟨x, y, v1.dp S.sub, v2.dp S.sub, s1, s2, hq _ H G S .refl (.new (fa := Γ.fa) (.bl _))⟩
    · rw [if_neg hx] at hg; cases hg
  · cases hg
theorem od_inL : OpD X (rInD X.K) (gInL false) := by
  intro Γ σ H G s v w a b r Q S v1 v2 hg hq
  unfold gInL at hg
  split at hg
  · rename_i x y
    by_cases hx : (SeqAt.shaped x && SeqAt.shaped (.list y)) = true
    · rw [if_pos hx] at hg
      cases hg
      obtain ⟨s1, s2⟩ := Bool.and_eq_true_iff.mp hx
      exact ⟨x, y, v1.dp S.sub, v2.dp S.sub, s1, s2, hq _ H G S .refl (.new (fa := Γ.fa) (.bl _))⟩
    · rw [if_neg hx] at hg; cases hg
  · cases hg
theorem od_notInL : OpD X (rNotInD X.K) (gInL true) := by
  intro Γ σ H G s v w a b r Q S v1 v2 hg hq
  unfold gInL at hg
  split at hg
  · rename_i x y
    by_cases hx : (SeqAt.shaped x && SeqAt.shaped (.list y)) = true
    · rw [if_pos hx] at hg
      cases hg
      obtain ⟨s1, s2⟩ := Bool.and_eq_true_iff.mp hx
      exact ⟨x, y, v1.dp S.sub, v2.dp S.sub, s1, s2, hq _ H G S .refl (.new (fa := Γ.fa) (.bl _))⟩
    · rw [if_neg hx] at hg; cases hg
  · cases hg
/-- a key of a dict as data -/
def keyD : PyData → Option Key
  | .int i => some (.inl i)
  | .str x => some (.inr x)
  | _ => none
def lookD (kvs : List (Key × PyData)) (k : Key) : Option PyData := (kvs.find? fun kv => decide (kv.1 = k)).map (·.2)
def putD (kvs : List (Key × PyData)) (k : Key) (v : PyData) : List (Key × PyData) := if (kvs.any fun kv => decide (kv.1 = k)) = true then kvs.map (fun kv => if kv.1 = k then (kv.1, v) else kv) else kvs ++ [(k, v)]
theorem Rp.keyI {K : PySem.W.Frag} {G : Hp} {v : V} {d : PyData} {k : Key} (h : Rp K G v d) (e : keyD d = some k) : v = kV k := by
  cases d with
  | int i => cases e; cases h; rfl
  | str x => cases e; cases h; rfl
  | none => cases e
  | bool b => cases e
  | list xs => cases e
  | tuple xs => cases e
  | dict xs => cases e
theorem KVRp.look {K : PySem.W.Frag} {G : Hp} {k : Key} : ∀ {a : List (Key × V)} {b : List (Key × PyData)}, KVRp K G a b → (∀ d, lookD b k = some d → ∃ v, valV a k = some v ∧ Rp K G v d) ∧ (valV a k).isSome = (lookD b k).isSome
  | _, _, .nil => ⟨fun d h => by simp [lookD] at h, rfl⟩
  | p :: r, q :: r', .cons h t => by
    have ih := KVRp.look (k := k) t
    by_cases e : p.1 = k
    · have e' : q.1 = k := h.1.symm.trans e
      have l1 : lookD (q :: r') k = some q.2 := by simp [lookD, List.find?_cons, e']
      refine ⟨fun d hd => ?_, ?_⟩
      · rw [l1] at hd
        cases hd
        exact ⟨p.2, valV_pos e, h.2⟩
      · rw [valV_pos e, l1]; rfl
    · have e' : ¬ q.1 = k := fun z => e (h.1.trans z)
      have l1 : lookD (q :: r') k = lookD r' k := by simp [lookD, List.find?_cons, e']
      rw [l1, valV_neg e]
      exact ih
theorem KVRp.any {K : PySem.W.Frag} {G : Hp} {k : Key} : ∀ {a : List (Key × V)} {b : List (Key × PyData)}, KVRp K G a b → (a.any fun kv => decide (kv.1 = k)) = b.any fun kv => decide (kv.1 = k)
  | _, _, .nil => rfl
  | p :: r, q :: r', .cons h t => by rw [List.any_cons, List.any_cons, KVRp.any t, h.1]
theorem KVRp.map {K : PySem.W.Frag} {G : Hp} {k : Key} {v : V} {d : PyData} (hv : Rp K G v d) : ∀ {a : List (Key × V)} {b : List (Key × PyData)}, KVRp K G a b → KVRp K G (a.map fun kv => if kv.1 = k then (kv.1, v) else kv) (b.map fun kv => if kv.1 = k then (kv.1, d) else kv)
  | _, _, .nil => .nil
  | p :: r, q :: r', .cons h t => by
    rw [List.map_cons, List.map_cons]
    refine .cons ?_ (KVRp.map hv t)
    by_cases e : p.1 = k
    · rw [if_pos e, if_pos (h.1.symm.trans e)]; exact ⟨h.1, hv⟩
    · rw [if_neg e, if_neg (fun z => e (h.1.trans z))]; exact h
theorem KVRp.append {K : PySem.W.Frag} {G : Hp} : ∀ {a c : List (Key × V)} {b e : List (Key × PyData)}, KVRp K G a b → KVRp K G c e → KVRp K G (a ++ c) (b ++ e)
  | _, _, _, _, .nil, s => s
  | _, _, _, _, .cons h t, s => .cons h (KVRp.append t s)
theorem KVRp.put {K : PySem.W.Frag} {G : Hp} {k : Key} {v : V} {d : PyData} (hv : Rp K G v d) {a : List (Key × V)} {b : List (Key × PyData)} (h : KVRp K G a b) : KVRp K G (putK a k v) (putD b k d) := by
  unfold putK putD
  rw [h.any]
  split
  · exact h.map hv
  · exact h.append (.cons ⟨rfl, hv⟩ .nil)
theorem KVRp.length {K : PySem.W.Frag} {G : Hp} {a : List (Key × V)} {b : List (Key × PyData)} (h : KVRp K G a b) : a.length = b.length := Paired.length h
end
end PD

set_option Elab.async false
set_option linter.all false
set_option maxRecDepth 100000
set_option maxHeartbeats 1000000
/-! PDd: argument lists, displays, items, slices, builtins of one argument, tests. -/
namespace PD
open PySem PySem.Spec PyProof.Rows L2
inductive SAll (K : PySem.W.Frag) (fa : Addr) (H G : Hp) : List V → List Pl → Prop
  | nil : SAll K fa H G [] []
  | cons {v : V} {vs : List V} {a : Pl} {as : List Pl} : SRp K fa H G v a → a.own = false → SAll K fa H G vs as → SAll K fa H G (v :: vs) (a :: as)
theorem SAll.mono {K : PySem.W.Frag} {fa : Addr} {H G H' G' : Hp} (hg : Same G G') : ∀ {vs : List V} {as : List Pl}, SAll K fa H G vs as → SAll K fa H' G' vs as
  | _, _, .nil => .nil
  | _, _, .cons a n r => .cons (a.step hg fun z => by rw [n] at z; cases z) n (SAll.mono hg r)
theorem SAll.length {K : PySem.W.Frag} {fa : Addr} {H G : Hp} : ∀ {vs : List V} {as : List Pl}, SAll K fa H G vs as → vs.length = as.length
  | _, _, .nil => rfl
  | _, _, .cons _ _ r => congrArg (· + 1) (SAll.length r)
def valsOf : List Pl → Option (List PyData)
  | [] => some []
  | .val d :: r => (valsOf r).map (d :: ·)
  | _ :: _ => none
theorem SAll.vals {K : PySem.W.Frag} {fa : Addr} {H G : Hp} : ∀ {vs : List V} {as : List Pl} {ds : List PyData}, SAll K fa H G vs as → valsOf as = some ds → RpAll K G vs ds
  | _, _, _, .nil, e => by cases e; exact .nil
  | _, .val d :: r, ds, .cons a _ q, e => by
    unfold valsOf at e
    cases h : valsOf r with
    | none => rw [h] at e; cases e
    | some es => rw [h] at e; cases e; exact .cons a (SAll.vals q h)
  | _, .fd :: _, _, .cons _ _ _, e => by cases e
  | _, .dic _ :: _, _, .cons _ _ _, e => by cases e
  | _, .ownL _ :: _, _, .cons _ _ _, e => by cases e
  | _, .ownK _ :: _, _, .cons _ _ _, e => by cases e
theorem SRp.fzOf {K : PySem.W.Frag} {fa : Addr} {H G : Hp} {v : V} {r : Pl} (h : SRp K fa H G v (fz r)) : SRp K fa H G v (fz r) ∧ (fz r).own = false := ⟨h, fz_own r⟩

abbrev Af := DS → Option (List Pl × DS)
section
variable {X : Cx} {Γ : Gm}
def PAd (X : Cx) (Γ : Gm) (es : List Expr) (f : Af) : Prop :=
  ∃ t : TA, PA X es t ∧ ∀ (σ : L2.St) (H G : Hp) (s s' : DS) (rs : List Pl) (Q : List V → Hp → Prop), Sta X.K Γ σ H G s → f s = some (rs, s') →
    (∀ vs H' G', Sta X.K Γ σ H' G' s' → Stp Γ σ H G s H' G' s' → SAll X.K Γ.fa H' G' vs rs → Q vs H') → t σ H Q
def aNil : Af := fun s => some ([], s)
def aCons (f : Ef) (g : Af) : Af := fun s => (f s).bind fun (a, s1) => (g s1).bind fun (as, s2) => some (fz a :: as, s2)
theorem pad_nil : PAd X Γ [] aNil := ⟨_, pa_nil, fun σ H G s s' rs Q S hf hq => by cases hf; exact hq [] H G S .refl .nil⟩
theorem pad_cons {e : Expr} {es : List Expr} {f : Ef} {g : Af} (h1 : PEd X Γ e f) (h2 : PAd X Γ es g) (hs : starEach (e :: es) X.env = (false, eval e X.env) :: starEach es X.env := by rfl) : PAd X Γ (e :: es) (aCons f g) := by
  obtain ⟨te, he, ke⟩ := h1
  obtain ⟨ta, ha, ka⟩ := h2
  refine ⟨_, pa_cons he ha hs, fun σ H G s s' rs Q S hf hq => ?_⟩
  unfold aCons at hf
  cases e1 : f s with
  | none => rw [e1] at hf; cases hf
  | some q =>
    obtain ⟨x, s1⟩ := q
    rw [e1, Option.bind_some] at hf
    cases e2 : g s1 with
    | none => simp only [e2, Option.bind_none] at hf; cases hf
    | some q2 =>
      obtain ⟨ys, s2⟩ := q2
      simp only [e2, Option.bind_some, Option.some.injEq, Prod.mk.injEq] at hf
      obtain ⟨rfl, rfl⟩ := hf
      refine ke σ H G s s1 x _ S e1 fun v H1 G1 S1 T1 g1 => ?_
      obtain ⟨G1', S1', T1', r1'⟩ := S.freeze S1 T1 g1
      refine ka σ H1 G1' s1 s2 ys _ S1' e2 fun vs H2 G2 S2 T2 g2 => ?_
      exact hq _ H2 G2 S2 (T1'.trans T2) (.cons (r1'.step T2.gg fun z => by rw [fz_own] at z; cases z) (fz_own x) g2)
/-! ### displays -/
def fTup (g : Af) : Ef := fun s => (g s).bind fun (as, s') => (valsOf as).bind fun ds => if ds.length ≤ sizeLine then some (.val (.tuple ds), s') else none
def fLst (g : Af) : Ef := fun s => (g s).bind fun (as, s') => (valsOf as).bind fun ds => if ds.length ≤ sizeLine then some (.ownL ds, s') else none
theorem Sta.gNone {K : PySem.W.Frag} {Γ : Gm} {σ : L2.St} {H G : Hp} {s : DS} (S : Sta K Γ σ H G s) {n : Addr} (hn : H n = none) : G n = none ∧ n ≠ Γ.fa := by
  refine ⟨?_, fun z => ?_⟩
  · cases q : G n with
    | none => rfl
    | some x => rw [S.sub _ _ q] at hn; cases hn
  · obtain ⟨c, h1, _⟩ := S.fd
    rw [z, h1] at hn; cases hn
/-- a new tuple, a new list, as results -/
theorem newT {K : PySem.W.Frag} {Γ : Gm} {σ : L2.St} {H G : Hp} {s : DS} {vs : List V} {ds : List PyData} {Q : VK} (S : Sta K Γ σ H G s) (r : RpAll K G vs ds)
    (hq : ∀ v H' G', Sta K Γ σ H' G' s → Stp Γ σ H G s H' G' s → Got K Γ H H' G' v (.val (.tuple ds)) → Q v H') : NT vs H Q := fun p o hp ho => by
  obtain ⟨A, B⟩ := S.allocG (o := .frz o (.tup vs)) hp
  exact hq _ _ _ A B (.new (fa := Γ.fa) (.tup (.inl ⟨o, upd_same, ho⟩) (r.mono B.gg)))
theorem newL {K : PySem.W.Frag} {Γ : Gm} {σ : L2.St} {H G : Hp} {s : DS} {vs : List V} {ds : List PyData} {Q : VK} (S : Sta K Γ σ H G s) (r : RpAll K G vs ds)
    (hq : ∀ v H' G', Sta K Γ σ H' G' s → Stp Γ σ H G s H' G' s → Got K Γ H H' G' v (.ownL ds) → Q v H') : ∀ p, H p = none → Q (.ref p) (upd H p (.lst vs)) := fun p hp => by
  obtain ⟨A, B⟩ := S.alloc (o := .lst vs) hp
  obtain ⟨g1, g2⟩ := S.gNone hp
  exact hq _ _ _ A B ⟨⟨p, vs, rfl, upd_same, g1, g2, r⟩, fun _ => ⟨p, rfl, hp⟩⟩
theorem pd_tup {es : List Expr} {g : Af} {x1 pos} (h : PAd X Γ es g) : PEd X Γ (.Tuple es x1 pos) (fTup g) := by
  obtain ⟨t, h, k⟩ := h
  refine ⟨_, pe_tupF h, fun σ H G s s' r Q S hf hq => ?_⟩
  unfold fTup at hf
  cases e1 : g s with
  | none => rw [e1] at hf; cases hf
  | some q =>
    obtain ⟨as, s1⟩ := q
    rw [e1, Option.bind_some] at hf
    cases e2 : valsOf as with
    | none => simp only [e2, Option.bind_none] at hf; cases hf
    | some ds =>
      simp only [e2, Option.bind_some] at hf
      by_cases hz : ds.length ≤ sizeLine
      · rw [if_pos hz] at hf
        cases hf
        refine k σ H G s _ as _ S e1 fun vs H1 G1 S1 T1 g1 => ?_
        have rp := g1.vals e2
        refine ⟨by rw [rp.length]; exact hz, newT S1 rp fun v H2 G2 S2 T2 g2 => hq v H2 G2 S2 (T1.trans T2) (g2.later T1)⟩
      · rw [if_neg hz] at hf; cases hf
theorem pd_lst {es : List Expr} {g : Af} {pos} (h : PAd X Γ es g) : PEd X Γ (.List es pos) (fLst g) := by
  obtain ⟨t, h, k⟩ := h
  refine ⟨_, pe_lst h, fun σ H G s s' r Q S hf hq => ?_⟩
  unfold fLst at hf
  cases e1 : g s with
  | none => rw [e1] at hf; cases hf
  | some q =>
    obtain ⟨as, s1⟩ := q
    rw [e1, Option.bind_some] at hf
    cases e2 : valsOf as with
    | none => simp only [e2, Option.bind_none] at hf; cases hf
    | some ds =>
      simp only [e2, Option.bind_some] at hf
      by_cases hz : ds.length ≤ sizeLine
      · rw [if_pos hz] at hf
        cases hf
        refine k σ H G s _ as _ S e1 fun vs H1 G1 S1 T1 g1 => ?_
        have rp := g1.vals e2
        refine ⟨by rw [rp.length]; exact hz, newL S1 rp fun v H2 G2 S2 T2 g2 => hq v H2 G2 S2 (T1.trans T2) (g2.later T1)⟩
      · rw [if_neg hz] at hf; cases hf

/-! ### items -/
def gIx : Pl → Pl → Option Pl
  | .val (.list ds), .val (.int i) => (atI ds i).map .val
  | .val (.tuple ds), .val (.int i) => (atI ds i).map .val
  | .val (.str z), .val (.int i) => if z.length ≤ sizeLine then (atI z.cps.toList i).map fun c => .val (.str ⟨#[c]⟩) else none
  | _, _ => none
theorem RpAll.atI {K : PySem.W.Frag} {G : Hp} {vs : List V} {ds : List PyData} {i : Int} {d : PyData} (r : RpAll K G vs ds) (h : L2.atI ds i = some d) : ∃ v, L2.atI vs i = some v ∧ Rp K G v d := by
  unfold L2.atI at h ⊢
  rw [r.length]
  cases e : ixN ds.length i with
  | none => rw [e] at h; cases h
  | some j =>
    rw [e, Option.bind_some] at h
    obtain ⟨v, h1, h2⟩ := r.get h
    exact ⟨v, by rw [Option.bind_some]; exact h1, h2⟩
theorem od_ix : OpD X (rIx X.K) gIx := by
  intro Γ σ H G s v w a b r Q S v1 v2 hg hq
  unfold gIx at hg
  split at hg
  · rename_i ds i
    obtain ⟨p, vs, rfl, h1, q1⟩ := v1
    have e2 : Rp X.K G w (.int i) := v2
    cases e2
    cases e : atI ds i with
    | none => rw [e] at hg; cases hg
    | some d =>
      rw [e] at hg
      cases hg
      obtain ⟨x, h3, h4⟩ := q1.atI e
      exact .inl ⟨p, vs, i, x, rfl, rfl, .inl (.inl h1), h3, hq x H G S .refl (.new (fa := Γ.fa) h4)⟩
  · rename_i ds i
    obtain ⟨p, vs, rfl, h1, q1⟩ := Rp.tupI v1
    have e2 : Rp X.K G w (.int i) := v2
    cases e2
    cases e : atI ds i with
    | none => rw [e] at hg; cases hg
    | some d =>
      rw [e] at hg
      cases hg
      obtain ⟨x, h3, h4⟩ := q1.atI e
      exact .inr (.inl ⟨p, vs, i, x, rfl, rfl, (h1.mono S.sub).sqt, h3, hq x H G S .refl (.new (fa := Γ.fa) h4)⟩)
  · rename_i z i
    have e1 : Rp X.K G v (.str z) := v1
    have e2 : Rp X.K G w (.int i) := v2
    cases e1
    cases e2
    by_cases hz : z.length ≤ sizeLine
    · rw [if_pos hz] at hg
      cases e : atI z.cps.toList i with
      | none => rw [e] at hg; cases hg
      | some c =>
        rw [e] at hg
        cases hg
        exact .inr (.inr ⟨z, i, c, rfl, rfl, hz, e, hq _ H G S .refl (.new (fa := Γ.fa) (.str _))⟩)
    · rw [if_neg hz] at hg; cases hg
  · cases hg
/-- d[k] -/
def rDG : R2 := fun x y H Q => ∃ a v, x = .ref a ∧ DGet H a y (some v) ∧ Q v H
def gDG : Pl → Pl → Option Pl
  | .dic kvs, .val d => (keyD d).bind fun k => (lookD kvs k).map .val
  | _, _ => none
theorem od_dg : OpD X rDG gDG := by
  intro Γ σ H G s v w a b r Q S v1 v2 hg hq
  unfold gDG at hg
  split at hg
  · rename_i kvs d
    obtain ⟨p, kv, rfl, h1, q1⟩ := v1
    cases ek : keyD d with
    | none => rw [ek] at hg; cases hg
    | some k =>
      rw [ek, Option.bind_some] at hg
      cases el : lookD kvs k with
      | none => rw [el] at hg; cases hg
      | some x =>
        rw [el] at hg
        cases hg
        obtain ⟨y, hy, ry⟩ := (q1.look (k := k)).1 x el
        have e2 : w = kV k := by
          cases d with
          | int i => exact Rp.keyI v2 ek
          | str z => exact Rp.keyI v2 ek
          | none => cases ek
          | bool z => cases ek
          | list z => cases ek
          | tuple z => cases ek
          | dict z => cases ek
        subst e2
        exact ⟨p, y, rfl, by rw [← hy]; exact DGet.k h1, hq y H G S .refl (.new (fa := Γ.fa) ry)⟩
  · cases hg
def gSub : Pl → Pl → Option Pl := gOr gIx gDG
theorem fBin_or {f : DS → Option (Pl × Pl × DS)} {g g' : Pl → Pl → Option Pl} {s s' : DS} {r : Pl} (h : fBin f (gOr g g') s = some (r, s')) : fBin f g s = some (r, s') ∨ fBin f g' s = some (r, s') := by
  unfold fBin at h ⊢
  cases e : f s with
  | none => rw [e] at h; cases h
  | some q =>
    obtain ⟨a, b, s1⟩ := q
    rw [e, Option.bind_some] at h
    simp only [Option.bind_some] at h ⊢
    unfold gOr at h
    cases e1 : g a b with
    | none => simp only [e1] at h; exact .inr h
    | some c => simp only [e1] at h; exact .inl h
theorem PEd.or {e : Expr} {f g h : Ef} (h1 : PEd X Γ e f) (h2 : PEd X Γ e g) (hh : ∀ s r s', h s = some (r, s') → f s = some (r, s') ∨ g s = some (r, s')) : PEd X Γ e h := by
  obtain ⟨t1, p1, k1⟩ := h1
  obtain ⟨t2, p2, k2⟩ := h2
  refine ⟨fun σ H Q => t1 σ H Q ∨ t2 σ H Q, ⟨fun pins s σ H Q I q => ?_⟩, fun σ H G s s' r Q S hf hq => ?_⟩
  · rcases q with q | q
    · exact p1.run pins s σ H Q I q
    · exact p2.run pins s σ H Q I q
  · rcases hh s r s' hf with e | e
    · exact .inl (k1 σ H G s s' r Q S e hq)
    · exact .inr (k2 σ H G s s' r Q S e hq)
theorem pd_sub {a b : Expr} {pos : Pos} {f : DS → Option (Pl × Pl × DS)} (hu : X.A.units + 1 < cLine) (h : P2d X Γ a b f) (hs : PlainIx b) (hn : NoSl b) : PEd X Γ (.Subscript a b pos) (fBin f gSub) := by
  refine PEd.or (pd_ix h ix_seq od_ix hs) (g := fBin f gDG) ?_ fun s r s' e => fBin_or e
  obtain ⟨ta, tb, ha, hb, k⟩ := pd_tOp (X := X) h od_dg
  exact ⟨_, pe_dget hu ha hb hn, k⟩

/-! ### membership, all kinds -/
def gInS (neg : Bool) : Pl → Pl → Option Pl
  | .val (.str a), .val (.str b) => match a.cps.toList with
    | [c] => some (.val (.bool (if neg then !decide (c ∈ b.cps.toList) else decide (c ∈ b.cps.toList))))
    | _ => none
  | _, _ => none
theorem sign_of {a : Str} {c : Nat} (h : a.cps.toList = [c]) : a = ⟨#[c]⟩ := by
  obtain ⟨x⟩ := a
  have : x = #[c] := by
    apply Array.ext'
    simpa using h
  rw [this]
theorem od_inS : OpD X (fun x y H Q => ∃ (c : Nat) (z : Str), x = .str ⟨#[c]⟩ ∧ y = .str z ∧ Q (.bl (decide (c ∈ z.cps.toList))) H) (gInS false) := by
  intro Γ σ H G s v w a b r Q S v1 v2 hg hq
  unfold gInS at hg
  split at hg
  · rename_i x y
    have e1 : Rp X.K G v (.str x) := v1
    have e2 : Rp X.K G w (.str y) := v2
    cases e1
    cases e2
    split at hg
    · rename_i c hc
      cases hg
      exact ⟨c, y, by rw [sign_of hc], rfl, hq _ H G S .refl (.new (fa := Γ.fa) (.bl _))⟩
    · cases hg
  · cases hg
theorem od_notInS : OpD X (fun x y H Q => ∃ (c : Nat) (z : Str), x = .str ⟨#[c]⟩ ∧ y = .str z ∧ Q (.bl (!decide (c ∈ z.cps.toList))) H) (gInS true) := by
  intro Γ σ H G s v w a b r Q S v1 v2 hg hq
  unfold gInS at hg
  split at hg
  · rename_i x y
    have e1 : Rp X.K G v (.str x) := v1
    have e2 : Rp X.K G w (.str y) := v2
    cases e1
    cases e2
    split at hg
    · rename_i c hc
      cases hg
      exact ⟨c, y, by rw [sign_of hc], rfl, hq _ H G S .refl (.new (fa := Γ.fa) (.bl _))⟩
    · cases hg
  · cases hg
def rDIn (neg : Bool) : R2 := fun y x H Q => ∃ a o, x = .ref a ∧ DGet H a y o ∧ Q (.bl (if neg then !o.isSome else o.isSome)) H
def gDIn (neg : Bool) : Pl → Pl → Option Pl
  | .val d, .dic kvs => (keyD d).map fun k => .val (.bool (if neg then !(lookD kvs k).isSome else (lookD kvs k).isSome))
  | _, _ => none
theorem od_din {neg : Bool} : OpD X (rDIn neg) (gDIn neg) := by
  intro Γ σ H G s v w a b r Q S v1 v2 hg hq
  unfold gDIn at hg
  split at hg
  · rename_i d kvs
    obtain ⟨p, kv, rfl, h1, q1⟩ := v2
    cases ek : keyD d with
    | none => rw [ek] at hg; cases hg
    | some k =>
      rw [ek] at hg
      cases hg
      have e2 : v = kV k := by
        cases d with
        | int i => exact Rp.keyI v1 ek
        | str z => exact Rp.keyI v1 ek
        | none => cases ek
        | bool z => cases ek
        | list z => cases ek
        | tuple z => cases ek
        | dict z => cases ek
      subst e2
      have h5 := (q1.look (k := k)).2
      exact ⟨p, _, rfl, DGet.k h1, by rw [h5]; exact hq _ H G S .refl (.new (fa := Γ.fa) (.bl _))⟩
  · cases hg
def gIn (neg : Bool) : Pl → Pl → Option Pl := gOr (gOr (gInL neg) (gInT neg)) (gOr (gInS neg) (gDIn neg))
theorem pd_in {a b : Expr} {pos : Pos} {f : DS → Option (Pl × Pl × DS)} (hu : X.A.units + 65 < cLine) (h : P2d X Γ a b f) (hm : behindInMarks .In b = false := by rfl) : PEd X Γ (.Compare a [.In] [b] pos) (fBin f (gIn false)) := by
  refine PEd.or (g := fBin f (gOr (gInS false) (gDIn false))) (pd_cmp h ((op_inD hu).or (op_inT hu)) (od_inL.or od_inT) hm) ?_ fun s r s' e => fBin_or e
  refine PEd.or (g := fBin f (gDIn false)) (pd_cmp h op_in_sign od_inS hm) ?_ fun s r s' e => fBin_or e
  obtain ⟨ta, tb, ha, hb, k⟩ := pd_tOp (X := X) h (od_din (neg := false))
  exact ⟨_, pe_cmp (pc_din (by omega) ha hb) hm, k⟩
theorem pd_notIn {a b : Expr} {pos : Pos} {f : DS → Option (Pl × Pl × DS)} (hu : X.A.units + 65 < cLine) (h : P2d X Γ a b f) (hm : behindInMarks .NotIn b = false := by rfl) : PEd X Γ (.Compare a [.NotIn] [b] pos) (fBin f (gIn true)) := by
  refine PEd.or (g := fBin f (gOr (gInS true) (gDIn true))) (pd_cmp h ((op_notInD hu).or (op_notInT hu)) (od_notInL.or od_inT) hm) ?_ fun s r s' e => fBin_or e
  refine PEd.or (g := fBin f (gDIn true)) (pd_cmp h op_notIn_sign od_notInS hm) ?_ fun s r s' e => fBin_or e
  obtain ⟨ta, tb, ha, hb, k⟩ := pd_tOp (X := X) h (od_din (neg := true))
  exact ⟨_, pe_cmp (pc_dnotin (by omega) ha hb) hm, k⟩
end
end PD

set_option Elab.async false
set_option linter.all false
set_option maxRecDepth 100000
set_option maxHeartbeats 1000000
/-! PDe: calls of builtins with one argument, slices, isinstance, tests, and / or / not, choices. -/
namespace PD
open PySem PySem.Spec PyProof.Rows L2
section
variable {X : Cx} {Γ : Gm}
/-- what a call does on data -/
def CallD (X : Cx) (r : List V → Hp → VK → Prop) (g : Pl → Option Pl) : Prop :=
  ∀ (Γ : Gm) (σ : L2.St) (H G : Hp) (s : DS) (v : V) (a c : Pl) (Q : VK), Sta X.K Γ σ H G s → View X.K Γ.fa H G v a → g a = some c →
    (∀ u H' G', Sta X.K Γ σ H' G' s → Stp Γ σ H G s H' G' s → Got X.K Γ H H' G' u c → Q u H') → r [v] H Q
def fUn (f : Ef) (g : Pl → Option Pl) : Ef := fun s => (f s).bind fun (a, s') => (g a).map fun c => (c, s')
def gOr1 (g g' : Pl → Option Pl) (a : Pl) : Option Pl := match g a with
  | some x => some x
  | none => g' a
theorem fUn_or {f : Ef} {g g' : Pl → Option Pl} {s s' : DS} {r : Pl} (h : fUn f (gOr1 g g') s = some (r, s')) : fUn f g s = some (r, s') ∨ fUn f g' s = some (r, s') := by
  unfold fUn at h ⊢
  cases e : f s with
  | none => rw [e] at h; cases h
  | some q =>
    obtain ⟨a, s1⟩ := q
    rw [e, Option.bind_some] at h
    simp only [Option.bind_some] at h ⊢
    unfold gOr1 at h
    cases e1 : g a with
    | none => simp only [e1] at h; exact .inr h
    | some c => simp only [e1] at h; exact .inl h
theorem p1_un {e : Expr} {f : Ef} {r : List V → Hp → VK → Prop} {g : Pl → Option Pl} (h : P1d X Γ e f) (hd : CallD X r g) :
    ∃ te : TE, PE X e te ∧ ∀ (σ : L2.St) (H G : Hp) (s s' : DS) (c : Pl) (Q : VK), Sta X.K Γ σ H G s → fUn f g s = some (c, s') →
      (∀ v H' G', Sta X.K Γ σ H' G' s' → Stp Γ σ H G s H' G' s' → Got X.K Γ H H' G' v c → Q v H') → te σ H fun x H1 => r [x] H1 Q := by
  obtain ⟨te, he, k⟩ := h
  refine ⟨te, he, fun σ H G s s' c Q S hf hq => ?_⟩
  unfold fUn at hf
  cases h1 : f s with
  | none => rw [h1] at hf; cases hf
  | some q =>
    obtain ⟨a, s1⟩ := q
    rw [h1, Option.bind_some] at hf
    cases h2 : g a with
    | none => simp only [h2, Option.map_none] at hf; cases hf
    | some z =>
      simp only [h2, Option.map_some, Option.some.injEq, Prod.mk.injEq] at hf
      obtain ⟨rfl, rfl⟩ := hf
      refine k σ H G s _ a _ S h1 fun v H1 G1 S1 T1 v1 => ?_
      exact hd Γ σ H1 G1 _ v a _ Q S1 v1 h2 fun u H2 G2 S2 T2 g2 => hq u H2 G2 S2 (T1.trans T2) (g2.later T1)
theorem pd_callB {e : Expr} {x : Str} {p pos : Pos} {id : String} {f : Ef} {r : List V → Hp → VK → Prop} {g : Pl → Option Pl} (h : P1d X Γ e f) (hc : CallR X (.builtin id) r) (hd : CallD X r g) (hg : Gl X x) (hm : X.mg x = none) (hv : bootBuiltins x = some (.builtin id))
    (hn : x ≠ "__name__" := by decide) (hdb : (x == ("__debug__" : Str)) = false := by decide) (he : starEach [e] X.env = (false, eval e X.env) :: starEach [] X.env := by rfl) (hpl : (backTo pos (starEach [] X.env)).any (·.1) = false := by rfl) :
    PEd X Γ (.Call (.Name x p) [e] [] pos) (fUn f g) := by
  obtain ⟨te, ht, k⟩ := p1_un h hd
  exact ⟨_, pe_callB hc hg hm hv (pa_cons ht pa_nil he) hn hdb he hpl, k⟩
theorem pd_callTy {e : Expr} {x : Str} {p pos : Pos} {T : String} {f : Ef} {r : List V → Hp → VK → Prop} {g : Pl → Option Pl} (h : P1d X Γ e f) (hc : CallR X (.type T) r) (hd : CallD X r g) (hg : Gl X x) (hm : X.mg x = none) (hv : bootBuiltins x = some (.type T))
    (hn : x ≠ "__name__" := by decide) (hdb : (x == ("__debug__" : Str)) = false := by decide) (he : starEach [e] X.env = (false, eval e X.env) :: starEach [] X.env := by rfl) (hpl : (backTo pos (starEach [] X.env)).any (·.1) = false := by rfl) :
    PEd X Γ (.Call (.Name x p) [e] [] pos) (fUn f g) := by
  obtain ⟨te, ht, k⟩ := p1_un h hd
  exact ⟨_, pe_callTy hc hg hm hv (pa_cons ht pa_nil he) hn hdb he hpl, k⟩

/-! ### len -/
def gLenQ : Pl → Option Pl
  | .val (.list ds) => some (.val (.int ds.length))
  | .val (.tuple ds) => some (.val (.int ds.length))
  | _ => none
def gLenS : Pl → Option Pl
  | .val (.str z) => if z.length ≤ sizeLine then some (.val (.int z.length)) else none
  | _ => none
def gLenD : Pl → Option Pl
  | .dic kvs => some (.val (.int kvs.length))
  | _ => none
def gLen : Pl → Option Pl := gOr1 gLenQ (gOr1 gLenS gLenD)
theorem cd_lenQ : CallD X (fun xs H Q => ∃ p ys, xs = [.ref p] ∧ (SqL X.K H p ys ∨ SqT X.K H p ys) ∧ Q (.int ys.length) H) gLenQ := by
  intro Γ σ H G s v a c Q S v1 hg hq
  unfold gLenQ at hg
  split at hg
  · cases hg
    obtain ⟨p, vs, rfl, h1, q1⟩ := v1
    exact ⟨p, vs, rfl, .inl (.inl (.inl h1)), by rw [q1.length]; exact hq _ H G S .refl (.new (fa := Γ.fa) (.int _))⟩
  · cases hg
    obtain ⟨p, vs, rfl, h1, q1⟩ := Rp.tupI v1
    exact ⟨p, vs, rfl, .inr (h1.mono S.sub).sqt, by rw [q1.length]; exact hq _ H G S .refl (.new (fa := Γ.fa) (.int _))⟩
  · cases hg
theorem cd_lenS : CallD X (fun xs H Q => ∃ z, xs = [.str z] ∧ z.length ≤ sizeLine ∧ Q (.int z.length) H) gLenS := by
  intro Γ σ H G s v a c Q S v1 hg hq
  unfold gLenS at hg
  split at hg
  · rename_i z
    have e1 : Rp X.K G v (.str z) := v1
    cases e1
    by_cases hz : z.length ≤ sizeLine
    · rw [if_pos hz] at hg
      cases hg
      exact ⟨z, rfl, hz, hq _ H G S .refl (.new (fa := Γ.fa) (.int _))⟩
    · rw [if_neg hz] at hg; cases hg
  · cases hg
theorem cd_lenD : CallD X (fun xs H Q => ∃ a kvs, xs = [V.ref a] ∧ H a = some (.dK kvs) ∧ Q (.int kvs.length) H) gLenD := by
  intro Γ σ H G s v a c Q S v1 hg hq
  unfold gLenD at hg
  split at hg
  · cases hg
    obtain ⟨p, kv, rfl, h1, q1⟩ := v1
    exact ⟨p, kv, rfl, h1, by rw [q1.length]; exact hq _ H G S .refl (.new (fa := Γ.fa) (.int _))⟩
  · cases hg
theorem pd_len {e : Expr} {p pos : Pos} {f : Ef} (h : P1d X Γ e f) (hg : Gl X "len") (hm : X.mg "len" = none) (he : starEach [e] X.env = (false, eval e X.env) :: starEach [] X.env := by rfl) (hpl : (backTo pos (starEach [] X.env)).any (·.1) = false := by rfl) :
    PEd X Γ (.Call (.Name "len" p) [e] [] pos) (fUn f gLen) := by
  refine PEd.or (pd_callB h call_len_seq cd_lenQ hg hm PySem.boot_len (by decide) (by decide) he hpl) (g := fUn f (gOr1 gLenS gLenD)) ?_ fun s r s' e => fUn_or e
  exact PEd.or (pd_callB h call_len_str cd_lenS hg hm PySem.boot_len (by decide) (by decide) he hpl) (pd_callB h call_lenD cd_lenD hg hm PySem.boot_len (by decide) (by decide) he hpl) fun s r s' e => fUn_or e

/-! ### tuple(x), list(x) -/
def gTupleOf : Pl → Option Pl
  | .val (.list ds) => some (.val (.tuple ds))
  | .val (.tuple ds) => some (.val (.tuple ds))
  | _ => none
theorem cd_tupleOf : CallD X (fun xs H Q => ∃ p ys, xs = [.ref p] ∧ ((SqL X.K H p ys ∧ NT ys H Q) ∨ (SqT X.K H p ys ∧ Q (.ref p) H))) gTupleOf := by
  intro Γ σ H G s v a c Q S v1 hg hq
  unfold gTupleOf at hg
  split at hg
  · cases hg
    obtain ⟨p, vs, rfl, h1, q1⟩ := v1
    exact ⟨p, vs, rfl, .inl ⟨.inl (.inl h1), newT S q1 hq⟩⟩
  · cases hg
    obtain ⟨p, vs, rfl, h1, q1⟩ := Rp.tupI v1
    exact ⟨p, vs, rfl, .inr ⟨(h1.mono S.sub).sqt, hq _ H G S .refl (.new (fa := Γ.fa) v1)⟩⟩
  · cases hg
def gListOf : Pl → Option Pl
  | .val (.list ds) => some (.ownL ds)
  | .val (.tuple ds) => some (.ownL ds)
  | _ => none
theorem cd_listOf : CallD X (fun xs H Q => ∃ p ys, xs = [.ref p] ∧ (SqL X.K H p ys ∨ SqT X.K H p ys) ∧ ∀ l, H l = none → Q (.ref l) (upd H l (.lst ys))) gListOf := by
  intro Γ σ H G s v a c Q S v1 hg hq
  unfold gListOf at hg
  split at hg
  · cases hg
    obtain ⟨p, vs, rfl, h1, q1⟩ := v1
    exact ⟨p, vs, rfl, .inl (.inl (.inl h1)), newL S q1 hq⟩
  · cases hg
    obtain ⟨p, vs, rfl, h1, q1⟩ := Rp.tupI v1
    exact ⟨p, vs, rfl, .inr (h1.mono S.sub).sqt, newL S q1 hq⟩
  · cases hg
/-- list(d): its keys -/
def kD : Key → PyData
  | .inl i => .int i
  | .inr x => .str x
def gListD : Pl → Option Pl
  | .dic kvs => some (.ownL (kvs.map fun kv => kD kv.1))
  | _ => none
theorem RpAll.keys {K : PySem.W.Frag} {G : Hp} : ∀ {a : List (Key × V)} {b : List (Key × PyData)}, KVRp K G a b → RpAll K G (a.map fun kv => kV kv.1) (b.map fun kv => kD kv.1)
  | _, _, .nil => .nil
  | p :: r, q :: r', .cons h t => by
    refine .cons ?_ (RpAll.keys t)
    show Rp K G (kV p.1) (kD q.1)
    rw [h.1]
    cases q.1 with
    | inl i => exact .int i
    | inr x => exact .str x
theorem cd_listD : CallD X (fun xs H Q => ∃ (a : Addr) (kvs : List (Key × V)), xs = [.ref a] ∧ Rd H a (.dK kvs) ∧ ∀ p, H p = none → Q (.ref p) (upd H p (.lst (kvs.map fun kv => kV kv.1)))) gListD := by
  intro Γ σ H G s v a c Q S v1 hg hq
  unfold gListD at hg
  split at hg
  · cases hg
    obtain ⟨p, kv, rfl, h1, q1⟩ := v1
    exact ⟨p, kv, rfl, .inl h1, newL S (RpAll.keys q1) hq⟩
  · cases hg
theorem pd_tupleOf {e : Expr} {p pos : Pos} {f : Ef} (h : P1d X Γ e f) (hg : Gl X "tuple") (hm : X.mg "tuple" = none) (he : starEach [e] X.env = (false, eval e X.env) :: starEach [] X.env := by rfl) (hpl : (backTo pos (starEach [] X.env)).any (·.1) = false := by rfl) :
    PEd X Γ (.Call (.Name "tuple" p) [e] [] pos) (fUn f gTupleOf) := pd_callTy h call_tuple_ofF cd_tupleOf hg hm boot_tuple (by decide) (by decide) he hpl
def gList : Pl → Option Pl := gOr1 gListOf gListD
theorem pd_listOf {e : Expr} {p pos : Pos} {f : Ef} (hc : X.calm = true) (h : P1d X Γ e f) (hg : Gl X "list") (hm : X.mg "list" = none) (he : starEach [e] X.env = (false, eval e X.env) :: starEach [] X.env := by rfl) (hpl : (backTo pos (starEach [] X.env)).any (·.1) = false := by rfl) :
    PEd X Γ (.Call (.Name "list" p) [e] [] pos) (fUn f gList) :=
  PEd.or (pd_callTy h call_list_of cd_listOf hg hm boot_list (by decide) (by decide) he hpl) (pd_callTy h (call_listD hc) cd_listD hg hm boot_list (by decide) (by decide) he hpl) fun s r s' e => fUn_or e

/-! ### all, any of a list of bools -/
def boolsOf : List PyData → Option (List Bool)
  | [] => some []
  | .bool b :: r => (boolsOf r).map (b :: ·)
  | _ :: _ => none
theorem boolsOf_map : ∀ {ds : List PyData} {bs : List Bool}, boolsOf ds = some bs → ds = bs.map PyData.bool
  | [], bs, h => by cases h; rfl
  | .bool b :: r, bs, h => by
    unfold boolsOf at h
    cases e : boolsOf r with
    | none => rw [e] at h; cases h
    | some cs => rw [e] at h; cases h; rw [boolsOf_map e]; rfl
  | .none :: _, _, h => by cases h
  | .int _ :: _, _, h => by cases h
  | .str _ :: _, _, h => by cases h
  | .list _ :: _, _, h => by cases h
  | .tuple _ :: _, _, h => by cases h
  | .dict _ :: _, _, h => by cases h
theorem boolsOf_bools : ∀ bs : List Bool, boolsOf (bs.map PyData.bool) = some bs
  | [] => rfl
  | b :: r => by simp [boolsOf, boolsOf_bools r]
def gBools (g : List Bool → Bool) : Pl → Option Pl
  | .val (.list ds) => (boolsOf ds).map fun bs => .val (.bool (g bs))
  | _ => none
theorem cd_all : CallD X (rAll X.K) (gBools (·.all id)) := by
  intro Γ σ H G s v a c Q S v1 hg hq
  unfold gBools at hg
  split at hg
  · rename_i ds
    cases e : boolsOf ds with
    | none => rw [e] at hg; cases hg
    | some bs =>
      rw [e] at hg
      cases hg
      obtain ⟨p, vs, rfl, h1, q1⟩ := v1
      rw [boolsOf_map e] at q1
      exact ⟨p, bs, rfl, .inl (.inl (by rw [h1, q1.bools])), hq _ H G S .refl (.new (fa := Γ.fa) (.bl _))⟩
  · cases hg
theorem cd_any : CallD X (rAny X.K) (gBools (·.any id)) := by
  intro Γ σ H G s v a c Q S v1 hg hq
  unfold gBools at hg
  split at hg
  · rename_i ds
    cases e : boolsOf ds with
    | none => rw [e] at hg; cases hg
    | some bs =>
      rw [e] at hg
      cases hg
      obtain ⟨p, vs, rfl, h1, q1⟩ := v1
      rw [boolsOf_map e] at q1
      exact ⟨p, bs, rfl, .inl (.inl (by rw [h1, q1.bools])), hq _ H G S .refl (.new (fa := Γ.fa) (.bl _))⟩
  · cases hg
/-! ### max, min of ints -/
def intsOf : List PyData → Option (List Int)
  | [] => some []
  | .int b :: r => (intsOf r).map (b :: ·)
  | _ :: _ => none
theorem intsOf_map : ∀ {ds : List PyData} {bs : List Int}, intsOf ds = some bs → ds = bs.map PyData.int
  | [], bs, h => by cases h; rfl
  | .int b :: r, bs, h => by
    unfold intsOf at h
    cases e : intsOf r with
    | none => rw [e] at h; cases h
    | some cs => rw [e] at h; cases h; rw [intsOf_map e]; rfl
  | .none :: _, _, h => by cases h
  | .bool _ :: _, _, h => by cases h
  | .str _ :: _, _, h => by cases h
  | .list _ :: _, _, h => by cases h
  | .tuple _ :: _, _, h => by cases h
  | .dict _ :: _, _, h => by cases h
theorem intsOf_ints : ∀ bs : List Int, intsOf (bs.map PyData.int) = some bs
  | [] => rfl
  | b :: r => by simp [intsOf, intsOf_ints r]
def maxI : List Int → Option Int
  | [] => none
  | a :: r => some (r.foldl max a)
def minI : List Int → Option Int
  | [] => none
  | a :: r => some (r.foldl min a)
theorem foldl_max_le : ∀ (r : List Int) (a y : Int), (y = a ∨ y ∈ r) → y ≤ r.foldl max a
  | [], a, y, h => by
    rcases h with h | h
    · rw [h]; exact Int.le_refl _
    · cases h
  | b :: r, a, y, h => by
    rw [List.foldl_cons]
    rcases h with h | h
    · exact Int.le_trans (by rw [h]; omega) (foldl_max_le r (max a b) _ (.inl rfl))
    · rcases List.mem_cons.mp h with h | h
      · exact Int.le_trans (by rw [h]; omega) (foldl_max_le r (max a b) _ (.inl rfl))
      · exact foldl_max_le r _ y (.inr h)
theorem foldl_max_mem : ∀ (r : List Int) (a : Int), r.foldl max a = a ∨ r.foldl max a ∈ r
  | [], a => .inl rfl
  | b :: r, a => by
    rw [List.foldl_cons]
    rcases foldl_max_mem r (max a b) with h | h
    · by_cases z : a ≤ b
      · exact .inr (by rw [h, Int.max_eq_right z]; exact List.mem_cons_self)
      · exact .inl (by rw [h, Int.max_eq_left (by omega)])
    · exact .inr (List.mem_cons_of_mem _ h)
theorem foldl_min_le : ∀ (r : List Int) (a y : Int), (y = a ∨ y ∈ r) → r.foldl min a ≤ y
  | [], a, y, h => by
    rcases h with h | h
    · rw [h]; exact Int.le_refl _
    · cases h
  | b :: r, a, y, h => by
    rw [List.foldl_cons]
    rcases h with h | h
    · exact Int.le_trans (foldl_min_le r (min a b) _ (.inl rfl)) (by rw [h]; omega)
    · rcases List.mem_cons.mp h with h | h
      · exact Int.le_trans (foldl_min_le r (min a b) _ (.inl rfl)) (by rw [h]; omega)
      · exact foldl_min_le r _ y (.inr h)
theorem foldl_min_mem : ∀ (r : List Int) (a : Int), r.foldl min a = a ∨ r.foldl min a ∈ r
  | [], a => .inl rfl
  | b :: r, a => by
    rw [List.foldl_cons]
    rcases foldl_min_mem r (min a b) with h | h
    · by_cases z : a ≤ b
      · exact .inl (by rw [h, Int.min_eq_left z])
      · exact .inr (by rw [h, Int.min_eq_right (by omega)]; exact List.mem_cons_self)
    · exact .inr (List.mem_cons_of_mem _ h)
theorem maxI_of {ns : List Int} {m : Int} (h1 : m ∈ ns) (h2 : ∀ y, y ∈ ns → y ≤ m) : maxI ns = some m := by
  cases ns with
  | nil => cases h1
  | cons a r =>
    have h3 := foldl_max_le r a m (by rcases List.mem_cons.mp h1 with z | z; exact .inl z; exact .inr z)
    have h4 : r.foldl max a ≤ m := h2 _ (by rcases foldl_max_mem r a with z | z; rw [z]; exact List.mem_cons_self; exact List.mem_cons_of_mem _ z)
    show some (r.foldl max a) = some m
    rw [Int.le_antisymm h4 h3]
theorem minI_of {ns : List Int} {m : Int} (h1 : m ∈ ns) (h2 : ∀ y, y ∈ ns → m ≤ y) : minI ns = some m := by
  cases ns with
  | nil => cases h1
  | cons a r =>
    have h3 := foldl_min_le r a m (by rcases List.mem_cons.mp h1 with z | z; exact .inl z; exact .inr z)
    have h4 : m ≤ r.foldl min a := h2 _ (by rcases foldl_min_mem r a with z | z; rw [z]; exact List.mem_cons_self; exact List.mem_cons_of_mem _ z)
    show some (r.foldl min a) = some m
    rw [Int.le_antisymm h3 h4]
def gExtL (g : List Int → Option Int) : Pl → Option Pl
  | .val (.list ds) => (intsOf ds).bind fun ns => (g ns).map fun m => .val (.int m)
  | _ => none
theorem cd_maxL : CallD X (rMax X.K) (gExtL maxI) := by
  intro Γ σ H G s v a c Q S v1 hg hq
  unfold gExtL at hg
  split at hg
  · rename_i ds
    cases e : intsOf ds with
    | none => rw [e] at hg; cases hg
    | some ns =>
      rw [e, Option.bind_some] at hg
      obtain ⟨p, vs, rfl, h1, q1⟩ := v1
      rw [intsOf_map e] at q1
      refine ⟨p, ns, rfl, .inl (.inl (by rw [h1, q1.ints])), ?_, fun m m1 m2 => ?_⟩
      · cases ns with
        | nil => cases hg
        | cons => exact Nat.succ_pos _
      · rw [maxI_of m1 m2] at hg
        cases hg
        exact hq _ H G S .refl (.new (fa := Γ.fa) (.int _))
  · cases hg
theorem cd_minL : CallD X (rMin X.K) (gExtL minI) := by
  intro Γ σ H G s v a c Q S v1 hg hq
  unfold gExtL at hg
  split at hg
  · rename_i ds
    cases e : intsOf ds with
    | none => rw [e] at hg; cases hg
    | some ns =>
      rw [e, Option.bind_some] at hg
      obtain ⟨p, vs, rfl, h1, q1⟩ := v1
      rw [intsOf_map e] at q1
      refine ⟨p, ns, rfl, .inl (.inl (by rw [h1, q1.ints])), ?_, fun m m1 m2 => ?_⟩
      · cases ns with
        | nil => cases hg
        | cons => exact Nat.succ_pos _
      · rw [minI_of m1 m2] at hg
        cases hg
        exact hq _ H G S .refl (.new (fa := Γ.fa) (.int _))
  · cases hg
/-! ### int(n) -/
def gInt1 : Pl → Option Pl
  | .val (.int i) => some (.val (.int i))
  | .val (.bool b) => some (.val (.int (if b then 1 else 0)))
  | _ => none
theorem cd_int1 : CallD X (fun xs H Q => (∃ i, xs = [.int i] ∧ Q (.int i) H) ∨ ∃ k, xs = [.bl k] ∧ Q (.int (if k then 1 else 0)) H) gInt1 := by
  intro Γ σ H G s v a c Q S v1 hg hq
  unfold gInt1 at hg
  split at hg
  · rename_i i
    have e1 : Rp X.K G v (.int i) := v1
    cases e1
    cases hg
    exact .inl ⟨i, rfl, hq _ H G S .refl (.new (fa := Γ.fa) (.int _))⟩
  · rename_i b
    have e1 : Rp X.K G v (.bool b) := v1
    cases e1
    cases hg
    exact .inr ⟨b, rfl, hq _ H G S .refl (.new (fa := Γ.fa) (.int _))⟩
  · cases hg
end
end PD

set_option Elab.async false
set_option linter.all false
set_option maxRecDepth 100000
set_option maxHeartbeats 1000000
/-! PDf: sorted; max of a tuple; isinstance; slices; tests; choices. -/
namespace PD
open PySem PySem.Spec PyProof.Rows L2
/-! ### the order of texts -/
theorem ltCps_irrefl : ∀ a : List Nat, ltCps a a = false
  | [] => rfl
  | x :: r => by simp [ltCps, ltCps_irrefl r]
theorem ltCps_trans : ∀ a b c : List Nat, ltCps a b = true → ltCps b c = true → ltCps a c = true
  | [], [], _, h, _ => by cases h
  | [], _ :: _, [], _, h => by cases h
  | [], _ :: _, _ :: _, _, _ => rfl
  | _ :: _, [], _, h, _ => by cases h
  | _ :: _, _ :: _, [], _, h => by cases h
  | x :: r, y :: t, z :: u, h1, h2 => by
    have ih := ltCps_trans r t u
    simp only [ltCps, Bool.or_eq_true, decide_eq_true_eq, Bool.and_eq_true, beq_iff_eq] at h1 h2 ⊢
    rcases h1 with h1 | ⟨h1, h1'⟩
    · rcases h2 with h2 | ⟨h2, _⟩
      · exact .inl (by omega)
      · exact .inl (by omega)
    · rcases h2 with h2 | ⟨h2, h2'⟩
      · exact .inl (by omega)
      · exact .inr ⟨by omega, ih h1' h2'⟩
theorem ltCps_asymm (a b : List Nat) (h : ltCps a b = true) : ltCps b a = false := by
  cases e : ltCps b a with
  | false => rfl
  | true => have := ltCps_trans a b a h e; rw [ltCps_irrefl] at this; cases this
theorem ltCps_eq : ∀ a b : List Nat, ltCps a b = false → ltCps b a = false → a = b
  | [], [], _, _ => rfl
  | [], _ :: _, h, _ => by cases h
  | _ :: _, [], _, h => by cases h
  | x :: r, y :: t, h1, h2 => by
    simp only [ltCps, Bool.or_eq_false_iff, decide_eq_false_iff_not, Bool.and_eq_false_iff, beq_eq_false_iff_ne] at h1 h2
    have e : x = y := by omega
    subst e
    rw [ltCps_eq r t (by rcases h1.2 with z | z; exact absurd rfl z; exact z) (by rcases h2.2 with z | z; exact absurd rfl z; exact z)]
theorem str_eq {x y : Str} (h : x.cps.toList = y.cps.toList) : x = y := by
  obtain ⟨a⟩ := x
  obtain ⟨b⟩ := y
  rw [show a = b from Array.ext' h]
def leS (a b : Str) : Bool := !ltCps b.cps.toList a.cps.toList
theorem leS_total (a b : Str) : (leS a b || leS b a) = true := by
  unfold leS
  cases h : ltCps b.cps.toList a.cps.toList with
  | false => rfl
  | true => rw [ltCps_asymm _ _ h]; rfl
theorem leS_trans (a b c : Str) (h1 : leS a b = true) (h2 : leS b c = true) : leS a c = true := by
  unfold leS at *
  cases h : ltCps c.cps.toList a.cps.toList with
  | false => rfl
  | true =>
    simp only [Bool.not_eq_true'] at h1 h2
    -- c < a ≤ b, so c < b or ..
    cases e : ltCps a.cps.toList b.cps.toList with
    | true => rw [ltCps_trans _ _ _ h e] at h2; cases h2
    | false =>
      have := ltCps_eq _ _ e h1
      rw [this] at h
      rw [h] at h2; cases h2
theorem leS_antisymm (a b : Str) (h1 : leS a b = true) (h2 : leS b a = true) : a = b := by
  unfold leS at *
  simp only [Bool.not_eq_true'] at h1 h2
  exact str_eq (ltCps_eq _ _ h2 h1)
theorem rising_pw : ∀ (l : List Str) (p : Str), risingS p l = true → (p :: l).Pairwise (fun a b => leS a b = true)
  | [], p, _ => by simp
  | x :: r, p, h => by
    simp only [risingS, Bool.and_eq_true] at h
    have ih := rising_pw r x h.2
    refine List.pairwise_cons.mpr ⟨fun y hy => ?_, ih⟩
    rcases List.mem_cons.mp hy with z | z
    · rw [z]; exact h.1
    · exact leS_trans _ _ _ h.1 ((List.pairwise_cons.mp ih).1 y z)
theorem sortedS_pw {l : List Str} (h : sortedS l = true) : l.Pairwise (fun a b => leS a b = true) := by
  cases l with
  | nil => exact .nil
  | cons x r => exact rising_pw r x h
def sortS (l : List Str) : List Str := l.mergeSort leS
theorem sortS_of {l ys : List Str} (h1 : ys.Perm l) (h2 : sortedS ys = true) : ys = sortS l :=
  List.Perm.eq_of_pairwise (fun a b _ _ => leS_antisymm a b) (sortedS_pw h2) (List.pairwise_mergeSort leS_trans leS_total l) (h1.trans (List.mergeSort_perm l leS).symm)
def leI (a b : Int) : Bool := decide (a ≤ b)
def sortI (l : List Int) : List Int := l.mergeSort leI
theorem sortI_pw (l : List Int) : (sortI l).Pairwise (· ≤ ·) := by
  have := List.pairwise_mergeSort (le := leI) (fun a b c h1 h2 => by simp [leI] at *; omega) (fun a b => by simp [leI]; omega) l
  exact this.imp fun h => by simpa [leI] using h
theorem sortI_of {l ys : List Int} (h1 : ys.Perm l) (h2 : ys.Pairwise (· ≤ ·)) : ys = sortI l :=
  List.Perm.eq_of_pairwise (fun a b _ _ => Int.le_antisymm) h2 (sortI_pw l) (h1.trans (List.mergeSort_perm l leI).symm)
def strsOf : List PyData → Option (List Str)
  | [] => some []
  | .str b :: r => (strsOf r).map (b :: ·)
  | _ :: _ => none
theorem strsOf_map : ∀ {ds : List PyData} {bs : List Str}, strsOf ds = some bs → ds = bs.map PyData.str
  | [], bs, h => by cases h; rfl
  | .str b :: r, bs, h => by
    unfold strsOf at h
    cases e : strsOf r with
    | none => rw [e] at h; cases h
    | some cs => rw [e] at h; cases h; rw [strsOf_map e]; rfl
  | .none :: _, _, h => by cases h
  | .bool _ :: _, _, h => by cases h
  | .int _ :: _, _, h => by cases h
  | .list _ :: _, _, h => by cases h
  | .tuple _ :: _, _, h => by cases h
  | .dict _ :: _, _, h => by cases h
theorem strsOf_strs : ∀ bs : List Str, strsOf (bs.map PyData.str) = some bs
  | [] => rfl
  | b :: r => by simp [strsOf, strsOf_strs r]
section
variable {X : Cx} {Γ : Gm}
def gSortI : Pl → Option Pl
  | .val (.list ds) => (intsOf ds).bind fun ns => if ns.length < 64 then some (.ownL ((sortI ns).map .int)) else none
  | _ => none
def gSortS : Pl → Option Pl
  | .val (.list ds) => (strsOf ds).bind fun ns => if ns.length < 64 then some (.ownL ((sortS ns).map .str)) else none
  | _ => none
def keysI : List (Key × PyData) → Option (List Int)
  | [] => some []
  | (.inl i, _) :: r => (keysI r).map (i :: ·)
  | _ :: _ => none
theorem keysI_map : ∀ {kvs : List (Key × PyData)} {ks : List Int}, keysI kvs = some ks → kvs.map (·.1) = ks.map Sum.inl
  | [], _, h => by cases h; rfl
  | (.inl i, d) :: r, ks, h => by
    unfold keysI at h
    cases e : keysI r with
    | none => rw [e] at h; cases h
    | some cs => rw [e] at h; cases h; simp [keysI_map e]
  | (.inr _, _) :: _, _, h => by cases h
def gSortD : Pl → Option Pl
  | .dic kvs => (keysI kvs).bind fun ns => if ns.length < 64 then some (.ownL ((sortI ns).map .int)) else none
  | _ => none
theorem cd_sortI : CallD X (rSorted X.K) gSortI := by
  intro Γ σ H G s v a c Q S v1 hg hq
  unfold gSortI at hg
  split at hg
  · rename_i ds
    cases e : intsOf ds with
    | none => rw [e] at hg; cases hg
    | some ns =>
      rw [e, Option.bind_some] at hg
      obtain ⟨p, vs, rfl, h1, q1⟩ := v1
      rw [intsOf_map e] at q1
      by_cases hz : ns.length < 64
      · rw [if_pos hz] at hg
        cases hg
        refine ⟨p, ns, rfl, .inl (.inl (by rw [h1, q1.ints])), hz, fun ys n m1 m2 hn => ?_⟩
        have e2 := sortI_of m1 m2
        subst e2
        exact newL S (RpAll.of_ints _) hq n hn
      · rw [if_neg hz] at hg; cases hg
  · cases hg
theorem cd_sortS : CallD X (rSortedS X.K) gSortS := by
  intro Γ σ H G s v a c Q S v1 hg hq
  unfold gSortS at hg
  split at hg
  · rename_i ds
    cases e : strsOf ds with
    | none => rw [e] at hg; cases hg
    | some ns =>
      rw [e, Option.bind_some] at hg
      obtain ⟨p, vs, rfl, h1, q1⟩ := v1
      rw [strsOf_map e] at q1
      by_cases hz : ns.length < 64
      · rw [if_pos hz] at hg
        cases hg
        refine ⟨p, ns, rfl, .inl (.inl (by rw [h1, q1.strs])), hz, fun ys n m1 m2 hn => ?_⟩
        have e2 := sortS_of m1 m2
        subst e2
        exact newL S (RpAll.of_strs _) hq n hn
      · rw [if_neg hz] at hg; cases hg
  · cases hg
theorem cd_sortD : CallD X (fun xs H Q => ∃ (a : Addr) (kvs : List (Key × V)) (ks : List Int), xs = [.ref a] ∧ Rd H a (.dK kvs) ∧ kvs.map (·.1) = ks.map Sum.inl ∧ ks.length < 64 ∧
    ∀ (ys : List Int) (p : Addr), ys.Perm ks → ys.Pairwise (· ≤ ·) → H p = none → Q (.ref p) (upd H p (.lst (ys.map V.int)))) gSortD := by
  intro Γ σ H G s v a c Q S v1 hg hq
  unfold gSortD at hg
  split at hg
  · rename_i kvs
    cases e : keysI kvs with
    | none => rw [e] at hg; cases hg
    | some ns =>
      rw [e, Option.bind_some] at hg
      obtain ⟨p, kv, rfl, h1, q1⟩ := v1
      have hk : ∀ {a : List (Key × V)} {b : List (Key × PyData)}, KVRp X.K G a b → a.map (·.1) = b.map (·.1) := by
        intro a b h
        induction h with
        | nil => rfl
        | cons h t ih => rw [List.map_cons, List.map_cons, ih, h.1]
      by_cases hz : ns.length < 64
      · rw [if_pos hz] at hg
        cases hg
        refine ⟨p, kv, ns, rfl, .inl h1, by rw [hk q1, keysI_map e], hz, fun ys n m1 m2 hn => ?_⟩
        have e2 := sortI_of m1 m2
        subst e2
        exact newL S (RpAll.of_ints _) hq n hn
      · rw [if_neg hz] at hg; cases hg
  · cases hg
def gSorted : Pl → Option Pl := gOr1 gSortI (gOr1 gSortS gSortD)
theorem pd_sorted {e : Expr} {p pos : Pos} {f : Ef} (hc : X.calm = true) (h : P1d X Γ e f) (hg : Gl X "sorted") (hm : X.mg "sorted" = none) (he : starEach [e] X.env = (false, eval e X.env) :: starEach [] X.env := by rfl) (hpl : (backTo pos (starEach [] X.env)).any (·.1) = false := by rfl) :
    PEd X Γ (.Call (.Name "sorted" p) [e] [] pos) (fUn f gSorted) := by
  refine PEd.or (pd_callB h cr_sorted cd_sortI hg hm boot_sorted (by decide) (by decide) he hpl) (g := fUn f (gOr1 gSortS gSortD)) ?_ fun s r s' e => fUn_or e
  exact PEd.or (pd_callB h cr_sortedS cd_sortS hg hm boot_sorted (by decide) (by decide) he hpl) (pd_callB h (call_sortedDI hc) cd_sortD hg hm boot_sorted (by decide) (by decide) he hpl) fun s r s' e => fUn_or e

/-! ### max, min of a tuple of ints -/
def rMaxT (K : PySem.W.Frag) : List V → Hp → VK → Prop := fun vs H Q => ∃ (a : Addr) (ns : List Int), vs = [V.ref a] ∧ SqT K H a (ns.map V.int) ∧ 0 < ns.length ∧ ∀ m, m ∈ ns → (∀ y, y ∈ ns → y ≤ m) → Q (.int m) H
theorem max_fold (x : Int) (xs : List Int) : PySem.W.maxOf x xs = xs.foldl max x := by
  unfold PySem.W.maxOf
  congr 1
  funext a b
  show (if decide (a < b) = true then b else a) = max a b
  simp only [decide_eq_true_eq]
  split <;> omega
theorem cr_maxT {k : Nat} (hr : Room k X.A) (hc : X.calm = true) : CallR X (.builtin "max") (rMaxT X.K) := by
  intro pins s σ H vs us Q I r h
  obtain ⟨a, ns, rfl, hs, hne, q⟩ := h
  obtain ⟨its, rv, hl, _⟩ := I.tuple hs
  rw [Vals.ref1 r]
  cases ns with
  | nil => cases hne
  | cons x xs =>
    have hu := hr.units
    refine PySem.W.max_tuple_datum (α := Int) (I.ok.hd hc) (x := x) (xs := xs) hl (PySem.W.HoldAll.of_ints rv.ints) (by show X.A.units + 1 + 0 < cLine; omega) fun i v h' tk hi hh hk => ?_
    rw [max_fold] at hh
    have hm : xs.foldl max x ∈ x :: xs := by
      rcases foldl_max_mem xs x with z | z
      · rw [z]; exact List.mem_cons_self
      · exact List.mem_cons_of_mem _ z
    obtain ⟨bs, hb⟩ := hh
    have hv : ∃ t, v = Value.int (xs.foldl max x) t := by
      cases hb with
      | int n t => exact ⟨t, rfl⟩
    obtain ⟨t, rfl⟩ := hv
    exact ⟨.int _, H, I.kept (t' := tk) hk, ⟨_, rfl⟩, q _ hm fun y hy => foldl_max_le xs x y (by rcases List.mem_cons.mp hy with z | z; exact .inl z; exact .inr z)⟩
def gExtT (g : List Int → Option Int) : Pl → Option Pl
  | .val (.tuple ds) => (intsOf ds).bind fun ns => (g ns).map fun m => .val (.int m)
  | _ => none
theorem cd_maxT : CallD X (rMaxT X.K) (gExtT maxI) := by
  intro Γ σ H G s v a c Q S v1 hg hq
  unfold gExtT at hg
  split at hg
  · rename_i ds
    cases e : intsOf ds with
    | none => rw [e] at hg; cases hg
    | some ns =>
      rw [e, Option.bind_some] at hg
      obtain ⟨p, vs, rfl, h1, q1⟩ := Rp.tupI v1
      rw [intsOf_map e] at q1
      refine ⟨p, ns, rfl, by rw [← q1.ints]; exact (h1.mono S.sub).sqt, ?_, fun m m1 m2 => ?_⟩
      · cases ns with
        | nil => cases hg
        | cons => exact Nat.succ_pos _
      · rw [maxI_of m1 m2] at hg
        cases hg
        exact hq _ H G S .refl (.new (fa := Γ.fa) (.int _))
  · cases hg
def gMax : Pl → Option Pl := gOr1 (gExtL maxI) (gExtT maxI)
theorem pd_max {e : Expr} {p pos : Pos} {f : Ef} {k : Nat} (hr : Room k X.A) (hc : X.calm = true) (h : P1d X Γ e f) (hg : Gl X "max") (hm : X.mg "max" = none) (he : starEach [e] X.env = (false, eval e X.env) :: starEach [] X.env := by rfl) (hpl : (backTo pos (starEach [] X.env)).any (·.1) = false := by rfl) :
    PEd X Γ (.Call (.Name "max" p) [e] [] pos) (fUn f gMax) :=
  PEd.or (pd_callB h (cr_max hc) cd_maxL hg hm boot_max (by decide) (by decide) he hpl) (pd_callB h (cr_maxT hr hc) cd_maxT hg hm boot_max (by decide) (by decide) he hpl) fun s r s' e => fUn_or e
theorem pd_min {e : Expr} {p pos : Pos} {f : Ef} (hc : X.calm = true) (h : P1d X Γ e f) (hg : Gl X "min") (hm : X.mg "min" = none) (he : starEach [e] X.env = (false, eval e X.env) :: starEach [] X.env := by rfl) (hpl : (backTo pos (starEach [] X.env)).any (·.1) = false := by rfl) :
    PEd X Γ (.Call (.Name "min" p) [e] [] pos) (fUn f (gExtL minI)) := pd_callB h (cr_min hc) cd_minL hg hm boot_min (by decide) (by decide) he hpl
theorem pd_all {e : Expr} {p pos : Pos} {f : Ef} (hc : X.calm = true) (h : P1d X Γ e f) (hg : Gl X "all") (hm : X.mg "all" = none) (he : starEach [e] X.env = (false, eval e X.env) :: starEach [] X.env := by rfl) (hpl : (backTo pos (starEach [] X.env)).any (·.1) = false := by rfl) :
    PEd X Γ (.Call (.Name "all" p) [e] [] pos) (fUn f (gBools (·.all id))) := pd_callB h (cr_all hc) cd_all hg hm (by decide +kernel) (by decide) (by decide) he hpl
theorem pd_any {e : Expr} {p pos : Pos} {f : Ef} (hc : X.calm = true) (h : P1d X Γ e f) (hg : Gl X "any") (hm : X.mg "any" = none) (he : starEach [e] X.env = (false, eval e X.env) :: starEach [] X.env := by rfl) (hpl : (backTo pos (starEach [] X.env)).any (·.1) = false := by rfl) :
    PEd X Γ (.Call (.Name "any" p) [e] [] pos) (fUn f (gBools (·.any id))) := pd_callB h (cr_any hc) cd_any hg hm (by decide +kernel) (by decide) (by decide) he hpl
theorem pd_int1 {e : Expr} {p pos : Pos} {f : Ef} (h : P1d X Γ e f) (hg : Gl X "int") (hm : X.mg "int" = none) (he : starEach [e] X.env = (false, eval e X.env) :: starEach [] X.env := by rfl) (hpl : (backTo pos (starEach [] X.env)).any (·.1) = false := by rfl) :
    PEd X Γ (.Call (.Name "int" p) [e] [] pos) (fUn f gInt1) := pd_callTy h call_int1 cd_int1 hg hm boot_int (by decide) (by decide) he hpl

/-! ### isinstance(x, T), T a builtin class -/
def tyName : PyData → String
  | .none => "NoneType"
  | .bool _ => "bool"
  | .int _ => "int"
  | .str _ => "str"
  | .list _ => "list"
  | .tuple _ => "tuple"
  | .dict _ => "dict"
def isi (n : String) (d : PyData) : Bool := tyName d == n || (tyName d == "bool" && n == "int")
def rIsiF (K : PySem.W.Frag) (n : String) : V → Hp → VK → Prop := fun x H Q => ∃ (t : String) (b : Bool), (TyX K H x (.type t) ∨ (t = "tuple" ∧ ∃ a o xs, x = .ref a ∧ H a = some (.frz o (.tup xs)))) ∧ kitB t n = some b ∧ Q (.bl b) H
theorem call_isiF {n : String} : CallR X (.builtin "isinstance") (fun xs H Q => ∃ x, xs = [x, .ty n] ∧ rIsiF X.K n x H Q) := by
  intro pins s σ H xs us Q I r h
  obtain ⟨x, rfl, t, b, ty, e, q⟩ := h
  rcases ty with ty | ⟨rfl, a, o, ys, rfl, hf⟩
  · exact call_isi pins s σ H [x, .ty n] us Q I r ⟨x, .ty n, .type t, .type n, b, rfl, .ty n, ty, kit_ty e, q⟩
  · obtain ⟨u1, u2, rfl, r1, r2⟩ := vals2 r
    have e2 := (ClsV.ty n).eq r2
    subst e2
    cases r1
    obtain ⟨_, _, _, _, o2, h1, h2, _⟩ := (show ObjOk X.prog X.w H s.heap a (.frz o (.tup ys)) from I.hok a _ hf)
    exact PySem.W.kia_one PySem.W.kitx_tuple I.kIn ⟨o2, h1, h2⟩ (kit_ty e) (fun z => nomatch z) fun tk => ⟨.bl b, H, I.tok tk, rfl, q⟩
def gIsi (n : String) : Pl → Option Pl
  | .val d => some (.val (.bool (isi n d)))
  | _ => none
theorem kitB_isi : ∀ (n : String), n = "int" ∨ n = "str" ∨ n = "bool" ∨ n = "tuple" ∨ n = "list" → ∀ d : PyData, kitB (tyName d) n = some (isi n d) := by
  intro n hn d
  have base : ∀ t : String, t = "NoneType" ∨ t = "bool" ∨ t = "int" ∨ t = "str" ∨ t = "list" ∨ t = "tuple" ∨ t = "dict" → kitB t n = some (t == n || (t == "bool" && n == "int")) := by
    intro t ht
    rcases hn with rfl | rfl | rfl | rfl | rfl <;> rcases ht with rfl | rfl | rfl | rfl | rfl | rfl | rfl <;> decide +kernel
  unfold isi
  exact base _ (by cases d <;> simp [tyName])
theorem View.ty {K : PySem.W.Frag} {fa : Addr} {H G : Hp} {v : V} {d : PyData} (sub : Same G H) (h : View K fa H G v (.val d)) : TyX K H v (.type (tyName d)) ∨ (tyName d = "tuple" ∧ ∃ a o xs, v = .ref a ∧ H a = some (.frz o (.tup xs))) := by
  cases d with
  | none => cases (show Rp K G v .none from h); exact .inl (.base .non)
  | bool b => cases (show Rp K G v (.bool b) from h); exact .inl (.base (.bl _))
  | int b => cases (show Rp K G v (.int b) from h); exact .inl (.base (.int _))
  | str b => cases (show Rp K G v (.str b) from h); exact .inl (.base (.str _))
  | list ds => obtain ⟨p, vs, rfl, h1, _⟩ := h; exact .inl (.base (.lst h1))
  | tuple ds =>
    obtain ⟨p, vs, rfl, h1, _⟩ := Rp.tupI h
    rcases h1 with ⟨o, h1, _⟩ | ⟨o, its, n, h1, h2, _⟩
    · exact .inr ⟨rfl, p, o, vs, rfl, sub _ _ h1⟩
    · exact .inl (.kTuple h1 h2)
  | dict ds => cases (show Rp K G v (.dict ds) from h)
theorem pd_isi {e : Expr} {n : Str} {T : String} {p pn pos : Pos} {f : Ef} (hT : T = "int" ∨ T = "str" ∨ T = "bool" ∨ T = "tuple" ∨ T = "list") (h : P1d X Γ e f) (hg : Gl X "isinstance") (hm : X.mg "isinstance" = none) (hg2 : Gl X n) (hm2 : X.mg n = none) (hv : bootBuiltins n = some (.type T))
    (hn : n ≠ "__name__" := by decide) (hdb : (n == ("__debug__" : Str)) = false := by decide) (he : starEach [e, .Name n pn] X.env = (false, eval e X.env) :: starEach [.Name n pn] X.env := by rfl) (he2 : starEach [.Name n pn] X.env = (false, eval (.Name n pn) X.env) :: starEach [] X.env := by rfl)
    (hpl : (backTo pos (starEach [.Name n pn] X.env)).any (·.1) = false := by rfl) :
    PEd X Γ (.Call (.Name "isinstance" p) [e, .Name n pn] [] pos) (fUn f (gIsi T)) := by
  obtain ⟨te, ht, k⟩ := h
  refine ⟨_, pe_callB (call_isiF (n := T)) hg hm boot_isinstance (pa_cons ht (pa_cons (pe_bltn (v := .ty T) hg2 hm2 hv rfl hn hdb) pa_nil he2) he) (by decide) (by decide) he hpl, fun σ H G s s' c Q S hf hq => ?_⟩
  unfold fUn at hf
  cases h1 : f s with
  | none => rw [h1] at hf; cases hf
  | some q =>
    obtain ⟨a, s1⟩ := q
    rw [h1, Option.bind_some] at hf
    cases a with
    | val d =>
      simp only [gIsi, Option.map_some, Option.some.injEq, Prod.mk.injEq] at hf
      obtain ⟨rfl, rfl⟩ := hf
      refine k σ H G s _ _ _ S h1 fun v H1 G1 S1 T1 v1 => ?_
      exact ⟨v, rfl, tyName d, isi T d, v1.ty S1.sub, kitB_isi T hT d, hq _ H1 G1 S1 T1 (.new (fa := Γ.fa) (.bl _))⟩
    | fd => cases hf
    | dic k => cases hf
    | ownL k => cases hf
    | ownK k => cases hf
end
end PD

set_option Elab.async false
set_option linter.all false
set_option maxRecDepth 100000
set_option maxHeartbeats 1000000
/-! PDg: tests; comparisons; and, or, not; choices; chains; slices; index. -/
namespace PD
open PySem PySem.Spec PyProof.Rows L2
abbrev Bf := DS → Option (Bool × DS)
section
variable {X : Cx} {Γ : Gm}
def PTd (X : Cx) (Γ : Gm) (e : Expr) (f : Bf) : Prop :=
  ∃ t : TT, PT X e t ∧ ∀ (σ : L2.St) (H G : Hp) (s s' : DS) (b : Bool) (Q : Bool → Hp → Prop), Sta X.K Γ σ H G s → f s = some (b, s') →
    (∀ H' G', Sta X.K Γ σ H' G' s' → Stp Γ σ H G s H' G' s' → Q b H') → t σ H Q
def PWd (X : Cx) (Γ : Gm) (e : Expr) (f : Bf) : Prop :=
  ∃ t : TT, PW X e t ∧ ∀ (σ : L2.St) (H G : Hp) (s s' : DS) (b : Bool) (Q : Bool → Hp → Prop), Sta X.K Γ σ H G s → f s = some (b, s') →
    (∀ H' G', Sta X.K Γ σ H' G' s' → Stp Γ σ H G s H' G' s' → Q b H') → t σ H Q
theorem PWd.pt {e : Expr} {f : Bf} (h : PWd X Γ e f) : PTd X Γ e f := by
  obtain ⟨t, p, k⟩ := h
  exact ⟨t, p.pt, k⟩
theorem PTd.or {e : Expr} {f g h : Bf} (h1 : PTd X Γ e f) (h2 : PTd X Γ e g) (hh : ∀ s r s', h s = some (r, s') → f s = some (r, s') ∨ g s = some (r, s')) : PTd X Γ e h := by
  obtain ⟨t1, p1, k1⟩ := h1
  obtain ⟨t2, p2, k2⟩ := h2
  refine ⟨fun σ H Q => t1 σ H Q ∨ t2 σ H Q, ⟨fun pins s σ H Q I q => ?_⟩, fun σ H G s s' r Q S hf hq => ?_⟩
  · rcases q with q | q
    · exact p1.run pins s σ H Q I q
    · exact p2.run pins s σ H Q I q
  · rcases hh s r s' hf with e | e
    · exact .inl (k1 σ H G s s' r Q S e hq)
    · exact .inr (k2 σ H G s s' r Q S e hq)
/-- a bool's value -/
def fB (f : Ef) : Bf := fun s => match f s with
  | some (.val (.bool b), s') => some (b, s')
  | _ => none
theorem fB_some {f : Ef} {s s' : DS} {b : Bool} (h : fB f s = some (b, s')) : f s = some (.val (.bool b), s') := by
  unfold fB at h
  split at h
  · rename_i e; cases h; exact e
  · cases h
theorem fB_or {f f1 f2 : Ef} (hh : ∀ s r s', f s = some (r, s') → f1 s = some (r, s') ∨ f2 s = some (r, s')) : ∀ s r s', fB f s = some (r, s') → fB f1 s = some (r, s') ∨ fB f2 s = some (r, s') := fun s r s' h => by
  rcases hh s _ s' (fB_some h) with e | e
  · exact .inl (by unfold fB; rw [e])
  · exact .inr (by unfold fB; rw [e])
/-- truth -/
def gTru : Pl → Option Bool
  | .val .none => some false
  | .val (.bool b) => some b
  | .val (.int i) => some (i != 0)
  | .val (.str x) => if x.length ≤ sizeLine then some ((x.length : Int) != 0) else none
  | .val (.list ds) => some (!ds.isEmpty)
  | .val (.tuple ds) => some (!ds.isEmpty)
  | .dic kvs => some (!kvs.isEmpty)
  | _ => none
def fTru (f : Ef) : Bf := fun s => (f s).bind fun (a, s') => (gTru a).map fun b => (b, s')
theorem RpAll.isEmpty {K : PySem.W.Frag} {G : Hp} {vs : List V} {ds : List PyData} (h : RpAll K G vs ds) : vs.isEmpty = ds.isEmpty := by
  cases h <;> rfl
theorem KVRp.isEmpty {K : PySem.W.Frag} {G : Hp} {vs : List (Key × V)} {ds : List (Key × PyData)} (h : KVRp K G vs ds) : vs.isEmpty = ds.isEmpty := by
  cases h <;> rfl
theorem View.tru {K : PySem.W.Frag} {fa : Addr} {H G : Hp} {v : V} {r : Pl} {b : Bool} (sub : Same G H) (h : View K fa H G v r) (e : gTru r = some b) : TruV K v H b := by
  cases r with
  | val d =>
    cases d with
    | none => cases (show Rp K G v .none from h); cases e; rfl
    | bool b => cases (show Rp K G v (.bool b) from h); cases e; rfl
    | int b => cases (show Rp K G v (.int b) from h); cases e; rfl
    | str x =>
      cases (show Rp K G v (.str x) from h)
      replace e : (if x.length ≤ sizeLine then some ((x.length : Int) != 0) else none) = some b := e
      by_cases hz : x.length ≤ sizeLine
      · rw [if_pos hz] at e; cases e; exact ⟨hz, rfl⟩
      · rw [if_neg hz] at e; cases e
    | list ds => obtain ⟨p, vs, rfl, h1, q⟩ := h; cases e; exact .inl ⟨vs, .inl (.inl h1), by rw [q.isEmpty]⟩
    | tuple ds => obtain ⟨p, vs, rfl, h1, q⟩ := Rp.tupI h; cases e; exact .inr (.inl ⟨vs, (h1.mono sub).sqt, by rw [q.isEmpty]⟩)
    | dict ds => cases e
  | dic kvs => obtain ⟨p, kv, rfl, h1, q⟩ := h; cases e; exact .inr (.inr ⟨kv, h1, by rw [q.isEmpty]⟩)
  | fd => cases e
  | ownL k => cases e
  | ownK k => cases e
theorem pt_tru {e : Expr} {f : Ef} (h : P1d X Γ e f) (he : ∀ whole, isTrue e X.env whole = (do let v ← whole; standAt e.pos; holding [v] (truthy v)) := by intro _; rfl) : PTd X Γ e (fTru f) := by
  obtain ⟨t, p, k⟩ := h
  refine ⟨_, pt_truth p he, fun σ H G s s' b Q S hf hq => ?_⟩
  unfold fTru at hf
  cases h1 : f s with
  | none => rw [h1] at hf; cases hf
  | some q =>
    obtain ⟨a, s1⟩ := q
    rw [h1, Option.bind_some] at hf
    cases h2 : gTru a with
    | none => simp only [h2, Option.map_none] at hf; cases hf
    | some z =>
      simp only [h2, Option.map_some, Option.some.injEq, Prod.mk.injEq] at hf
      obtain ⟨rfl, rfl⟩ := hf
      exact k σ H G s _ a _ S h1 fun v H1 G1 S1 T1 v1 => ⟨_, v1.tru S1.sub h2, hq H1 G1 S1 T1⟩

/-! ### comparisons, as values and as tests -/
structure CmpD (X : Cx) (Γ : Gm) (e : Expr) (f : Ef) : Prop where
  v : PEd X Γ e f
  t : PTd X Γ e (fB f)
theorem CmpD.or {e : Expr} {f g h : Ef} (h1 : CmpD X Γ e f) (h2 : CmpD X Γ e g) (hh : ∀ s r s', h s = some (r, s') → f s = some (r, s') ∨ g s = some (r, s')) : CmpD X Γ e h :=
  ⟨PEd.or h1.v h2.v hh, PTd.or h1.t h2.t (fB_or hh)⟩
theorem cd_cmp {a b : Expr} {op : CmpOp} {pos : Pos} {f : DS → Option (Pl × Pl × DS)} {r : R2} {g : Pl → Pl → Option Pl} (h : P2d X Γ a b f) (hr : OpR X (compareOp op) r) (ho : OpD X r g) (hm : behindInMarks op b = false) :
    CmpD X Γ (.Compare a [op] [b] pos) (fBin f g) := by
  refine ⟨pd_cmp h hr ho hm, ?_⟩
  obtain ⟨ta, tb, ha, hb, k⟩ := pd_tOp h ho
  refine ⟨_, pt_cmpR hr ha hb hm, fun σ H G s s' b Q S hf hq => ?_⟩
  refine k σ H G s s' _ _ S (fB_some hf) fun v H1 G1 S1 T1 g1 => ?_
  cases (show Rp X.K G1 v (.bool b) from g1.rp)
  exact ⟨b, rfl, hq H1 G1 S1 T1⟩
theorem cd_pc {a b : Expr} {op : CmpOp} {pos : Pos} {f : DS → Option (Pl × Pl × DS)} {r : R2} {g : Pl → Pl → Option Pl} (h : P2d X Γ a b f) (hr : ∀ {ta tb : TE}, PE X a ta → PE X b tb → PC X op a b (tOp r ta tb)) (ho : OpD X r g) (hm : behindInMarks op b = false) :
    CmpD X Γ (.Compare a [op] [b] pos) (fBin f g) := by
  obtain ⟨ta, tb, ha, hb, k⟩ := pd_tOp h ho
  refine ⟨⟨_, pe_cmp (hr ha hb) hm, k⟩, ⟨_, pt_cmp (hr ha hb) hm, fun σ H G s s' b Q S hf hq => ?_⟩⟩
  refine k σ H G s s' _ _ S (fB_some hf) fun v H1 G1 S1 T1 g1 => ?_
  cases (show Rp X.K G1 v (.bool b) from g1.rp)
  exact ⟨b, rfl, hq H1 G1 S1 T1⟩
variable {a b : Expr} {pos : Pos} {f : DS → Option (Pl × Pl × DS)}
theorem c_in (hu : X.A.units + 65 < cLine) (h : P2d X Γ a b f) (hm : behindInMarks .In b = false := by rfl) : CmpD X Γ (.Compare a [.In] [b] pos) (fBin f (gIn false)) := by
  refine CmpD.or (g := fBin f (gOr (gInS false) (gDIn false))) (cd_cmp h ((op_inD hu).or (op_inT hu)) (od_inL.or od_inT) hm) ?_ fun s r s' e => fBin_or e
  exact CmpD.or (g := fBin f (gDIn false)) (cd_cmp h op_in_sign od_inS hm) (cd_pc h (fun ha hb => pc_din (by omega) ha hb) (od_din (neg := false)) hm) fun s r s' e => fBin_or e
theorem c_notIn (hu : X.A.units + 65 < cLine) (h : P2d X Γ a b f) (hm : behindInMarks .NotIn b = false := by rfl) : CmpD X Γ (.Compare a [.NotIn] [b] pos) (fBin f (gIn true)) := by
  refine CmpD.or (g := fBin f (gOr (gInS true) (gDIn true))) (cd_cmp h ((op_notInD hu).or (op_notInT hu)) (od_notInL.or od_inT) hm) ?_ fun s r s' e => fBin_or e
  exact CmpD.or (g := fBin f (gDIn true)) (cd_cmp h op_notIn_sign od_notInS hm) (cd_pc h (fun ha hb => pc_dnotin (by omega) ha hb) (od_din (neg := true)) hm) fun s r s' e => fBin_or e
theorem c_eq (hu : X.A.units + 64 < cLine) (h : P2d X Γ a b f) : CmpD X Γ (.Compare a [.Eq] [b] pos) (fBin f (gEq false)) := cd_cmp h (op_eqD hu) od_eqD (nomark _)
theorem c_ne (hu : X.A.units + 64 < cLine) (h : P2d X Γ a b f) : CmpD X Γ (.Compare a [.NotEq] [b] pos) (fBin f (gEq true)) := cd_cmp h (op_neD hu) od_neD (nomark _)
def gLt : Pl → Pl → Option Pl := gOr (gI (fun _ _ => true) fun i j => .bool (decide (i < j))) (gS (fun _ _ => true) fun i j => .bool (decide (i.cps.toList < j.cps.toList)))
def gLe : Pl → Pl → Option Pl := gOr (gI (fun _ _ => true) fun i j => .bool (decide (i ≤ j))) (gS (fun _ _ => true) fun i j => .bool (!decide (j.cps.toList < i.cps.toList)))
def gGt : Pl → Pl → Option Pl := gOr (gI (fun _ _ => true) fun i j => .bool (decide (j < i))) (gS (fun _ _ => true) fun i j => .bool (decide (j.cps.toList < i.cps.toList)))
def gGe : Pl → Pl → Option Pl := gOr (gI (fun _ _ => true) fun i j => .bool (decide (j ≤ i))) (gS (fun _ _ => true) fun i j => .bool (!decide (i.cps.toList < j.cps.toList)))
theorem c_lt (h : P2d X Γ a b f) : CmpD X Γ (.Compare a [.Lt] [b] pos) (fBin f gLt) := cd_cmp h (op_lt.or op_lt_str) ((od_I0 fun _ _ _ _ => .bl _).or (od_S0 fun _ _ _ _ => .bl _)) (nomark _)
theorem c_le (h : P2d X Γ a b f) : CmpD X Γ (.Compare a [.LtE] [b] pos) (fBin f gLe) := cd_cmp h (op_le.or op_le_str) ((od_I0 fun _ _ _ _ => .bl _).or (od_S0 fun _ _ _ _ => .bl _)) (nomark _)
theorem c_gt (h : P2d X Γ a b f) : CmpD X Γ (.Compare a [.Gt] [b] pos) (fBin f gGt) := cd_cmp h (op_gt.or op_gt_str) ((od_I0 fun _ _ _ _ => .bl _).or (od_S0 fun _ _ _ _ => .bl _)) (nomark _)
theorem c_ge (h : P2d X Γ a b f) : CmpD X Γ (.Compare a [.GtE] [b] pos) (fBin f gGe) := cd_cmp h (op_ge.or op_ge_str) ((od_I0 fun _ _ _ _ => .bl _).or (od_S0 fun _ _ _ _ => .bl _)) (nomark _)
/-- a is None, a is not None -/
def gIsN (neg : Bool) : Pl → Option Pl
  | .val d => some (.val (.bool (match d with | .none => !neg | _ => neg)))
  | _ => none
theorem View.isN {K : PySem.W.Frag} {fa : Addr} {H G : Hp} {v : V} {d : PyData} (h : View K fa H G v (.val d)) : decide (v = .non) = (match d with | .none => true | _ => false) := by
  cases d with
  | none => cases (show Rp K G v .none from h); rfl
  | bool b => cases (show Rp K G v (.bool b) from h); rfl
  | int b => cases (show Rp K G v (.int b) from h); rfl
  | str x => cases (show Rp K G v (.str x) from h); rfl
  | list ds => obtain ⟨p, vs, rfl, h1, q⟩ := h; rfl
  | tuple ds => obtain ⟨p, vs, rfl, h1, q⟩ := Rp.tupI h; rfl
  | dict ds => cases (show Rp K G v (.dict ds) from h)
theorem c_isN {f : Ef} {j pos'} (h : P1d X Γ a f) : CmpD X Γ (.Compare a [.Is] [.Constant .none j pos'] pos) (fUn f (gIsN false)) := by
  obtain ⟨t, p, k⟩ := h
  have key : ∀ (σ : L2.St) (H G : Hp) (s s' : DS) (c : Pl) (Q : VK), Sta X.K Γ σ H G s → fUn f (gIsN false) s = some (c, s') → (∀ v H' G', Sta X.K Γ σ H' G' s' → Stp Γ σ H G s H' G' s' → Got X.K Γ H H' G' v c → Q v H') → tIsN t σ H Q := fun σ H G s s' c Q S hf hq => by
    unfold fUn at hf
    cases h1 : f s with
    | none => rw [h1] at hf; cases hf
    | some q =>
      obtain ⟨a, s1⟩ := q
      rw [h1, Option.bind_some] at hf
      cases a with
      | val d =>
        simp only [gIsN, Option.map_some, Option.some.injEq, Prod.mk.injEq] at hf
        obtain ⟨rfl, rfl⟩ := hf
        refine k σ H G s _ _ _ S h1 fun v H1 G1 S1 T1 v1 => ?_
        have e := v1.isN
        show Q (.bl (decide (v = .non))) H1
        rw [e]
        refine hq _ H1 G1 S1 T1 (.new (fa := Γ.fa) ?_)
        cases d <;> exact .bl _
      | fd => cases hf
      | dic k => cases hf
      | ownL k => cases hf
      | ownK k => cases hf
  refine ⟨⟨_, pe_cmp (pc_isN p) (nobehind _ (by decide) (by decide)), key⟩, ⟨_, pt_cmp (pc_isN p) (nobehind _ (by decide) (by decide)), fun σ H G s s' b Q S hf hq => ?_⟩⟩
  refine key σ H G s s' _ _ S (fB_some hf) fun v H1 G1 S1 T1 g1 => ?_
  cases (show Rp X.K G1 v (.bool b) from g1.rp)
  exact ⟨b, rfl, hq H1 G1 S1 T1⟩
theorem c_notN {f : Ef} {j pos'} (h : P1d X Γ a f) : CmpD X Γ (.Compare a [.IsNot] [.Constant .none j pos'] pos) (fUn f (gIsN true)) := by
  obtain ⟨t, p, k⟩ := h
  have key : ∀ (σ : L2.St) (H G : Hp) (s s' : DS) (c : Pl) (Q : VK), Sta X.K Γ σ H G s → fUn f (gIsN true) s = some (c, s') → (∀ v H' G', Sta X.K Γ σ H' G' s' → Stp Γ σ H G s H' G' s' → Got X.K Γ H H' G' v c → Q v H') → tNotN t σ H Q := fun σ H G s s' c Q S hf hq => by
    unfold fUn at hf
    cases h1 : f s with
    | none => rw [h1] at hf; cases hf
    | some q =>
      obtain ⟨a, s1⟩ := q
      rw [h1, Option.bind_some] at hf
      cases a with
      | val d =>
        simp only [gIsN, Option.map_some, Option.some.injEq, Prod.mk.injEq] at hf
        obtain ⟨rfl, rfl⟩ := hf
        refine k σ H G s _ _ _ S h1 fun v H1 G1 S1 T1 v1 => ?_
        have e := v1.isN
        show Q (.bl (!decide (v = .non))) H1
        rw [e]
        refine hq _ H1 G1 S1 T1 (.new (fa := Γ.fa) ?_)
        cases d <;> exact .bl _
      | fd => cases hf
      | dic k => cases hf
      | ownL k => cases hf
      | ownK k => cases hf
  refine ⟨⟨_, pe_cmp (pc_notN p) (nobehind _ (by decide) (by decide)), key⟩, ⟨_, pt_cmp (pc_notN p) (nobehind _ (by decide) (by decide)), fun σ H G s s' b Q S hf hq => ?_⟩⟩
  refine key σ H G s s' _ _ S (fB_some hf) fun v H1 G1 S1 T1 g1 => ?_
  cases (show Rp X.K G1 v (.bool b) from g1.rp)
  exact ⟨b, rfl, hq H1 G1 S1 T1⟩
end
end PD

set_option Elab.async false
set_option linter.all false
set_option maxRecDepth 100000
set_option maxHeartbeats 1000000
/-! PDh: and, or, not; choices; chains; slices; index. -/
namespace PD
open PySem PySem.Spec PyProof.Rows L2
section
variable {X : Cx} {Γ : Gm} {a b c : Expr} {pos : Pos} {rest : List Expr}
def bAnd (f g : Bf) : Bf := fun s => (f s).bind fun (x, s1) => if x = true then g s1 else some (false, s1)
def bOr (f g : Bf) : Bf := fun s => (f s).bind fun (x, s1) => if x = true then some (true, s1) else g s1
def bNot (f : Bf) : Bf := fun s => (f s).map fun (x, s1) => (!x, s1)
theorem pw_one {op : BoolOp} {f : Bf} (h : PTd X Γ a f) : PWd X Γ (.BoolOp op [a] pos) f := by
  obtain ⟨t, p, k⟩ := h
  cases op with
  | And => exact ⟨t, pw_and1 p, k⟩
  | Or => exact ⟨t, pw_or1 p, k⟩
theorem pwd_and {f g : Bf} (h1 : PTd X Γ a f) (h2 : PWd X Γ (.BoolOp .And (b :: rest) pos) g) : PWd X Γ (.BoolOp .And (a :: b :: rest) pos) (bAnd f g) := by
  obtain ⟨t1, p1, k1⟩ := h1
  obtain ⟨t2, p2, k2⟩ := h2
  refine ⟨_, pw_and p1 p2, fun σ H G s s' r Q S hf hq => ?_⟩
  unfold bAnd at hf
  cases h1 : f s with
  | none => rw [h1] at hf; cases hf
  | some q =>
    obtain ⟨x, s1⟩ := q
    simp only [h1, Option.bind_some] at hf
    refine k1 σ H G s s1 x _ S h1 fun H1 G1 S1 T1 => ?_
    cases x with
    | true =>
      rw [if_pos rfl] at hf ⊢
      exact k2 σ H1 G1 s1 s' r Q S1 hf fun H2 G2 S2 T2 => hq H2 G2 S2 (T1.trans T2)
    | false =>
      rw [if_neg Bool.false_ne_true] at hf ⊢
      cases hf
      exact hq H1 G1 S1 T1
theorem pwd_or {f g : Bf} (h1 : PTd X Γ a f) (h2 : PWd X Γ (.BoolOp .Or (b :: rest) pos) g) : PWd X Γ (.BoolOp .Or (a :: b :: rest) pos) (bOr f g) := by
  obtain ⟨t1, p1, k1⟩ := h1
  obtain ⟨t2, p2, k2⟩ := h2
  refine ⟨_, pw_or p1 p2, fun σ H G s s' r Q S hf hq => ?_⟩
  unfold bOr at hf
  cases h1 : f s with
  | none => rw [h1] at hf; cases hf
  | some q =>
    obtain ⟨x, s1⟩ := q
    simp only [h1, Option.bind_some] at hf
    refine k1 σ H G s s1 x _ S h1 fun H1 G1 S1 T1 => ?_
    cases x with
    | true =>
      rw [if_pos rfl] at hf ⊢
      cases hf
      exact hq H1 G1 S1 T1
    | false =>
      rw [if_neg Bool.false_ne_true] at hf ⊢
      exact k2 σ H1 G1 s1 s' r Q S1 hf fun H2 G2 S2 T2 => hq H2 G2 S2 (T1.trans T2)
theorem ptd_not {f : Bf} (h : PTd X Γ a f) : PTd X Γ (.UnaryOp .Not a pos) (bNot f) := by
  obtain ⟨t, p, k⟩ := h
  refine ⟨_, pt_not p, fun σ H G s s' r Q S hf hq => ?_⟩
  unfold bNot at hf
  cases h1 : f s with
  | none => rw [h1] at hf; cases hf
  | some q =>
    obtain ⟨x, s1⟩ := q
    rw [h1] at hf
    cases hf
    exact k σ H G s _ x _ S h1 hq
/-! ### as values -/
def fAnd (f g : Ef) : Ef := fun s => (fB f s).bind fun (x, s1) => if x = true then g s1 else some (.val (.bool false), s1)
def fOr (f g : Ef) : Ef := fun s => (fB f s).bind fun (x, s1) => if x = true then some (.val (.bool true), s1) else g s1
def fNot (f : Ef) : Ef := fun s => (fB f s).map fun (x, s1) => (.val (.bool (!x)), s1)
theorem PEd.bool {f : Ef} (h : PEd X Γ a f) : ∃ t : TE, PE X a t ∧ ∀ (σ : L2.St) (H G : Hp) (s s' : DS) (b : Bool) (Q : VK), Sta X.K Γ σ H G s → fB f s = some (b, s') →
    (∀ H' G', Sta X.K Γ σ H' G' s' → Stp Γ σ H G s H' G' s' → Q (.bl b) H') → t σ H Q := by
  obtain ⟨t, p, k⟩ := h
  refine ⟨t, p, fun σ H G s s' b Q S hf hq => k σ H G s s' _ _ S (fB_some hf) fun v H1 G1 S1 T1 g1 => ?_⟩
  cases (show Rp X.K G1 v (.bool b) from g1.rp)
  exact hq H1 G1 S1 T1
theorem pd_one {op : BoolOp} {f : Ef} (h : PEd X Γ a f) : PEd X Γ (.BoolOp op [a] pos) f := by
  obtain ⟨t, p, k⟩ := h
  exact ⟨t, pe_one p, k⟩
theorem pd_and {f g : Ef} (h1 : PEd X Γ a f) (h2 : PEd X Γ (.BoolOp .And (b :: rest) pos) g) : PEd X Γ (.BoolOp .And (a :: b :: rest) pos) (fAnd f g) := by
  obtain ⟨t1, p1, k1⟩ := h1.bool
  obtain ⟨t2, p2, k2⟩ := h2
  refine ⟨_, pe_and p1 p2, fun σ H G s s' r Q S hf hq => ?_⟩
  unfold fAnd at hf
  cases h1 : fB f s with
  | none => rw [h1] at hf; cases hf
  | some q =>
    obtain ⟨x, s1⟩ := q
    simp only [h1, Option.bind_some] at hf
    refine k1 σ H G s s1 x _ S h1 fun H1 G1 S1 T1 => ⟨x, rfl, ?_⟩
    cases x with
    | true =>
      rw [if_pos rfl] at hf ⊢
      exact k2 σ H1 G1 s1 s' r Q S1 hf fun v H2 G2 S2 T2 g2 => hq v H2 G2 S2 (T1.trans T2) (g2.later T1)
    | false =>
      rw [if_neg Bool.false_ne_true] at hf ⊢
      cases hf
      exact hq _ H1 G1 S1 T1 (.new (fa := Γ.fa) (.bl _))
theorem pd_or {f g : Ef} (h1 : PEd X Γ a f) (h2 : PEd X Γ (.BoolOp .Or (b :: rest) pos) g) : PEd X Γ (.BoolOp .Or (a :: b :: rest) pos) (fOr f g) := by
  obtain ⟨t1, p1, k1⟩ := h1.bool
  obtain ⟨t2, p2, k2⟩ := h2
  refine ⟨_, pe_or p1 p2, fun σ H G s s' r Q S hf hq => ?_⟩
  unfold fOr at hf
  cases h1 : fB f s with
  | none => rw [h1] at hf; cases hf
  | some q =>
    obtain ⟨x, s1⟩ := q
    simp only [h1, Option.bind_some] at hf
    refine k1 σ H G s s1 x _ S h1 fun H1 G1 S1 T1 => ⟨x, rfl, ?_⟩
    cases x with
    | true =>
      rw [if_pos rfl] at hf ⊢
      cases hf
      exact hq _ H1 G1 S1 T1 (.new (fa := Γ.fa) (.bl _))
    | false =>
      rw [if_neg Bool.false_ne_true] at hf ⊢
      exact k2 σ H1 G1 s1 s' r Q S1 hf fun v H2 G2 S2 T2 g2 => hq v H2 G2 S2 (T1.trans T2) (g2.later T1)
theorem pd_not {f : Ef} (h : PEd X Γ a f) : PEd X Γ (.UnaryOp .Not a pos) (fNot f) := by
  obtain ⟨t, p, k⟩ := h.bool
  refine ⟨_, pe_not p, fun σ H G s s' r Q S hf hq => ?_⟩
  unfold fNot at hf
  cases h1 : fB f s with
  | none => rw [h1] at hf; cases hf
  | some q =>
    obtain ⟨x, s1⟩ := q
    rw [h1] at hf
    cases hf
    exact k σ H G s _ x _ S h1 fun H1 G1 S1 T1 => ⟨x, rfl, hq _ H1 G1 S1 T1 (.new (fa := Γ.fa) (.bl _))⟩
/-- a if c else b -/
def fIf (c : Bf) (f g : Ef) : Ef := fun s => (c s).bind fun (x, s1) => if x = true then f s1 else g s1
theorem pd_if {fc : Bf} {f g : Ef} (hc : PTd X Γ c fc) (h1 : PEd X Γ a f) (h2 : PEd X Γ b g) : PEd X Γ (.IfExp c a b pos) (fIf fc f g) := by
  obtain ⟨tc, pc, kc⟩ := hc
  obtain ⟨t1, p1, k1⟩ := h1
  obtain ⟨t2, p2, k2⟩ := h2
  refine ⟨_, pe_ifExp pc p1 p2, fun σ H G s s' r Q S hf hq => ?_⟩
  unfold fIf at hf
  cases h1 : fc s with
  | none => rw [h1] at hf; cases hf
  | some q =>
    obtain ⟨x, s1⟩ := q
    simp only [h1, Option.bind_some] at hf
    refine kc σ H G s s1 x _ S h1 fun H1 G1 S1 T1 => ?_
    cases x with
    | true =>
      rw [if_pos rfl] at hf ⊢
      exact k1 σ H1 G1 s1 s' r Q S1 hf fun v H2 G2 S2 T2 g2 => hq v H2 G2 S2 (T1.trans T2) (g2.later T1)
    | false =>
      rw [if_neg Bool.false_ne_true] at hf ⊢
      exact k2 σ H1 G1 s1 s' r Q S1 hf fun v H2 G2 S2 T2 g2 => hq v H2 G2 S2 (T1.trans T2) (g2.later T1)
/-! ### chains of ints -/
def fI (f : Ef) : DS → Option (Int × DS) := fun s => match f s with
  | some (.val (.int b), s') => some (b, s')
  | _ => none
theorem fI_some {f : Ef} {s s' : DS} {b : Int} (h : fI f s = some (b, s')) : f s = some (.val (.int b), s') := by
  unfold fI at h
  split at h
  · rename_i e; cases h; exact e
  · cases h
theorem PEd.int {f : Ef} (h : PEd X Γ a f) : ∃ t : TE, PE X a t ∧ ∀ (σ : L2.St) (H G : Hp) (s s' : DS) (b : Int) (Q : VK), Sta X.K Γ σ H G s → fI f s = some (b, s') →
    (∀ H' G', Sta X.K Γ σ H' G' s' → Stp Γ σ H G s H' G' s' → Q (.int b) H') → t σ H Q := by
  obtain ⟨t, p, k⟩ := h
  refine ⟨t, p, fun σ H G s s' b Q S hf hq => k σ H G s s' _ _ S (fI_some hf) fun v H1 G1 S1 T1 g1 => ?_⟩
  cases (show Rp X.K G1 v (.int b) from g1.rp)
  exact hq H1 G1 S1 T1
def bChain (p q : Int → Int → Bool) (fa fb fc : Ef) : Bf := fun s => (fI fa s).bind fun (i, s1) => (fI fb s1).bind fun (j, s2) => if p i j = true then (fI fc s2).map fun (k, s3) => (q j k, s3) else some (false, s2)
theorem ptd_chain {op op' : CmpOp} {p q : Int → Int → Bool} {fa fb fc : Ef} (ho : OpR X (compareOp op) (rI0 fun i j => .bl (p i j))) (ho' : OpR X (compareOp op') (rI0 fun i j => .bl (q i j))) (ha : PEd X Γ a fa) (hb : PEd X Γ b fb) (hc : PEd X Γ c fc)
    (hm : lastMarks [op, op'] [b, c] = false := by with_unfolding_all rfl) : PTd X Γ (.Compare a [op, op'] [b, c] pos) (bChain p q fa fb fc) := by
  obtain ⟨t1, p1, k1⟩ := ha.int
  obtain ⟨t2, p2, k2⟩ := hb.int
  obtain ⟨t3, p3, k3⟩ := hc.int
  refine ⟨_, pt_chain ho ho' p1 p2 p3 hm, fun σ H G s s' r Q S hf hq => ?_⟩
  unfold bChain at hf
  cases h1 : fI fa s with
  | none => rw [h1] at hf; cases hf
  | some w1 =>
    obtain ⟨i, s1⟩ := w1
    simp only [h1, Option.bind_some] at hf
    cases h2 : fI fb s1 with
    | none => simp only [h2, Option.bind_none] at hf; cases hf
    | some w2 =>
      obtain ⟨j, s2⟩ := w2
      simp only [h2, Option.bind_some] at hf
      refine k1 σ H G s s1 i _ S h1 fun H1 G1 S1 T1 => ?_
      refine k2 σ H1 G1 s1 s2 j _ S1 h2 fun H2 G2 S2 T2 => ?_
      refine ⟨i, j, rfl, rfl, _, rfl, ?_⟩
      cases hp : p i j with
      | true =>
        simp only [hp, if_true] at hf ⊢
        cases h3 : fI fc s2 with
        | none => rw [h3] at hf; cases hf
        | some w3 =>
          obtain ⟨k, s3⟩ := w3
          rw [h3] at hf
          cases hf
          exact k3 σ H2 G2 s2 _ k _ S2 h3 fun H3 G3 S3 T3 => ⟨j, k, rfl, rfl, _, rfl, hq H3 G3 S3 ((T1.trans T2).trans T3)⟩
      | false =>
        simp only [hp, Bool.false_eq_true, if_false] at hf ⊢
        cases hf
        exact ⟨_, rfl, hq H2 G2 S2 (T1.trans T2)⟩
/-! ### slices -/
abbrev Of := DS → Option (Option Int × DS)
def POd (X : Cx) (Γ : Gm) (e : Option Expr) (f : Of) : Prop :=
  ∃ t : TO, PO X e t ∧ ∀ (σ : L2.St) (H G : Hp) (s s' : DS) (o : Option Int) (Q : Option Int → Hp → Prop), Sta X.K Γ σ H G s → f s = some (o, s') →
    (∀ H' G', Sta X.K Γ σ H' G' s' → Stp Γ σ H G s H' G' s' → Q o H') → t σ H Q
def oNone : Of := fun s => some (none, s)
def oSome (f : Ef) : Of := fun s => (fI f s).map fun (i, s') => (some i, s')
theorem pod_none : POd X Γ none oNone := ⟨_, po_none, fun σ H G s s' o Q S hf hq => by cases hf; exact hq H G S .refl⟩
theorem pod_some {f : Ef} (h : PEd X Γ a f) : POd X Γ (some a) (oSome f) := by
  obtain ⟨t, p, k⟩ := h.int
  refine ⟨_, po_some p, fun σ H G s s' o Q S hf hq => ?_⟩
  unfold oSome at hf
  cases h1 : fI f s with
  | none => rw [h1] at hf; cases hf
  | some w =>
    obtain ⟨i, s1⟩ := w
    rw [h1] at hf
    cases hf
    exact k σ H G s _ i _ S h1 fun H1 G1 S1 T1 => ⟨i, rfl, hq H1 G1 S1 T1⟩
def cutD {α : Type} (xs : List α) (lo hi : Option Int) : List α := (xs.drop (HT.sIx xs.length 0 lo)).take (HT.sIx xs.length xs.length hi - HT.sIx xs.length 0 lo)
theorem RpAll.cut {K : PySem.W.Frag} {G : Hp} {vs : List V} {ds : List PyData} (r : RpAll K G vs ds) (lo hi : Option Int) : RpAll K G (cutV vs lo hi) (cutD ds lo hi) := by
  unfold cutV cutD
  rw [r.length]
  exact (r.drop _).take _
def gCut (a : Pl) (lo hi : Option Int) : Option Pl := match a with
  | .val (.list ds) => some (.ownL (cutD ds lo hi))
  | .val (.tuple ds) => some (.val (.tuple (cutD ds lo hi)))
  | .val (.str z) => if z.length ≤ sizeLine then some (.val (.str (cutS z lo hi))) else none
  | _ => none
def fCut (f : Ef) (l h : Of) : Ef := fun s => (f s).bind fun (x, s1) => (l s1).bind fun (lo, s2) => (h s2).bind fun (hi, s3) => (gCut (fz x) lo hi).map fun r => (r, s3)
/-- of a name: what it holds behind the parts -/
def fCutN (i : Nat) (l h : Of) : Ef := fun s => (fPeek i s).bind fun _ => (l s).bind fun (lo, s2) => (h s2).bind fun (hi, s3) => (fPeek i s3).bind fun (x, _) => (gCut x lo hi).map fun r => (r, s3)
theorem slR : SlR X (fun x lo hi H Q => rSlL X.K x lo hi H Q ∨ (rSlF X.K x lo hi H Q ∨ rSlS x lo hi H Q)) := sl_list.or (sl_tupF.or sl_str)
theorem sl_data {σ : L2.St} {H G : Hp} {s : DS} {v : V} {x r : Pl} {lo hi : Option Int} {Q : VK} (S : Sta X.K Γ σ H G s) (v1 : View X.K Γ.fa H G v x) (hg : gCut x lo hi = some r)
    (hq : ∀ u H' G', Sta X.K Γ σ H' G' s → Stp Γ σ H G s H' G' s → Got X.K Γ H H' G' u r → Q u H') : rSlL X.K v lo hi H Q ∨ (rSlF X.K v lo hi H Q ∨ rSlS v lo hi H Q) := by
  unfold gCut at hg
  split at hg
  · cases hg
    obtain ⟨p, vs, rfl, h1, q1⟩ := v1
    exact .inl ⟨p, vs, rfl, .inl (.inl h1), newL S (q1.cut lo hi) hq⟩
  · rename_i ds
    cases hg
    obtain ⟨p, vs, rfl, h1, q1⟩ := Rp.tupI v1
    refine .inr (.inl ⟨p, vs, rfl, (h1.mono S.sub).sqt, fun hw => ?_, fun hw => newT S (q1.cut lo hi) hq⟩)
    have e : cutD ds lo hi = ds := by
      unfold cutD
      rw [← q1.length, hw.1, hw.2, List.drop_zero, Nat.sub_zero, q1.length, List.take_length]
    rw [e] at hq
    exact hq _ H G S .refl (.new (fa := Γ.fa) v1)
  · rename_i z
    cases (show Rp X.K G v (.str z) from v1)
    by_cases hz : z.length ≤ sizeLine
    · rw [if_pos hz] at hg
      cases hg
      exact .inr (.inr ⟨z, rfl, hz, hq _ H G S .refl (.new (fa := Γ.fa) (.str _))⟩)
    · rw [if_neg hz] at hg; cases hg
  · cases hg
theorem pd_cut {lo hi : Option Expr} {p2 : Pos} {f : Ef} {l h : Of} (ha : PEd X Γ a f) (hl : POd X Γ lo l) (hh : POd X Γ hi h) : PEd X Γ (.Subscript a (.Slice lo hi none p2) pos) (fCut f l h) := by
  obtain ⟨t1, p1, k1⟩ := ha
  obtain ⟨t2, p2, k2⟩ := hl
  obtain ⟨t3, p3, k3⟩ := hh
  refine ⟨_, pe_slice slR p1 p2 p3, fun σ H G s s' r Q S hf hq => ?_⟩
  unfold fCut at hf
  cases h1 : f s with
  | none => rw [h1] at hf; cases hf
  | some w1 =>
    obtain ⟨x, s1⟩ := w1
    simp only [h1, Option.bind_some] at hf
    cases h2 : l s1 with
    | none => simp only [h2, Option.bind_none] at hf; cases hf
    | some w2 =>
      obtain ⟨lo', s2⟩ := w2
      simp only [h2, Option.bind_some] at hf
      cases h3 : h s2 with
      | none => simp only [h3, Option.bind_none] at hf; cases hf
      | some w3 =>
        obtain ⟨hi', s3⟩ := w3
        simp only [h3, Option.bind_some] at hf
        cases h4 : gCut (fz x) lo' hi' with
        | none => simp only [h4, Option.map_none] at hf; cases hf
        | some z =>
          simp only [h4, Option.map_some, Option.some.injEq, Prod.mk.injEq] at hf
          obtain ⟨rfl, rfl⟩ := hf
          refine k1 σ H G s s1 x _ S h1 fun v H1 G1 S1 T1 g1 => ?_
          obtain ⟨G1', S1', T1', r1'⟩ := S.freeze S1 T1 g1
          refine k2 σ H1 G1' s1 s2 lo' _ S1' h2 fun H2 G2 S2 T2 => ?_
          refine k3 σ H2 G2 s2 _ hi' _ S2 h3 fun H3 G3 S3 T3 => ?_
          have T := (T1'.trans T2).trans T3
          exact sl_data S3 (View.mono r1' (fz_own x) (T2.gg.trans T3.gg) S3.sub) h4 fun u H4 G4 S4 T4 g4 => hq u H4 G4 S4 (T.trans T4) (g4.later T)
theorem pd_cutN {lo hi : Option Expr} {p2 : Pos} {l h : Of} (i : Nat) (ha : PE X a (tVar i)) (hl : POd X Γ lo l) (hh : POd X Γ hi h) : PEd X Γ (.Subscript a (.Slice lo hi none p2) pos) (fCutN i l h) := by
  obtain ⟨t2, p2, k2⟩ := hl
  obtain ⟨t3, p3, k3⟩ := hh
  refine ⟨_, pe_slice slR ha p2 p3, fun σ H G s s' r Q S hf hq => ?_⟩
  unfold fCutN at hf
  cases h0 : fPeek i s with
  | none => rw [h0] at hf; cases hf
  | some w1 =>
    obtain ⟨x0, s0⟩ := w1
    obtain ⟨sl0, e0, _⟩ := fPeek_some h0
    obtain ⟨v, hv, _⟩ := S.env i sl0 e0
    simp only [h0, Option.bind_some] at hf
    cases h2 : l s with
    | none => simp only [h2, Option.bind_none] at hf; cases hf
    | some w2 =>
      obtain ⟨lo', s2⟩ := w2
      simp only [h2, Option.bind_some] at hf
      cases h3 : h s2 with
      | none => simp only [h3, Option.bind_none] at hf; cases hf
      | some w3 =>
        obtain ⟨hi', s3⟩ := w3
        simp only [h3, Option.bind_some] at hf
        cases h5 : fPeek i s3 with
        | none => simp only [h5, Option.bind_none] at hf; cases hf
        | some w4 =>
          obtain ⟨x, s4⟩ := w4
          simp only [h5, Option.bind_some] at hf
          cases h4 : gCut x lo' hi' with
          | none => simp only [h4, Option.map_none] at hf; cases hf
          | some z =>
            simp only [h4, Option.map_some, Option.some.injEq, Prod.mk.injEq] at hf
            obtain ⟨rfl, rfl⟩ := hf
            obtain ⟨sl, e1, rfl, _⟩ := fPeek_some h5
            refine ⟨v, hv, k2 σ H G s s2 lo' _ S h2 fun H2 G2 S2 T2 => ?_⟩
            refine k3 σ H2 G2 s2 _ hi' _ S2 h3 fun H3 G3 S3 T3 => ?_
            have T := T2.trans T3
            obtain ⟨v', hv', r'⟩ := S3.env i sl e1
            rw [hv] at hv'
            cases hv'
            exact sl_data S3 (View.of S3.sub r') h4 fun u H4 G4 S4 T4 g4 => hq u H4 G4 S4 (T.trans T4) (g4.later T)
/-! ### index -/
def gIdx : Pl → Pl → Option Pl
  | .val (.tuple ds), .val (.str z) => (strsOf ds).bind fun ys => (ys.findIdx? fun y => decide (y = z)).map fun j => .val (.int (j : Nat))
  | _, _ => none
def fIdx (f g : Ef) : Ef := fun s => (f s).bind fun (x, s1) => (g s1).bind fun (y, s2) => (gIdx (fz x) (fz y)).map fun r => (r, s2)
theorem pd_idx {e : Expr} {apos cpos : Pos} {f g : Ef} (ha : PEd X Γ a f) (he : PEd X Γ e g) (hbase : attributeBase a "index" X.env (eval a X.env) = eval a X.env := by rfl)
    (hfew : ((backTo cpos (starEach [e] X.env)).all (fun x => !x.1) && (backToKw cpos (keywordEach [] X.env)).all (fun x => x.1.isSome)
      && decide ([e].length + ([] : List Keyword).length + (if ([] : List Keyword).isEmpty then 0 else 1) < 30)) = true := by rfl)
    (hline : (apos.endLine == cpos.line) = true := by rfl) (hs : starEach [e] X.env = (false, eval e X.env) :: starEach [] X.env := by rfl) (hplain : (backTo cpos (starEach [] X.env)).any (·.1) = false := by rfl) :
    PEd X Γ (.Call (.Attribute a "index" apos) [e] [] cpos) (fIdx f g) := by
  obtain ⟨t1, p1, k1⟩ := ha
  obtain ⟨t2, p2, k2⟩ := he
  refine ⟨_, pe_tm PySem.F.slot_tuple_index PySem.F.type_tuple_index mt_tup_index p1 (pa_cons p2 pa_nil hs) hbase hfew hline hs hplain, fun σ H G s s' r Q S hf hq => ?_⟩
  unfold fIdx at hf
  cases h1 : f s with
  | none => rw [h1] at hf; cases hf
  | some w1 =>
    obtain ⟨x, s1⟩ := w1
    simp only [h1, Option.bind_some] at hf
    cases h2 : g s1 with
    | none => simp only [h2, Option.bind_none] at hf; cases hf
    | some w2 =>
      obtain ⟨y, s2⟩ := w2
      simp only [h2, Option.bind_some] at hf
      cases h4 : gIdx (fz x) (fz y) with
      | none => simp only [h4, Option.map_none] at hf; cases hf
      | some z =>
        simp only [h4, Option.map_some, Option.some.injEq, Prod.mk.injEq] at hf
        obtain ⟨rfl, rfl⟩ := hf
        refine k1 σ H G s s1 x _ S h1 fun v H1 G1 S1 T1 g1 => ?_
        obtain ⟨G1', S1', T1', r1'⟩ := S.freeze S1 T1 g1
        unfold gIdx at h4
        split at h4
        · rename_i ds q e1 e2
          rw [e1] at r1'
          obtain ⟨p, vs, rfl, hk, hr⟩ := Rp.tupI r1'
          refine ⟨⟨p, vs, rfl, hk.mono S1'.sub⟩, k2 σ H1 G1' s1 _ y _ S1' h2 fun w H2 G2 S2 T2 g2 => ?_⟩
          have r2 := View.of S2.sub g2.rp
          rw [e2] at r2
          cases (show Rp X.K G2 w (.str q) from r2)
          cases ey : strsOf ds with
          | none => rw [ey] at h4; cases h4
          | some ys =>
            rw [ey, Option.bind_some] at h4
            cases ej : ys.findIdx? (fun y => decide (y = q)) with
            | none => rw [ej] at h4; cases h4
            | some j =>
              rw [ej] at h4
              cases h4
              rw [strsOf_map ey] at hr
              obtain ⟨hj, hj1, hj2⟩ := List.findIdx?_eq_some_iff_getElem.mp ej
              refine ⟨p, ys, q, j, rfl, rfl, by rw [← hr.strs]; exact ((hk.mono T2.gg).mono S2.sub).sqt, ?_, fun m hm hz => ?_, hq _ H2 G2 S2 (T1'.trans T2) (.new (fa := Γ.fa) (.int _))⟩
              · rw [List.getElem?_eq_getElem hj, of_decide_eq_true hj1]
              · have hml : m < ys.length := by omega
                rw [List.getElem?_eq_getElem hml] at hz
                have := hj2 m hm
                rw [Option.some.inj hz] at this
                simp at this
        · cases h4
end
end PD

set_option Elab.async false
set_option linter.all false
set_option maxRecDepth 100000
set_option maxHeartbeats 1000000
/-! PDi: statements. -/
namespace PD
open PySem PySem.Spec PyProof.Rows L2
inductive Out where
  | nx (s : DS)
  | rt (r : Pl) (s : DS)
  | bk (s : DS)
  | ct (s : DS)
abbrev Sf := DS → Option Out
section
variable {X : Cx} {Γ : Gm}
def PostS (K : PySem.W.Frag) (Γ : Gm) (G : Hp) (o : Out) (D : Ends) : Prop :=
  match o with
  | .nx s' => ∀ σ' H' G', Sta K Γ σ' H' G' s' → Same G G' → D.nx σ' H'
  | .bk s' => ∀ σ' H' G', Sta K Γ σ' H' G' s' → Same G G' → D.bk σ' H'
  | .ct s' => ∀ σ' H' G', Sta K Γ σ' H' G' s' → Same G G' → D.ct σ' H'
  | .rt r s' => ∀ v σ' H' G', Sta K Γ σ' H' G' s' → Same G G' → Got K Γ Γ.H0 H' G' v r → D.rt v H'
theorem PostS.mono {K : PySem.W.Frag} {G G1 : Hp} {o : Out} {D : Ends} (g : Same G G1) (h : PostS K Γ G o D) : PostS K Γ G1 o D := by
  cases o with
  | nx s => exact fun σ' H' G' S e => h σ' H' G' S (g.trans e)
  | bk s => exact fun σ' H' G' S e => h σ' H' G' S (g.trans e)
  | ct s => exact fun σ' H' G' S e => h σ' H' G' S (g.trans e)
  | rt r s => exact fun v σ' H' G' S e q => h v σ' H' G' S (g.trans e) q
def PSd (X : Cx) (Γ : Gm) (st : Stmt) (f : Sf) : Prop :=
  ∃ t : TS, PS X st t ∧ ∀ (σ : L2.St) (H G : Hp) (s : DS) (o : Out) (D : Ends), Sta X.K Γ σ H G s → f s = some o → PostS X.K Γ G o D → t D σ H
def PSSd (X : Cx) (Γ : Gm) (sts : List Stmt) (f : Sf) : Prop :=
  ∃ t : TS, PSs X sts t ∧ ∀ (σ : L2.St) (H G : Hp) (s : DS) (o : Out) (D : Ends), Sta X.K Γ σ H G s → f s = some o → PostS X.K Γ G o D → t D σ H
def sNil : Sf := fun s => some (.nx s)
def sSeq (f g : Sf) : Sf := fun s => (f s).bind fun o => match o with
  | .nx s1 => g s1
  | o => some o
theorem pss_nilD : PSSd X Γ [] sNil := ⟨_, pss_nil, fun σ H G s o D S hf hp => by cases hf; exact hp σ H G S (Same.refl _)⟩
theorem pss_oneD {st : Stmt} {f : Sf} (h : PSd X Γ st f) : PSSd X Γ [st] f := by
  obtain ⟨t, p, k⟩ := h
  exact ⟨t, pss_one p, k⟩
theorem pss_consD {st : Stmt} {rest : List Stmt} {f g : Sf} (h1 : PSd X Γ st f) (h2 : PSSd X Γ rest g) : PSSd X Γ (st :: rest) (sSeq f g) := by
  obtain ⟨t, p, k⟩ := h1
  obtain ⟨t2, p2, k2⟩ := h2
  refine ⟨_, pss_cons p p2, fun σ H G s o D S hf hp => ?_⟩
  unfold sSeq at hf
  cases h1 : f s with
  | none => rw [h1] at hf; cases hf
  | some o1 =>
    rw [h1, Option.bind_some] at hf
    refine k σ H G s o1 _ S h1 ?_
    cases o1 with
    | nx s1 => exact fun σ' H' G' S' e => k2 σ' H' G' s1 o D S' hf (hp.mono e)
    | rt r s1 => cases hf; exact hp
    | bk s1 => cases hf; exact hp
    | ct s1 => cases hf; exact hp
def sPass : Sf := fun s => some (.nx s)
def sBreak : Sf := fun s => some (.bk s)
def sCont : Sf := fun s => some (.ct s)
theorem ps_passD {pos} : PSd X Γ (.Pass pos) sPass := ⟨_, ps_pass, fun σ H G s o D S hf hp => by cases hf; exact hp σ H G S (Same.refl _)⟩
theorem ps_breakD {pos} : PSd X Γ (.Break pos) sBreak := ⟨_, ps_break, fun σ H G s o D S hf hp => by cases hf; exact hp σ H G S (Same.refl _)⟩
theorem ps_contD {pos} : PSd X Γ (.Continue pos) sCont := ⟨_, ps_continue, fun σ H G s o D S hf hp => by cases hf; exact hp σ H G S (Same.refl _)⟩
def sExpr (f : Ef) : Sf := fun s => (f s).map fun (_, s') => .nx s'
theorem ps_exprD {e : Expr} {f : Ef} {pos : Pos} (h : PEd X Γ e f) (hs : swapsWith e none pos.line X.env = pure false := by rfl) : PSd X Γ (.Expr e pos) (sExpr f) := by
  obtain ⟨t, p, k⟩ := h
  refine ⟨_, ps_expr p hs, fun σ H G s o D S hf hp => ?_⟩
  unfold sExpr at hf
  cases h1 : f s with
  | none => rw [h1] at hf; cases hf
  | some w =>
    obtain ⟨r, s1⟩ := w
    rw [h1] at hf
    cases hf
    exact k σ H G s _ r _ S h1 fun v H' G' S' T g => hp σ H' G' S' T.gg
def sRet (f : Ef) : Sf := fun s => (f s).map fun (r, s') => .rt r s'
theorem ps_retD {e : Expr} {f : Ef} {pos : Pos} (h : PEd X Γ e f) : PSd X Γ (.Return (some e) pos) (sRet f) := by
  obtain ⟨t, p, k⟩ := h
  refine ⟨_, ps_ret p, fun σ H G s o D S hf hp => ?_⟩
  unfold sRet at hf
  cases h1 : f s with
  | none => rw [h1] at hf; cases hf
  | some w =>
    obtain ⟨r, s1⟩ := w
    rw [h1] at hf
    cases hf
    exact k σ H G s _ r _ S h1 fun v H' G' S' T g => hp v σ H' G' S' T.gg ⟨g.rp, fun z => by
      obtain ⟨q, e, n⟩ := g.ow z
      exact ⟨q, e, S.fresh0 n⟩⟩
def sRetN : Sf := fun s => some (.rt (.val .none) s)
theorem ps_retND {pos} : PSd X Γ (.Return none pos) sRetN := ⟨_, ps_retN, fun σ H G s o D S hf hp => by cases hf; exact hp .non σ H G S (Same.refl _) (.new (fa := Γ.fa) .non)⟩
def sIf (c : Bf) (f g : Sf) : Sf := fun s => (c s).bind fun (b, s1) => if b = true then f s1 else g s1
theorem ps_ifD {c : Expr} {a b : List Stmt} {fc : Bf} {f g : Sf} {pos : Pos} (hc : PTd X Γ c fc) (ha : PSSd X Γ a f) (hb : PSSd X Γ b g) : PSd X Γ (.If c a b pos) (sIf fc f g) := by
  obtain ⟨tc, pc, kc⟩ := hc
  obtain ⟨t1, p1, k1⟩ := ha
  obtain ⟨t2, p2, k2⟩ := hb
  refine ⟨_, ps_if pc p1 p2, fun σ H G s o D S hf hp => ?_⟩
  unfold sIf at hf
  cases h1 : fc s with
  | none => rw [h1] at hf; cases hf
  | some w =>
    obtain ⟨x, s1⟩ := w
    simp only [h1, Option.bind_some] at hf
    refine kc σ H G s s1 x _ S h1 fun H1 G1 S1 T1 => ?_
    cases x with
    | true =>
      rw [if_pos rfl] at hf ⊢
      exact k1 σ H1 G1 s1 o D S1 hf (hp.mono T1.gg)
    | false =>
      rw [if_neg Bool.false_ne_true] at hf ⊢
      exact k2 σ H1 G1 s1 o D S1 hf (hp.mono T1.gg)
/-! ### while -/
def sWhile (c : Bf) (f : Sf) : Nat → Sf
  | 0 => fun _ => none
  | n + 1 => fun s => (c s).bind fun (b, s1) => if b = true then (f s1).bind fun o => match o with
      | .nx s2 => sWhile c f n s2
      | .ct s2 => sWhile c f n s2
      | .bk s2 => some (.nx s2)
      | .rt r s2 => some (.rt r s2)
    else some (.nx s1)
theorem ps_whileD {c : Expr} {body : List Stmt} {fc : Bf} {f : Sf} {pos : Pos} (n : Nat) (hp : PassesOwn (model X.prog X.w) X.A X.env X.xe) (hc : PTd X Γ c fc) (hb : PSSd X Γ body f) : PSd X Γ (.While c body [] pos) (sWhile fc f n) := by
  obtain ⟨tc, pc, kc⟩ := hc
  obtain ⟨t1, p1, k1⟩ := hb
  refine ⟨_, ps_while hp pc p1, fun σ H G s o D S hf hq => ?_⟩
  refine ⟨fun m σ H => ∃ G1 s1, Sta X.K Γ σ H G1 s1 ∧ Same G G1 ∧ sWhile fc f m s1 = some o, ⟨n, G, s, S, Same.refl _, hf⟩, fun m σ1 H1 hW => ?_⟩
  obtain ⟨G1, s1, S1, e1, h1⟩ := hW
  cases m with
  | zero => cases h1
  | succ m =>
    unfold sWhile at h1
    cases h2 : fc s1 with
    | none => rw [h2] at h1; cases h1
    | some w =>
      obtain ⟨b, s2⟩ := w
      simp only [h2, Option.bind_some] at h1
      refine kc σ1 H1 G1 s1 s2 b _ S1 h2 fun H2 G2 S2 T2 => ?_
      cases b with
      | true =>
        rw [if_pos rfl] at h1 ⊢
        cases h3 : f s2 with
        | none => rw [h3] at h1; cases h1
        | some o1 =>
          simp only [h3, Option.bind_some] at h1
          refine ⟨fun σ H => ∃ G1 s1, Sta X.K Γ σ H G1 s1 ∧ Same G G1 ∧ sWhile fc f m s1 = some o, fun σ' H' ⟨G', s', a, b, c⟩ => ⟨m, Nat.lt_succ_self m, G', s', a, b, c⟩, ?_⟩
          refine k1 σ1 H2 G2 s2 o1 _ S2 h3 ?_
          cases o1 with
          | nx s3 => exact fun σ' H' G' S' e => ⟨G', s3, S', (e1.trans T2.gg).trans e, h1⟩
          | ct s3 => exact fun σ' H' G' S' e => ⟨G', s3, S', (e1.trans T2.gg).trans e, h1⟩
          | bk s3 => cases h1; exact hq.mono (e1.trans T2.gg)
          | rt r s3 => cases h1; exact hq.mono (e1.trans T2.gg)
      | false =>
        rw [if_neg Bool.false_ne_true] at h1 ⊢
        cases h1
        exact hq σ1 H2 G2 S2 (e1.trans T2.gg)
/-! ### targets -/
/-- a value fits a place -/
def Fits (K : PySem.W.Frag) (Γ : Gm) (σ : L2.St) (H G : Hp) (s : DS) (v : V) (r : Pl) : Prop :=
  SRp K Γ.fa H G v r ∧ (r.own = true → ∃ p, v = .ref p ∧ ¬ OwnAt σ s p ∧ Γ.H0 p = none)
theorem Got.fits {K : PySem.W.Frag} {σ : L2.St} {H G H1 G1 : Hp} {s s1 : DS} {v : V} {r : Pl} (S : Sta K Γ σ H G s) (T : Stp Γ σ H G s H1 G1 s1) (g : Got K Γ H H1 G1 v r) : Fits K Γ σ H1 G1 s1 v r :=
  ⟨g.rp, fun z => by
    obtain ⟨p, e, n⟩ := g.ow z
    refine ⟨p, e, fun w => ?_, S.fresh0 n⟩
    obtain ⟨⟨o, q⟩, _⟩ := S.ownThere (T.own p w)
    rw [n] at q; cases q⟩
theorem Sta.put {K : PySem.W.Frag} {σ : L2.St} {H G : Hp} {s : DS} {v : V} {r : Pl} (i : Nat) (S : Sta K Γ σ H G s) (ft : Fits K Γ σ H G s v r) : Sta K Γ (σ.set i (some v)) H G ⟨s.env.set i (some r), s.fs⟩ := by
  have cas : ∀ (j : Nat) (a : Pl), (s.env.set i (some r))[j]? = some (some a) → (j = i ∧ a = r ∧ (σ.set i (some v))[j]? = some (some v)) ∨ (j ≠ i ∧ s.env[j]? = some (some a) ∧ (σ.set i (some v))[j]? = σ[j]?) := fun j a e => by
    by_cases z : j = i
    · subst z
      have lt : j < s.env.length := by
        have := (List.getElem?_eq_some_iff.mp e).1
        simpa using this
      rw [List.getElem?_set_self lt] at e
      cases e
      exact .inl ⟨rfl, rfl, List.getElem?_set_self (by rw [← S.len]; exact lt)⟩
    · rw [List.getElem?_set_ne (Ne.symm z)] at e
      exact .inr ⟨z, e, List.getElem?_set_ne (Ne.symm z)⟩
  have own : ∀ b, OwnAt (σ.set i (some v)) ⟨s.env.set i (some r), s.fs⟩ b → OwnAt σ s b ∨ (r.own = true ∧ v = .ref b) := fun b ⟨j, a, e1, e2, e3⟩ => by
    rcases cas j a e1 with ⟨_, rfl, h⟩ | ⟨_, h1, h2⟩
    · rw [h] at e3
      cases e3
      exact .inr ⟨e2, rfl⟩
    · rw [h2] at e3
      exact .inl ⟨j, a, h1, e2, e3⟩
  refine ⟨S.sub, S.g0, S.fr, S.keep, by simpa using S.len, fun j a e => ?_, fun j k a c w e1 e2 e3 e4 h1 h2 => ?_, fun b e => ?_, S.fd⟩
  · rcases cas j a e with ⟨_, rfl, h⟩ | ⟨_, h1, h2⟩
    · exact ⟨v, h, ft.1⟩
    · obtain ⟨w, h3, h4⟩ := S.env j a h1
      exact ⟨w, by rw [h2]; exact h3, h4⟩
  · rcases cas j a e1 with ⟨rfl, rfl, f1⟩ | ⟨n1, f1, f2⟩
    · rcases cas k c e2 with ⟨rfl, rfl, g1⟩ | ⟨n2, g1, g2⟩
      · rfl
      · exfalso
        rw [f1] at h1
        cases h1
        obtain ⟨p, rfl, no, _⟩ := ft.2 e3
        rw [g2] at h2
        exact no ⟨k, c, g1, e4, h2⟩
    · rcases cas k c e2 with ⟨rfl, rfl, g1⟩ | ⟨n2, g1, g2⟩
      · exfalso
        rw [g1] at h2
        cases h2
        obtain ⟨p, rfl, no, _⟩ := ft.2 e4
        rw [f2] at h1
        exact no ⟨j, a, f1, e3, h1⟩
      · rw [f2] at h1
        rw [g2] at h2
        exact S.dis j k a c w f1 g1 e3 e4 h1 h2
  · rcases own b e with h | ⟨h, rfl⟩
    · exact S.new b h
    · obtain ⟨p, e1, _, n⟩ := ft.2 h
      cases e1
      exact n
inductive Tg where
  | nm (i : Nat)
  | tp (l : List Tg)
mutual
def Tg.slots : Tg → List Nat
  | .nm i => [i]
  | .tp l => Tg.slotsAll l
def Tg.slotsAll : List Tg → List Nat
  | [] => []
  | t :: r => t.slots ++ Tg.slotsAll r
end
mutual
def Tg.put : Tg → Pl → DS → Option DS
  | .nm i, r, s => some ⟨s.env.set i (some r), s.fs⟩
  | .tp l, .val (.tuple ds), s => Tg.putAll l ds s
  | .tp _, _, _ => none
def Tg.putAll : List Tg → List PyData → DS → Option DS
  | [], [], s => some s
  | t :: r, d :: ds, s => (t.put (.val d) s).bind fun s1 => Tg.putAll r ds s1
  | _, _, _ => none
end
/-- what a target may be given: a tuple's parts may stand in any tuple -/
def FitT (K : PySem.W.Frag) (Γ : Gm) (σ : L2.St) (H G : Hp) (s : DS) (v : V) (r : Pl) : Tg → Prop
  | .nm _ => Fits K Γ σ H G s v r
  | .tp _ => ∃ ds T xs, r = .val (.tuple ds) ∧ v = .ref T ∧ SqT K H T xs ∧ RpAll K G xs ds
theorem Fits.fitT {K : PySem.W.Frag} {σ : L2.St} {H G : Hp} {s s' : DS} {v : V} {r : Pl} {t : Tg} (S : Sta K Γ σ H G s) (h : Fits K Γ σ H G s v r) (hp : t.put r s = some s') : FitT K Γ σ H G s v r t := by
  cases t with
  | nm i => exact h
  | tp l =>
    cases r with
    | val d =>
      cases d with
      | tuple ds =>
        obtain ⟨q, vs, rfl, hk, hr⟩ := Rp.tupI h.1
        exact ⟨ds, q, vs, rfl, rfl, (hk.mono S.sub).sqt, hr⟩
      | none => simp [Tg.put] at hp
      | bool b => simp [Tg.put] at hp
      | int b => simp [Tg.put] at hp
      | str b => simp [Tg.put] at hp
      | list b => simp [Tg.put] at hp
      | dict b => simp [Tg.put] at hp
    | fd => simp [Tg.put] at hp
    | dic k => simp [Tg.put] at hp
    | ownL k => simp [Tg.put] at hp
    | ownK k => simp [Tg.put] at hp
def PGd (X : Cx) (Γ : Gm) (e : Expr) (t : Tg) : Prop :=
  ∃ g : TG, PG X e g ∧ ∀ (σ : L2.St) (H G : Hp) (s s' : DS) (v : V) (r : Pl) (Q : L2.St → Hp → Prop), Sta X.K Γ σ H G s → FitT X.K Γ σ H G s v r t → t.put r s = some s' →
    (∀ σ', Sta X.K Γ σ' H G s' → (∀ vs : List Nat, (∀ i ∈ t.slots, i ∈ vs) → wipe σ' vs = wipe σ vs) → Q σ' H) → g v σ H Q
def PGsd (X : Cx) (Γ : Gm) (es : List Expr) (l : List Tg) : Prop :=
  ∃ g : TGs, PGs X es g ∧ ∀ (σ : L2.St) (H G : Hp) (s s' : DS) (vs : List V) (ds : List PyData) (Q : L2.St → Hp → Prop), Sta X.K Γ σ H G s → RpAll X.K G vs ds → Tg.putAll l ds s = some s' →
    (∀ σ', Sta X.K Γ σ' H G s' → (∀ ws : List Nat, (∀ i ∈ Tg.slotsAll l, i ∈ ws) → wipe σ' ws = wipe σ ws) → Q σ' H) → g vs σ H Q
theorem wipe_set {σ : L2.St} {i : Nat} {v : Option V} : ∀ {vs : List Nat}, i ∈ vs → wipe (σ.set i v) vs = wipe σ vs
  | [], h => by cases h
  | w :: vs, h => by
    unfold wipe
    by_cases z : i ∈ vs
    · rw [wipe_set z]
    · have e : w = i := by
        rcases List.mem_cons.mp h with q | q
        · exact q.symm
        · exact absurd q z
      subst e
      have aux : ∀ (us : List Nat) (τ : L2.St), (wipe (τ.set w v) us).set w none = (wipe τ us).set w none := by
        intro us
        induction us with
        | nil => intro τ; simp [wipe]
        | cons u us ih =>
          intro τ
          unfold wipe
          by_cases q : u = w
          · subst q
            simpa using ih τ
          · rw [show ((wipe (τ.set w v) us).set u none).set w none = ((wipe (τ.set w v) us).set w none).set u none from List.set_comm _ _ q, show ((wipe τ us).set u none).set w none = ((wipe τ us).set w none).set u none from List.set_comm _ _ q, ih]
      exact aux vs σ
theorem pgd_name {i : Nat} {x : Str} {pos : Pos} (hN : X.N.Nodup) (hi : X.N[i]? = some x) (hx : Loc X.env.scope x) (hf : X.fn x = true ∨ X.env.scope.names.lookup x = some .local := by first | exact .inl rfl | exact .inr rfl | assumption) : PGd X Γ (.Name x pos) (.nm i) := by
  refine ⟨_, pg_name hN hi hx hf, fun σ H G s s' v r Q S ft hp hq => ?_⟩
  have e : s' = ⟨s.env.set i (some r), s.fs⟩ := by
    simp only [Tg.put, Option.some.injEq] at hp
    exact hp.symm
  subst e
  exact hq _ (S.put i ft) fun vs hv => wipe_set (hv i (by simp [Tg.slots]))
theorem pgs_nilD : PGsd X Γ [] [] := by
  refine ⟨_, pgs_nil, fun σ H G s s' vs ds Q S r hp hq => ?_⟩
  cases r with
  | nil =>
    simp only [Tg.putAll, Option.some.injEq] at hp
    subst hp
    exact ⟨rfl, hq σ S fun _ _ => rfl⟩
  | cons a b => simp [Tg.putAll] at hp
theorem pgs_consD {e : Expr} {es : List Expr} {t : Tg} {l : List Tg} (h1 : PGd X Γ e t) (h2 : PGsd X Γ es l) (hs : (assignEach (e :: es) X.env).map (·.2) = assign e X.env :: (assignEach es X.env).map (·.2) := by rfl) : PGsd X Γ (e :: es) (t :: l) := by
  obtain ⟨g1, p1, k1⟩ := h1
  obtain ⟨g2, p2, k2⟩ := h2
  refine ⟨_, pgs_cons p1 p2 hs, fun σ H G s s' vs ds Q S r hp hq => ?_⟩
  cases r with
  | nil => simp [Tg.putAll] at hp
  | @cons v0 vs0 d0 ds0 a b =>
    simp only [Tg.putAll] at hp
    cases e1 : t.put (.val d0) s with
    | none => rw [e1] at hp; cases hp
    | some s1 =>
      rw [e1, Option.bind_some] at hp
      refine ⟨_, _, rfl, k1 σ H G s s1 v0 (.val d0) _ S (Fits.fitT S ⟨a, fun z => nomatch z⟩ e1) e1 fun σ1 S1 w1 => ?_⟩
      refine k2 σ1 H G s1 s' _ _ Q S1 b hp fun σ2 S2 w2 => hq σ2 S2 fun ws hw => ?_
      rw [w2 ws (fun i hi => hw i (by simp [Tg.slotsAll, hi])), w1 ws (fun i hi => hw i (by simp [Tg.slotsAll, hi]))]
theorem pgd_tup {es : List Expr} {k n : Nat} {l : List Tg} {pos : Pos} (hc : X.calm = true) (h : PGsd X Γ es l) (hl : l.length = n) (hn : (assignEach es X.env).length = n := by rfl) (hst : (assignEach es X.env).findIdx? (·.1) = none := by rfl) : PGd X Γ (.Tuple es k pos) (.tp l) := by
  obtain ⟨g, p, k⟩ := h
  refine ⟨_, pg_tup hc p hn hst, fun σ H G s s' v r Q S ft hp hq => ?_⟩
  obtain ⟨ds, q, vs, rfl, rfl, hk, hr⟩ := ft
  simp only [Tg.put] at hp
  have hlen : ∀ (l : List Tg) (ds : List PyData) (s s' : DS), Tg.putAll l ds s = some s' → l.length = ds.length := by
    intro l
    induction l with
    | nil => intro ds s s' h; cases ds with
      | nil => rfl
      | cons a b => simp [Tg.putAll] at h
    | cons t r ih => intro ds s s' h; cases ds with
      | nil => simp [Tg.putAll] at h
      | cons a b =>
        simp only [Tg.putAll] at h
        cases e1 : t.put (.val a) s with
        | none => rw [e1] at h; cases h
        | some s1 => rw [e1, Option.bind_some] at h; simp [ih b s1 s' h]
  exact ⟨q, vs, rfl, hk, by rw [hr.length, ← hlen l ds s s' hp]; exact hl, k σ H G s s' vs ds Q S hr hp fun σ' S' w => hq σ' S' fun ws hw => w ws fun i hi => hw i (by simpa [Tg.slots] using hi)⟩
def sAsg (f : Ef) (t : Tg) : Sf := fun s => (f s).bind fun (r, s1) => (t.put r s1).map .nx
theorem ps_asgD {tg e : Expr} {f : Ef} {t : Tg} {pos : Pos} (he : PEd X Γ e f) (hg : PGd X Γ tg t) (hs : swapsWithSole [tg] e pos.line X.env = pure false := by rfl) (hw : swappedStores [tg] e X.env = pure none := by rfl)
    (h1 : (assignEach [tg] X.env).map (·.2) = [assign tg X.env] := by rfl) : PSd X Γ (.Assign [tg] e pos) (sAsg f t) := by
  obtain ⟨te, pe, ke⟩ := he
  obtain ⟨g, pg, kg⟩ := hg
  refine ⟨_, ps_asg pe pg hs hw h1, fun σ H G s o D S hf hp => ?_⟩
  unfold sAsg at hf
  cases h1 : f s with
  | none => rw [h1] at hf; cases hf
  | some w =>
    obtain ⟨r, s1⟩ := w
    simp only [h1, Option.bind_some] at hf
    cases h2 : t.put r s1 with
    | none => rw [h2] at hf; cases hf
    | some s2 =>
      rw [h2] at hf
      cases hf
      refine ke σ H G s s1 r _ S h1 fun v H1 G1 S1 T1 g1 => ?_
      exact kg σ H1 G1 s1 s2 v r _ S1 ((g1.fits S T1).fitT S1 h2) h2 fun σ' S' _ => hp σ' H1 G1 S' T1.gg
/-- a, b = e1, e2 (two local names) -/
def sPar (f g : Ef) (i j : Nat) : Sf := fun s => (f s).bind fun (r1, s1) => (g s1).bind fun (r2, s2) => some (.nx ⟨(s2.env.set i (some r1)).set j (some r2), s2.fs⟩)
end
end PD

set_option Elab.async false
set_option linter.all false
set_option maxRecDepth 100000
set_option maxHeartbeats 1000000
/-! PDj: what is walked; for; comprehensions. -/
namespace PD
open PySem PySem.Spec PyProof.Rows L2
/-- an iterator over data: while Gw stands it yields the items in their order, then stops -/
def WalkJ (K : PySem.W.Frag) (Γ : Gm) (t : Tg) (J : It) (Gw : Hp) (ds : List PyData) : Prop :=
  ∀ (σ : L2.St) (H G : Hp) (s : DS), Sta K Γ σ H G s → Same Gw G →
    (∀ (i : Nat) (d : PyData), ds[i]? = some d → J.go i H ∧ ∀ x H', J.yld i H x H' → ∃ G', Sta K Γ σ H' G' s ∧ Stp Γ σ H G s H' G' s ∧ ((∃ s', t.put (.val d) s = some s') → FitT K Γ σ H' G' s x (.val d) t)) ∧
    ∀ i, ds.length ≤ i → J.stop i H
abbrev Wf := DS → Option (List PyData × DS)
section
variable {X : Cx} {Γ : Gm}
def PId (X : Cx) (Γ : Gm) (tg e : Expr) (t : Tg) (f : Wf) : Prop :=
  ∃ wi : TI, PI X tg e wi ∧ ∀ (σ : L2.St) (H G : Hp) (s s' : DS) (ds : List PyData) (R : It → Hp → Prop), Sta X.K Γ σ H G s → f s = some (ds, s') →
    (∀ J H' G', Sta X.K Γ σ H' G' s' → Stp Γ σ H G s H' G' s' → WalkJ X.K Γ t J G' ds → R J H') → wi σ H R
theorem PId.or {tg e : Expr} {t : Tg} {f g h : Wf} (h1 : PId X Γ tg e t f) (h2 : PId X Γ tg e t g) (hh : ∀ s r s', h s = some (r, s') → f s = some (r, s') ∨ g s = some (r, s')) : PId X Γ tg e t h := by
  obtain ⟨t1, p1, k1⟩ := h1
  obtain ⟨t2, p2, k2⟩ := h2
  refine ⟨fun σ H R => t1 σ H R ∨ t2 σ H R, ⟨fun pins s σ H R I q => ?_⟩, fun σ H G s s' r R S hf hq => ?_⟩
  · rcases q with q | q
    · exact p1.run pins s σ H R I q
    · exact p2.run pins s σ H R I q
  · rcases hh s r s' hf with e | e
    · exact .inl (k1 σ H G s s' r R S e hq)
    · exact .inr (k2 σ H G s s' r R S e hq)
theorem fit_val {K : PySem.W.Frag} {σ : L2.St} {H G : Hp} {s : DS} {v : V} {d : PyData} {t : Tg} (S : Sta K Γ σ H G s) (h : Rp K G v d) : (∃ s', t.put (.val d) s = some s') → FitT K Γ σ H G s v (.val d) t := fun ⟨s', e⟩ =>
  Fits.fitT S ⟨h, fun z => nomatch z⟩ e
def wVal (f : Ef) : Wf := fun s => match f s with
  | some (.val (.list ds), s') => some (ds, s')
  | some (.val (.tuple ds), s') => some (ds, s')
  | some (.ownL ds, s') => some (ds, s')
  | _ => none
theorem WalkJ.list {K : PySem.W.Frag} {Γ : Gm} {t : Tg} {Gw : Hp} {a : Addr} {vs : List V} {ds : List PyData} (h : Gw a = some (.lst vs)) (r : RpAll K Gw vs ds) : WalkJ K Γ t (Itl K a) Gw ds := by
  intro σ H G s S g
  have hs : SqL K H a vs := .inl (.inl (S.sub _ _ (g _ _ h)))
  refine ⟨fun i d hd => ?_, fun i hi => ⟨vs, hs, by rw [r.length]; exact hi⟩⟩
  obtain ⟨v, h1, h2⟩ := r.get hd
  refine ⟨⟨vs, v, hs, h1⟩, fun x H' hy => ?_⟩
  obtain ⟨rfl, hy⟩ := hy
  have e := (hy vs hs).symm.trans h1
  cases e
  exact ⟨G, S, .refl, fit_val S (h2.mono g)⟩
theorem WalkJ.tup {K : PySem.W.Frag} {Γ : Gm} {t : Tg} {Gw : Hp} {a : Addr} {vs : List V} {ds : List PyData} (h : TupK K Gw a vs) (r : RpAll K Gw vs ds) : WalkJ K Γ t (Itt K a) Gw ds := by
  intro σ H G s S g
  have hs : SqT K H a vs := ((h.mono g).mono S.sub).sqt
  refine ⟨fun i d hd => ?_, fun i hi => ⟨vs, hs, by rw [r.length]; exact hi⟩⟩
  obtain ⟨v, h1, h2⟩ := r.get hd
  refine ⟨⟨vs, v, hs, h1⟩, fun x H' hy => ?_⟩
  obtain ⟨rfl, hy⟩ := hy
  have e := (hy vs hs).symm.trans h1
  cases e
  exact ⟨G, S, .refl, fit_val S (h2.mono g)⟩
/-- a list or a tuple -/
theorem pid_val {tg e : Expr} {t : Tg} {f : Ef} (h : PEd X Γ e f) : PId X Γ tg e t (wVal f) := by
  obtain ⟨te, p, k⟩ := h
  refine ⟨fun σ H R => iList X.K te σ H R ∨ iTup X.K te σ H R, ⟨fun pins s σ H R I q => ?_⟩, fun σ H G s s' ds R S hf hq => ?_⟩
  · rcases q with q | q
    · exact (pi_list p).run pins s σ H R I q
    · exact (pi_tup p).run pins s σ H R I q
  · unfold wVal at hf
    have lst : ∀ r, f s = some (r, s') → fz r = .val (.list ds) → iList X.K te σ H R := fun r e1 e2 => by
      refine k σ H G s s' r _ S e1 fun v H1 G1 S1 T1 g1 => ?_
      obtain ⟨G2, S2, T2, r2⟩ := S.freeze S1 T1 g1
      rw [e2] at r2
      obtain ⟨p, vs, rfl, h1, h2⟩ : ∃ p vs, v = .ref p ∧ G2 p = some (.lst vs) ∧ RpAll X.K G2 vs ds := by
        cases (show Rp X.K G2 v (.list ds) from r2) with
        | lst q r => exact ⟨_, _, rfl, q, r⟩
      exact ⟨p, rfl, ⟨vs, .inl (.inl (S2.sub _ _ h1))⟩, hq _ H1 G2 S2 T2 (WalkJ.list h1 h2)⟩
    split at hf
    · rename_i e1
      cases hf
      exact .inl (lst _ e1 rfl)
    · rename_i e1
      cases hf
      refine .inr (k σ H G s _ _ _ S e1 fun v H1 G1 S1 T1 g1 => ?_)
      obtain ⟨p, vs, rfl, h1, h2⟩ := Rp.tupI g1.rp
      exact ⟨p, rfl, ⟨vs, (h1.mono S1.sub).sqt⟩, hq _ H1 G1 S1 T1 (WalkJ.tup h1 h2)⟩
    · rename_i e1
      cases hf
      exact .inl (lst _ e1 rfl)
    · cases hf
/-- range(n), range(a, b) -/
def rangeD (lo : Int) (n : Nat) : List PyData := (List.range n).map fun i => .int (lo + (i : Nat))
theorem WalkJ.range {K : PySem.W.Frag} {Γ : Gm} {t : Tg} {Gw : Hp} {lo : Int} {n : Nat} : WalkJ K Γ t (Itr lo n) Gw (rangeD lo n) := by
  intro σ H G s S g
  refine ⟨fun i d hd => ?_, fun i hi => (show n ≤ i by simpa [rangeD] using hi)⟩
  have hi : i < n := by
    have := (List.getElem?_eq_some_iff.mp hd).1
    simpa [rangeD] using this
  have e : d = .int (lo + (i : Nat)) := by
    simp [rangeD, List.getElem?_range hi] at hd
    exact hd.symm
  subst e
  refine ⟨hi, fun x H' hy => ?_⟩
  obtain ⟨rfl, rfl⟩ := hy
  exact ⟨G, S, .refl, fit_val S (.int _)⟩
/-- an end that range takes; a number that stays small -/
def rOk (n : Int) : Bool := Nat.ble n.natAbs 1000000
theorem rOk_lim {n : Int} (h : rOk n = true) : -(2 ^ 62) ≤ n ∧ n < 2 ^ 62 := by
  have := Nat.le_of_ble_eq_true h
  omega
theorem rOk_nat {n : Nat} (h : n ≤ 1000000) : rOk (n : Int) = true := Nat.ble_eq_true_of_le (by omega)
def wRange1 (f : Ef) : Wf := fun s => (fI f s).bind fun (n, s') => if rOk n = true then some (rangeD 0 n.toNat, s') else none
theorem pid_range1 {tg a : Expr} {t : Tg} {f : Ef} {p pos : Pos} (h : PEd X Γ a f) (hg : Gl X "range") (hm : X.mg "range" = none) (hs : starEach [a] X.env = (false, eval a X.env) :: starEach [] X.env := by rfl) : PId X Γ tg (.Call (.Name "range" p) [a] [] pos) t (wRange1 f) := by
  obtain ⟨te, pe, k⟩ := h.int
  refine ⟨_, pi_range1 hg hm (pa_cons pe pa_nil hs) hs, fun σ H G s s' ds R S hf hq => ?_⟩
  unfold wRange1 at hf
  cases h1 : fI f s with
  | none => rw [h1] at hf; cases hf
  | some w =>
    obtain ⟨n, s1⟩ := w
    simp only [h1, Option.bind_some] at hf
    by_cases hn0 : rOk n = true
    · rw [if_pos hn0] at hf
      cases hf
      have hn := rOk_lim hn0
      exact k σ H G s _ n _ S h1 fun H1 G1 S1 T1 => ⟨n, rfl, hn.1, hn.2, hq _ H1 G1 S1 T1 WalkJ.range⟩
    · rw [if_neg hn0] at hf; cases hf
def wRange2 (f g : Ef) : Wf := fun s => (fI f s).bind fun (a, s1) => (fI g s1).bind fun (b, s2) => if (rOk a && rOk b) = true then some (rangeD a (b - a).toNat, s2) else none
theorem pid_range2 {tg a b : Expr} {t : Tg} {f g : Ef} {p pos : Pos} (ha : PEd X Γ a f) (hb : PEd X Γ b g) (hg : Gl X "range") (hm : X.mg "range" = none) (hs : starEach [a, b] X.env = (false, eval a X.env) :: starEach [b] X.env := by rfl) (hs2 : starEach [b] X.env = (false, eval b X.env) :: starEach [] X.env := by rfl) :
    PId X Γ tg (.Call (.Name "range" p) [a, b] [] pos) t (wRange2 f g) := by
  obtain ⟨te, pe, k⟩ := ha.int
  obtain ⟨tb, pb, kb⟩ := hb.int
  refine ⟨_, pi_range2 hg hm (pa_cons pe (pa_cons pb pa_nil hs2) hs) (by rw [hs, hs2]; rfl) hs2, fun σ H G s s' ds R S hf hq => ?_⟩
  unfold wRange2 at hf
  cases h1 : fI f s with
  | none => rw [h1] at hf; cases hf
  | some w =>
    obtain ⟨n, s1⟩ := w
    simp only [h1, Option.bind_some] at hf
    cases h2 : fI g s1 with
    | none => simp only [h2, Option.bind_none] at hf; cases hf
    | some w2 =>
      obtain ⟨m, s2⟩ := w2
      simp only [h2, Option.bind_some] at hf
      by_cases hn0 : (rOk n && rOk m) = true
      · rw [if_pos hn0] at hf
        cases hf
        have hn : -(2 ^ 62) ≤ n ∧ n < 2 ^ 62 ∧ -(2 ^ 62) ≤ m ∧ m < 2 ^ 62 := ⟨(rOk_lim (Bool.and_eq_true_iff.mp hn0).1).1, (rOk_lim (Bool.and_eq_true_iff.mp hn0).1).2, rOk_lim (Bool.and_eq_true_iff.mp hn0).2⟩
        exact k σ H G s s1 n _ S h1 fun H1 G1 S1 T1 => kb σ H1 G1 s1 _ m _ S1 h2 fun H2 G2 S2 T2 => ⟨n, m, rfl, hn, hq _ H2 G2 S2 (T1.trans T2) WalkJ.range⟩
      · rw [if_neg hn0] at hf; cases hf
/-- the signs of a text -/
def wStr (f : Ef) : Wf := fun s => match f s with
  | some (.val (.str z), s') => some (z.cps.toList.map fun c => .str ⟨#[c]⟩, s')
  | _ => none
theorem pid_str {tg e : Expr} {t : Tg} {f : Ef} (h : PEd X Γ e f) : PId X Γ tg e t (wStr f) := by
  obtain ⟨te, p, k⟩ := h
  refine ⟨_, pi_str p, fun σ H G s s' ds R S hf hq => ?_⟩
  unfold wStr at hf
  split at hf
  · rename_i z s1 e1
    cases hf
    refine k σ H G s _ _ _ S e1 fun v H1 G1 S1 T1 g1 => ?_
    cases (show Rp X.K G1 v (.str z) from g1.rp)
    refine ⟨z, rfl, hq _ H1 G1 S1 T1 ?_⟩
    intro σ2 H2 G2 s2 S2 g2
    refine ⟨fun i d hd => ?_, fun i hi => by simpa [Its] using hi⟩
    rw [List.getElem?_map] at hd
    cases ec : z.cps.toList[i]? with
    | none => rw [ec] at hd; cases hd
    | some c =>
      rw [ec] at hd
      cases hd
      have ec' : z.cps[i]? = some c := by simpa using ec
      refine ⟨(Array.getElem?_eq_some_iff.mp ec').1, fun x H' hy => ?_⟩
      obtain ⟨rfl, c', hc', rfl⟩ := hy
      rw [ec'] at hc'
      cases hc'
      exact ⟨G2, S2, .refl, fit_val S2 (.str _)⟩
  · cases hf
/-- reversed(list) -/
def wRev (f : Ef) : Wf := fun s => match f s with
  | some (.val (.list ds), s') => some (ds.reverse, s')
  | some (.ownL ds, s') => some (ds.reverse, s')
  | _ => none
theorem pid_rev {tg e : Expr} {t : Tg} {f : Ef} {p pos : Pos} (h : PEd X Γ e f) (hg : Gl X "reversed") (hm : X.mg "reversed" = none) (hs : starEach [e] X.env = (false, eval e X.env) :: starEach [] X.env := by rfl) : PId X Γ tg (.Call (.Name "reversed" p) [e] [] pos) t (wRev f) := by
  obtain ⟨te, pe, k⟩ := h
  refine ⟨_, pi_reversed hg hm (pa_cons pe pa_nil hs) hs, fun σ H G s s' ds R S hf hq => ?_⟩
  unfold wRev at hf
  have lst : ∀ r ds0, f s = some (r, s') → fz r = .val (.list ds0) → ds = ds0.reverse → iRev X.K (tCons te tNil) σ H R := fun r ds0 e1 e2 e3 => by
    subst e3
    refine k σ H G s s' r _ S e1 fun v H1 G1 S1 T1 g1 => ?_
    obtain ⟨G2, S2, T2, r2⟩ := S.freeze S1 T1 g1
    rw [e2] at r2
    obtain ⟨p, vs, rfl, h1, h2⟩ : ∃ p vs, v = .ref p ∧ G2 p = some (.lst vs) ∧ RpAll X.K G2 vs ds0 := by
      cases (show Rp X.K G2 v (.list ds0) from r2) with
      | lst q r => exact ⟨_, _, rfl, q, r⟩
    refine ⟨p, vs, rfl, .inl (.inl (S2.sub _ _ h1)), hq _ H1 G2 S2 T2 ?_⟩
    intro σ3 H3 G3 s3 S3 g3
    have hs : SqL X.K H3 p vs := .inl (.inl (S3.sub _ _ (g3 _ _ h1)))
    refine ⟨fun i d hd => ?_, fun i hi => by rw [List.length_reverse] at hi; rw [h2.length]; exact hi⟩
    have hl := (List.getElem?_eq_some_iff.mp hd).1
    rw [List.length_reverse] at hl
    rw [List.getElem?_reverse hl] at hd
    obtain ⟨v, f1, f2⟩ := h2.get hd
    rw [← h2.length] at f1
    refine ⟨⟨by rw [h2.length]; exact hl, vs, v, hs, f1⟩, fun x H' hy => ?_⟩
    obtain ⟨rfl, hy⟩ := hy
    have e := (hy vs hs).symm.trans f1
    cases e
    exact ⟨G3, S3, .refl, fit_val S3 (f2.mono g3)⟩
  split at hf
  · rename_i ds0 s1 e1
    cases hf
    exact lst _ ds0 e1 rfl rfl
  · rename_i ds0 s1 e1
    cases hf
    exact lst _ ds0 e1 rfl rfl
  · cases hf
/-- zip of two tuples, of two lists: into a written pair of targets -/
def zipD : List PyData → List PyData → List PyData
  | a :: r, b :: t => .tuple [a, b] :: zipD r t
  | _, _ => []
theorem zipD_get : ∀ {xs ys : List PyData} {i : Nat} {d : PyData}, (zipD xs ys)[i]? = some d → ∃ a b, xs[i]? = some a ∧ ys[i]? = some b ∧ d = .tuple [a, b]
  | [], _, _, _, h => by simp [zipD] at h
  | _ :: _, [], _, _, h => by simp [zipD] at h
  | a :: r, b :: t, 0, d, h => by simp [zipD] at h; exact ⟨a, b, rfl, rfl, h.symm⟩
  | a :: r, b :: t, i + 1, d, h => by
    obtain ⟨x, y, h1, h2, h3⟩ := zipD_get (xs := r) (ys := t) (i := i) (d := d) (by simpa [zipD] using h)
    exact ⟨x, y, by simpa using h1, by simpa using h2, h3⟩
theorem zipD_len : ∀ xs ys : List PyData, (zipD xs ys).length = min xs.length ys.length
  | [], _ => by simp [zipD]
  | _ :: _, [] => by simp [zipD]
  | a :: r, b :: t => by simp [zipD, zipD_len r t]
def wZip (f g : Ef) : Wf := fun s => (f s).bind fun (a, s1) => (g s1).bind fun (b, s2) => match fz a, fz b with
  | .val (.list xs), .val (.list ys) => some (zipD xs ys, s2)
  | .val (.tuple xs), .val (.tuple ys) => some (zipD xs ys, s2)
  | _, _ => none
theorem pid_zip {a b : Expr} {l : List Tg} {f g : Ef} {p pos tpos : Pos} {elts : List Expr} {kk : Nat} (ha : PEd X Γ a f) (hb : PEd X Γ b g) (hg : Gl X "zip") (hm : X.mg "zip" = none)
    (hs : starEach [a, b] X.env = (false, eval a X.env) :: starEach [b] X.env := by rfl) (hs2 : starEach [b] X.env = (false, eval b X.env) :: starEach [] X.env := by rfl) (hpl : (backTo pos (starEach [b] X.env)).any (·.1) = false := by rfl) :
    PId X Γ (.Tuple elts kk tpos) (.Call (.Name "zip" p) [a, b] [] pos) (.tp l) (wZip f g) := by
  obtain ⟨te, pe, k⟩ := ha
  obtain ⟨tb, pb, kb⟩ := hb
  refine ⟨_, RZ.pi_zipA hg hm (pa_cons pe (pa_cons pb pa_nil hs2) hs) hs hpl, fun σ H G s s' ds R S hf hq => ?_⟩
  unfold wZip at hf
  cases h1 : f s with
  | none => rw [h1] at hf; cases hf
  | some w =>
    obtain ⟨x, s1⟩ := w
    simp only [h1, Option.bind_some] at hf
    cases h2 : g s1 with
    | none => simp only [h2, Option.bind_none] at hf; cases hf
    | some w2 =>
      obtain ⟨y, s2⟩ := w2
      simp only [h2, Option.bind_some] at hf
      refine k σ H G s s1 x _ S h1 fun v H1 G1 S1 T1 g1 => ?_
      obtain ⟨G1', S1', T1', r1⟩ := S.freeze S1 T1 g1
      refine kb σ H1 G1' s1 s2 y _ S1' h2 fun w H2 G2 S2 T2 g2 => ?_
      obtain ⟨G2', S2', T2', r2⟩ := S1'.freeze S2 T2 g2
      have T := T1'.trans T2'
      split at hf
      · rename_i xs ys e1 e2
        cases hf
        rw [e1] at r1
        rw [e2] at r2
        obtain ⟨p1, vs1, rfl, a1, a2⟩ : ∃ p vs, v = .ref p ∧ G1' p = some (.lst vs) ∧ RpAll X.K G1' vs xs := by
          cases (show Rp X.K G1' v (.list xs) from r1) with
          | lst q r => exact ⟨_, _, rfl, q, r⟩
        obtain ⟨p2, vs2, rfl, b1, b2⟩ : ∃ p vs, w = .ref p ∧ G2' p = some (.lst vs) ∧ RpAll X.K G2' vs ys := by
          cases (show Rp X.K G2' w (.list ys) from r2) with
          | lst q r => exact ⟨_, _, rfl, q, r⟩
        have a1 := T2'.gg _ _ a1
        have a2 := a2.mono T2'.gg
        refine ⟨p1, p2, vs1, vs2, rfl, .inl ⟨.inl (.inl (S2'.sub _ _ a1)), .inl (.inl (S2'.sub _ _ b1)), hq _ H2 G2' S2' T ?_⟩⟩
        intro σ3 H3 G3 s3 S3 g3
        have q1 : SqL X.K H3 p1 vs1 := .inl (.inl (S3.sub _ _ (g3 _ _ a1)))
        have q2 : SqL X.K H3 p2 vs2 := .inl (.inl (S3.sub _ _ (g3 _ _ b1)))
        refine ⟨fun i d hd => ?_, fun i hi => ⟨vs1, vs2, q1, q2, by rw [zipD_len] at hi; rw [a2.length, b2.length]; omega⟩⟩
        obtain ⟨d1, d2, h3, h4, rfl⟩ := zipD_get hd
        obtain ⟨v1, f1, f2⟩ := a2.get h3
        obtain ⟨v2, f3, f4⟩ := b2.get h4
        refine ⟨⟨vs1, vs2, v1, v2, q1, q2, f1, f3⟩, fun x H' hy => ?_⟩
        obtain ⟨TT, x1, x2, rfl, hT, rfl, y1, y2⟩ := hy
        have e1 := (y1 vs1 q1).symm.trans f1
        have e2 := (y2 vs2 q2).symm.trans f3
        cases e1
        cases e2
        obtain ⟨A, B⟩ := S3.alloc (o := .tup [v1, v2]) hT
        exact ⟨G3, A, B, fun _ => ⟨[d1, d2], TT, [v1, v2], rfl, rfl, .inl (.inl upd_same), .cons (f2.mono g3) (.cons (f4.mono g3) .nil)⟩⟩
      · rename_i xs ys e1 e2
        cases hf
        rw [e1] at r1
        rw [e2] at r2
        obtain ⟨p1, vs1, rfl, a1, a2⟩ := Rp.tupI r1
        obtain ⟨p2, vs2, rfl, b1, b2⟩ := Rp.tupI r2
        have a1 := a1.mono T2'.gg
        have a2 := a2.mono T2'.gg
        refine ⟨p1, p2, vs1, vs2, rfl, .inr ⟨(a1.mono S2'.sub).sqt, (b1.mono S2'.sub).sqt, hq _ H2 G2' S2' T ?_⟩⟩
        intro σ3 H3 G3 s3 S3 g3
        have q1 : SqT X.K H3 p1 vs1 := ((a1.mono g3).mono S3.sub).sqt
        have q2 : SqT X.K H3 p2 vs2 := ((b1.mono g3).mono S3.sub).sqt
        refine ⟨fun i d hd => ?_, fun i hi => ⟨vs1, vs2, q1, q2, by rw [zipD_len] at hi; rw [a2.length, b2.length]; omega⟩⟩
        obtain ⟨d1, d2, h3, h4, rfl⟩ := zipD_get hd
        obtain ⟨v1, f1, f2⟩ := a2.get h3
        obtain ⟨v2, f3, f4⟩ := b2.get h4
        refine ⟨⟨vs1, vs2, v1, v2, q1, q2, f1, f3⟩, fun x H' hy => ?_⟩
        obtain ⟨TT, x1, x2, rfl, hT, rfl, y1, y2⟩ := hy
        have e1 := (y1 vs1 q1).symm.trans f1
        have e2 := (y2 vs2 q2).symm.trans f3
        cases e1
        cases e2
        obtain ⟨A, B⟩ := S3.alloc (o := .tup [v1, v2]) hT
        exact ⟨G3, A, B, fun _ => ⟨[d1, d2], TT, [v1, v2], rfl, rfl, .inl (.inl upd_same), .cons (f2.mono g3) (.cons (f4.mono g3) .nil)⟩⟩
      · cases hf
/-! ### for -/
def sFor (t : Tg) (f : Sf) : List PyData → Sf
  | [] => fun s => some (.nx s)
  | d :: ds => fun s => (t.put (.val d) s).bind fun s1 => (f s1).bind fun o => match o with
    | .nx s2 => sFor t f ds s2
    | .ct s2 => sFor t f ds s2
    | .bk s2 => some (.nx s2)
    | .rt r s2 => some (.rt r s2)
def sForW (w : Wf) (t : Tg) (f : Sf) : Sf := fun s => (w s).bind fun (ds, s1) => sFor t f ds s1
theorem ps_forD {tg iter : Expr} {body : List Stmt} {w : Wf} {t : Tg} {f : Sf} {pos : Pos} (hp : PassesOwn (model X.prog X.w) X.A X.env X.xe) (hc : X.calm = true) (hi : PId X Γ tg iter t w) (hg : PGd X Γ tg t) (hb : PSSd X Γ body f)
    (hs : ∀ x, foldedSetIterable iter X.env x = pure x := by intro _; rfl) : PSd X Γ (.For tg iter body [] pos) (sForW w t f) := by
  obtain ⟨wi, pi, ki⟩ := hi
  obtain ⟨g, pg, kg⟩ := hg
  obtain ⟨tb, pb, kb⟩ := hb
  refine ⟨_, ps_for hp hc pi pg pb hs, fun σ H G s o D S hf hq => ?_⟩
  unfold sForW at hf
  cases h1 : w s with
  | none => rw [h1] at hf; cases hf
  | some q =>
    obtain ⟨ds, s1⟩ := q
    simp only [h1, Option.bind_some] at hf
    refine ki σ H G s s1 ds _ S h1 fun J H1 G1 S1 T1 W1 => ?_
    refine ⟨fun i m σ H => ∃ G2 s2, Sta X.K Γ σ H G2 s2 ∧ Same G1 G2 ∧ i + m = ds.length ∧ sFor t f (ds.drop i) s2 = some o, ⟨ds.length, G1, s1, S1, Same.refl _, by omega, by rw [List.drop_zero]; exact hf⟩, fun i m σ2 H2 hW => ?_⟩
    obtain ⟨G2, s2, S2, e2, hm, h2⟩ := hW
    obtain ⟨w1, w2⟩ := W1 σ2 H2 G2 s2 S2 e2
    by_cases hlt : i < ds.length
    · refine .inr ?_
      have hd : ds[i]? = some ds[i] := List.getElem?_eq_getElem hlt
      obtain ⟨go, yl⟩ := w1 i ds[i] hd
      rw [List.drop_eq_getElem_cons hlt] at h2
      unfold sFor at h2
      cases h3 : t.put (.val ds[i]) s2 with
      | none => rw [h3] at h2; cases h2
      | some s3 =>
        simp only [h3, Option.bind_some] at h2
        cases h4 : f s3 with
        | none => rw [h4] at h2; cases h2
        | some o1 =>
          simp only [h4, Option.bind_some] at h2
          refine ⟨go, fun σ H => ∃ G2 s2, Sta X.K Γ σ H G2 s2 ∧ Same G1 G2 ∧ (i + 1) + (m - 1) = ds.length ∧ sFor t f (ds.drop (i + 1)) s2 = some o, fun σ' H' ⟨G', s', a, b, c, d⟩ => ⟨m - 1, by omega, G', s', a, b, c, d⟩, fun x H' hy => ?_⟩
          obtain ⟨G3, S3, T3, ft⟩ := yl x H' hy
          refine kg σ2 H' G3 s2 s3 x (.val ds[i]) _ S3 (ft ⟨s3, h3⟩) h3 fun σ4 S4 _ => ?_
          refine kb σ4 H' G3 s3 o1 _ S4 h4 ?_
          cases o1 with
          | nx s5 => exact fun σ' H' G' S' e => ⟨G', s5, S', (e2.trans T3.gg).trans e, by omega, h2⟩
          | ct s5 => exact fun σ' H' G' S' e => ⟨G', s5, S', (e2.trans T3.gg).trans e, by omega, h2⟩
          | bk s5 => cases h2; exact hq.mono ((T1.gg.trans e2).trans T3.gg)
          | rt r s5 => cases h2; exact hq.mono ((T1.gg.trans e2).trans T3.gg)
    · refine .inl ⟨w2 i (by omega), ?_⟩
      rw [List.drop_eq_nil_of_le (by omega)] at h2
      cases h2
      exact hq σ2 H2 G2 S2 (T1.gg.trans e2)
end
end PD

set_option Elab.async false
set_option linter.all false
set_option maxRecDepth 100000
set_option maxHeartbeats 1000000
/-! PDk: list comprehensions. -/
namespace PD
open PySem PySem.Spec PyProof.Rows L2
/-- the places that a comprehension has for its own -/
def wipeE (env : List (Option Pl)) : List Nat → List (Option Pl)
  | [] => env
  | v :: vs => (wipeE env vs).set v none
def restE (old new : List (Option Pl)) : List Nat → List (Option Pl)
  | [] => new
  | v :: vs => (restE old new vs).set v ((old[v]?).getD none)
theorem wipeE_len (env : List (Option Pl)) : ∀ vs, (wipeE env vs).length = env.length
  | [] => rfl
  | v :: vs => by unfold wipeE; rw [List.length_set, wipeE_len env vs]
theorem restE_len (old new : List (Option Pl)) : ∀ vs, (restE old new vs).length = new.length
  | [] => rfl
  | v :: vs => by unfold restE; rw [List.length_set, restE_len old new vs]
theorem wipeE_some {env : List (Option Pl)} {i : Nat} {a : Pl} : ∀ {vs : List Nat}, (wipeE env vs)[i]? = some (some a) → env[i]? = some (some a) ∧ i ∉ vs
  | [], h => ⟨h, by simp⟩
  | v :: vs, h => by
    unfold wipeE at h
    by_cases hi : v = i
    · subst hi
      by_cases hv : v < (wipeE env vs).length
      · rw [List.getElem?_set_self hv] at h; cases h
      · rw [List.getElem?_eq_none (by simpa using hv)] at h; cases h
    · rw [List.getElem?_set_ne hi] at h
      obtain ⟨h1, h2⟩ := wipeE_some h
      exact ⟨h1, by simp only [List.mem_cons, not_or]; exact ⟨fun e => hi e.symm, h2⟩⟩
theorem wipe_out' {σ : L2.St} {i : Nat} {vs : List Nat} (h : i ∉ vs) : (wipe σ vs)[i]? = σ[i]? := wipe_out h
theorem restE_get {old new : List (Option Pl)} {i : Nat} {a : Pl} (hl : old.length = new.length) : ∀ {vs : List Nat}, (restE old new vs)[i]? = some (some a) → (i ∈ vs ∧ old[i]? = some (some a)) ∨ (i ∉ vs ∧ new[i]? = some (some a))
  | [], h => .inr ⟨by simp, h⟩
  | v :: vs, h => by
    unfold restE at h
    by_cases hi : v = i
    · subst hi
      have lt : v < (restE old new vs).length := by
        have := (List.getElem?_eq_some_iff.mp h).1
        simpa using this
      rw [List.getElem?_set_self lt] at h
      rw [restE_len, ← hl] at lt
      rw [List.getElem?_eq_getElem lt] at h ⊢
      refine .inl ⟨by simp, ?_⟩
      simpa using h
    · rw [List.getElem?_set_ne hi] at h
      rcases restE_get hl h with ⟨h1, h2⟩ | ⟨h1, h2⟩
      · exact .inl ⟨List.mem_cons_of_mem _ h1, h2⟩
      · exact .inr ⟨by simp only [List.mem_cons, not_or]; exact ⟨fun e => hi e.symm, h1⟩, h2⟩
section
variable {K : PySem.W.Frag} {Γ : Gm} {σ : L2.St} {H G : Hp} {s : DS} {vs : List Nat}
theorem ownAt_wipe {env : List (Option Pl)} {fs : FS} {b : Addr} (h : OwnAt (wipe σ vs) ⟨wipeE env vs, fs⟩ b) : OwnAt σ ⟨env, fs⟩ b := by
  obtain ⟨i, a, h1, h2, h3⟩ := h
  obtain ⟨e1, e2⟩ := wipeE_some h1
  exact ⟨i, a, e1, h2, by rw [← wipe_out e2]; exact h3⟩
theorem Sta.wiped (S : Sta K Γ σ H G s) : Sta K Γ (wipe σ vs) H G ⟨wipeE s.env vs, s.fs⟩ := by
  refine ⟨S.sub, S.g0, S.fr, S.keep, by show (wipeE s.env vs).length = _; rw [wipeE_len, wipe_length]; exact S.len, fun i a e => ?_, fun i j a c v e1 e2 h1 h2 f1 f2 => ?_, fun b e => S.new b (ownAt_wipe e), S.fd⟩
  · obtain ⟨e1, e2⟩ := wipeE_some e
    obtain ⟨v, h1, h2⟩ := S.env i a e1
    exact ⟨v, by rw [wipe_out e2]; exact h1, h2⟩
  · obtain ⟨e1, e1'⟩ := wipeE_some e1
    obtain ⟨e2, e2'⟩ := wipeE_some e2
    rw [wipe_out e1'] at f1
    rw [wipe_out e2'] at f2
    exact S.dis i j a c v e1 e2 h1 h2 f1 f2
/-- behind the block: the own places are as they were -/
theorem Sta.rested {H1 G1 : Hp} {s1 s2 : DS} (S1 : Sta K Γ σ H1 G1 s1) (hn : ∀ v ∈ vs, ∀ a, s1.env[v]? = some (some a) → a.own = false) (S2 : Sta K Γ (wipe σ vs) H G s2) (T : Stp Γ (wipe σ vs) H1 G1 ⟨wipeE s1.env vs, s1.fs⟩ H G s2) :
    Sta K Γ σ H G ⟨restE s1.env s2.env vs, s2.fs⟩ ∧ Stp Γ σ H1 G1 s1 H G ⟨restE s1.env s2.env vs, s2.fs⟩ := by
  have hl : s1.env.length = s2.env.length := by rw [S1.len, S2.len, wipe_length]
  have own : ∀ b, OwnAt σ ⟨restE s1.env s2.env vs, s2.fs⟩ b → OwnAt (wipe σ vs) s2 b := fun b ⟨i, a, h1, h2, h3⟩ => by
    rcases restE_get hl h1 with ⟨e1, e2⟩ | ⟨e1, e2⟩
    · rw [hn i e1 a e2] at h2; cases h2
    · exact ⟨i, a, e2, h2, by rw [wipe_out e1]; exact h3⟩
  refine ⟨⟨S2.sub, S2.g0, S2.fr, S2.keep, by show (restE s1.env s2.env vs).length = _; rw [restE_len, S2.len, wipe_length], fun i a e => ?_, fun i j a c v e1 e2 h1 h2 f1 f2 => ?_, fun b e => S2.new b (own b e), S2.fd⟩,
    ⟨T.gg, fun b o h1 h2 e => T.keep b o h1 (fun z => h2 (ownAt_wipe z)) e, fun b e => ownAt_wipe (T.own b (own b e)), fun b e => ?_, T.mo⟩⟩
  · rcases restE_get hl e with ⟨e1, e2⟩ | ⟨e1, e2⟩
    · obtain ⟨v, h1, h2⟩ := S1.env i a e2
      exact ⟨v, h1, h2.step T.gg fun z => by rw [hn i e1 a e2] at z; cases z⟩
    · obtain ⟨v, h1, h2⟩ := S2.env i a e2
      exact ⟨v, by rw [← wipe_out e1]; exact h1, h2⟩
  · rcases restE_get hl e1 with ⟨g1, g2⟩ | ⟨g1, g2⟩
    · rw [hn i g1 a g2] at h1; cases h1
    · rcases restE_get hl e2 with ⟨g3, g4⟩ | ⟨g3, g4⟩
      · rw [hn j g3 c g4] at h2; cases h2
      · rw [← wipe_out g1] at f1
        rw [← wipe_out g3] at f2
        exact S2.dis i j a c v g2 g4 h1 h2 f1 f2
  · rcases T.nw b e with q | q | q
    · exact .inl q
    · exact .inr (.inl q)
    · exact .inr (.inr (ownAt_wipe q))
/-- between two turns -/
theorem Sta.rewiped {τ : L2.St} {H0 G0 H G : Hp} {s0 s : DS} (hw : wipe τ vs = wipe σ vs) (S : Sta K Γ τ H G s) (T : Stp Γ τ H0 G0 s0 H G s) (h0 : ∀ b, OwnAt τ s0 b → OwnAt (wipe σ vs) ⟨wipeE s0.env vs, s0.fs⟩ b) :
    Sta K Γ (wipe σ vs) H G ⟨wipeE s.env vs, s.fs⟩ := by
  rw [← hw]
  exact S.wiped
end
def plainAt (env : List (Option Pl)) (vs : List Nat) : Bool := vs.all fun v => match env[v]? with
  | some (some a) => !a.own
  | _ => true
theorem plainAt_of {env : List (Option Pl)} {vs : List Nat} (h : plainAt env vs = true) : ∀ v ∈ vs, ∀ a, env[v]? = some (some a) → a.own = false := fun v hv a e => by
  have := List.all_eq_true.mp h v hv
  rw [e] at this
  simpa using this
/-- one turn's end: the places wiped again -/
def lcLoop (vs : List Nat) (t : Tg) (ft : Bf) (fe : Ef) : List PyData → List PyData → DS → Option (List PyData × DS)
  | [], acc, s => some (acc, s)
  | d :: ds, acc, s => (t.put (.val d) s).bind fun s1 => (ft s1).bind fun (b, s2) =>
    if b = true then (fe s2).bind fun (r, s3) => match fz r with
      | .val x => if acc.length < sizeLine then lcLoop vs t ft fe ds (acc ++ [x]) ⟨wipeE s3.env vs, s3.fs⟩ else none
      | _ => none
    else lcLoop vs t ft fe ds acc ⟨wipeE s2.env vs, s2.fs⟩
def fLc (vs : List Nat) (w : Wf) (t : Tg) (ft : Bf) (fe : Ef) : Ef := fun s => (w s).bind fun (ds, s1) => if plainAt s1.env vs = true then
    (lcLoop vs t ft fe ds [] ⟨wipeE s1.env vs, s1.fs⟩).map fun (xs, s2) => (.ownL xs, ⟨restE s1.env s2.env vs, s2.fs⟩) else none
section
variable {X : Cx} {Γ : Gm}
/-- the tests of a comprehension -/
def PTsd (X : Cx) (Γ : Gm) (es : List Expr) (f : Bf) : Prop :=
  ∃ t : TT, PTs X es t ∧ ∀ (σ : L2.St) (H G : Hp) (s s' : DS) (b : Bool) (Q : Bool → Hp → Prop), Sta X.K Γ σ H G s → f s = some (b, s') →
    (∀ H' G', Sta X.K Γ σ H' G' s' → Stp Γ σ H G s H' G' s' → Q b H') → t σ H Q
def bYes : Bf := fun s => some (true, s)
theorem ptsd_nil : PTsd X Γ [] bYes := ⟨_, pts_nil, fun σ H G s s' b Q S hf hq => by cases hf; exact hq H G S .refl⟩
theorem ptsd_one {c : Expr} {f : Bf} (h : PTd X Γ c f) : PTsd X Γ [c] f := by
  obtain ⟨t, p, k⟩ := h
  exact ⟨t, pts_one p, k⟩
theorem wipe_idem {σ : L2.St} (vs : List Nat) : wipe (wipe σ vs) vs = wipe σ vs := by
  apply List.ext_getElem?
  intro i
  by_cases h : i ∈ vs
  · have aux : ∀ (us : List Nat) (τ : L2.St), i ∈ us → (wipe τ us)[i]? = (τ[i]?).map fun _ => none := by
      intro us
      induction us with
      | nil => intro τ h; cases h
      | cons u us ih =>
        intro τ h
        unfold wipe
        by_cases z : u = i
        · subst z
          by_cases l : u < (wipe τ us).length
          · rw [List.getElem?_set_self l]
            rw [wipe_length] at l
            rw [List.getElem?_eq_getElem l]; rfl
          · rw [List.getElem?_eq_none (by simpa using l)]
            rw [wipe_length] at l
            rw [List.getElem?_eq_none (by omega)]; rfl
        · rw [List.getElem?_set_ne z]
          exact ih τ (by rcases List.mem_cons.mp h with q | q; exact absurd q.symm z; exact q)
    rw [aux vs _ h, aux vs _ h]
    cases σ[i]? <;> rfl
  · rw [wipe_out h]
mutual
theorem put_own : ∀ (t : Tg) (d : PyData) (s s' : DS), t.put (.val d) s = some s' → ∀ (i : Nat) (a : Pl), s'.env[i]? = some (some a) → a.own = true → s.env[i]? = some (some a)
  | .nm j, d, s, s', h, i, a, e, o => by
    simp only [Tg.put, Option.some.injEq] at h
    subst h
    by_cases z : j = i
    · subst z
      have l : j < s.env.length := by
        have := (List.getElem?_eq_some_iff.mp e).1
        simpa using this
      have e' : (s.env.set j (some (.val d)))[j]? = some (some a) := e
      rw [List.getElem?_set_self l] at e'
      cases e'
      cases o
    · have e' : (s.env.set j (some (.val d)))[i]? = some (some a) := e
      rw [List.getElem?_set_ne z] at e'
      exact e'
  | .tp l, d, s, s', h, i, a, e, o => by
    cases d with
    | tuple ds => simp only [Tg.put] at h; exact putAll_own l ds s s' h i a e o
    | none => simp [Tg.put] at h
    | bool b => simp [Tg.put] at h
    | int b => simp [Tg.put] at h
    | str b => simp [Tg.put] at h
    | list b => simp [Tg.put] at h
    | dict b => simp [Tg.put] at h
theorem putAll_own : ∀ (l : List Tg) (ds : List PyData) (s s' : DS), Tg.putAll l ds s = some s' → ∀ (i : Nat) (a : Pl), s'.env[i]? = some (some a) → a.own = true → s.env[i]? = some (some a)
  | [], [], s, s', h, i, a, e, o => by simp only [Tg.putAll, Option.some.injEq] at h; subst h; exact e
  | [], _ :: _, s, s', h, i, a, e, o => by simp [Tg.putAll] at h
  | _ :: _, [], s, s', h, i, a, e, o => by simp [Tg.putAll] at h
  | t :: r, d :: ds, s, s', h, i, a, e, o => by
    simp only [Tg.putAll] at h
    cases e1 : t.put (.val d) s with
    | none => rw [e1] at h; cases h
    | some s1 =>
      rw [e1, Option.bind_some] at h
      exact put_own t d s s1 e1 i a (putAll_own r ds s1 s' h i a e o) o
end
theorem Sta.touch {K : PySem.W.Frag} {σ : L2.St} {H G : Hp} {s : DS} (S : Sta K Γ σ H G s) {D : Addr} {o : HO} (gd : G D = none) (df : D ≠ Γ.fa) (no : ¬ OwnAt σ s D) (h0 : Γ.H0 D = none) : Sta K Γ σ (upd H D o) G s := by
  refine ⟨fun b x e => ?_, S.g0, S.fr, fun b x h1 h2 => ?_, S.len, fun i sl e => ?_, S.dis, S.new, ?_⟩
  · rw [upd_ne (fun z => by rw [z, gd] at e; cases e)]; exact S.sub _ _ e
  · rw [upd_ne (fun z => by rw [z, h0] at h2; cases h2)]; exact S.keep b x h1 h2
  · obtain ⟨v, h1, h2⟩ := S.env i sl e
    refine ⟨v, h1, h2.step (Same.refl _) fun ow q hq => ?_⟩
    obtain ⟨q', o', e1, e2, e3, _⟩ := h2.ownP ow
    rw [hq] at e1
    cases e1
    exact ⟨upd_ne fun z => no ⟨i, sl, e, ow, by rw [h1, hq, z]⟩, e3⟩
  · obtain ⟨c, h1, h2, h3⟩ := S.fd
    exact ⟨c, by rw [upd_ne (Ne.symm df)]; exact h1, h2, h3⟩
theorem turnStp {σ τ : L2.St} {H1 G1 Ha Ga Hb Gb : Hp} {s1 s2 s3 s5 s6 : DS} (Ta : Stp Γ σ H1 G1 s1 Ha Ga s2) (o3 : ∀ b, OwnAt τ s3 b → OwnAt σ s2 b) (Tb : Stp Γ τ Ha Ga s3 Hb Gb s5) (o5 : ∀ b, OwnAt σ s6 b → OwnAt τ s5 b) : Stp Γ σ H1 G1 s1 Hb Gb s6 :=
  ⟨Ta.gg.trans Tb.gg, fun b o h1 h2 e => Tb.keep b o h1 (fun z => h2 (Ta.own b (o3 b z))) (Ta.keep b o h1 h2 e), fun b e => Ta.own b (o3 b (Tb.own b (o5 b e))), fun b e => by
    rcases Tb.nw b e with q | q | q
    · exact Ta.nw b q
    · refine .inr (.inl ?_)
      cases z : H1 b with
      | none => rfl
      | some o => exact absurd q (Ta.mo b (by rw [z]; simp))
    · exact .inr (.inr (Ta.own b (o3 b q))), fun b e => Tb.mo b (Ta.mo b e)⟩
abbrev BlkD (X : Cx) (scope : Scope) (P : Cx → Prop) : Prop := ∀ (s : Shared) (H : Hp) (C : Addr) (cl : List (Str × Addr)) (fp : List Addr), P (X.blk s H scope (compEnvC scope cl C X.env) fp)
/-- the readings for all blocks at once -/
theorem lc_read {elt tg iter : Expr} {ifs : List Expr} {scope : Scope} {own : List (Str × Nat)} {w : Wf} {t : Tg} {ft : Bf} {fe : Ef} (hi : PId X Γ tg iter t w)
    (hg : BlkD X scope fun Y => PGd Y Γ tg t) (ht : BlkD X scope fun Y => PTsd Y Γ ifs ft) (he : BlkD X scope fun Y => PEd Y Γ elt fe) (hsub : t.slots.all (fun i => decide (i ∈ own.map (·.2))) = true) :
    ∃ (wi : TI) (g : TG) (tt : TT) (te : TE), PI X tg iter wi ∧ (BlkD X scope fun Y => PG Y tg g) ∧ (BlkD X scope fun Y => PTs Y ifs tt) ∧ (BlkD X scope fun Y => PE Y elt te) ∧
      ∀ (σ : L2.St) (H G : Hp) (s s' : DS) (r : Pl) (Q : VK), Sta X.K Γ σ H G s → fLc (own.map (·.2)) w t ft fe s = some (r, s') →
        (∀ v H' G', Sta X.K Γ σ H' G' s' → Stp Γ σ H G s H' G' s' → Got X.K Γ H H' G' v r → Q v H') → tLc wi g tt te (own.map (·.2)) σ H Q := by
  obtain ⟨wi, pi, ki⟩ := hi
  let g : TG := fun v σ H Q => ∀ (s : Shared) (H' : Hp) (C : Addr) (cl : List (Str × Addr)) (fp : List Addr), (Classical.choose (hg s H' C cl fp)) v σ H Q
  let tt : TT := fun σ H Q => ∀ (s : Shared) (H' : Hp) (C : Addr) (cl : List (Str × Addr)) (fp : List Addr), (Classical.choose (ht s H' C cl fp)) σ H Q
  let te : TE := fun σ H Q => ∀ (s : Shared) (H' : Hp) (C : Addr) (cl : List (Str × Addr)) (fp : List Addr), (Classical.choose (he s H' C cl fp)) σ H Q
  refine ⟨wi, g, tt, te, pi, fun s H C cl fp => ⟨fun pins s1 σ H1 v u Q I r q => (Classical.choose_spec (hg s H C cl fp)).1.run pins s1 σ H1 v u Q I r (q s H C cl fp)⟩,
    fun s H C cl fp => ⟨fun pins s1 σ H1 Q I q => (Classical.choose_spec (ht s H C cl fp)).1.run pins s1 σ H1 Q I (q s H C cl fp)⟩,
    fun s H C cl fp => ⟨fun pins s1 σ H1 Q I q => (Classical.choose_spec (he s H C cl fp)).1.run pins s1 σ H1 Q I (q s H C cl fp)⟩, fun σ H G s s' r Q S hf hq => ?_⟩
  have kg : ∀ (σ : L2.St) (H G : Hp) (s s' : DS) (v : V) (r : Pl) (Q : L2.St → Hp → Prop), Sta X.K Γ σ H G s → FitT X.K Γ σ H G s v r t → t.put r s = some s' →
    (∀ σ', Sta X.K Γ σ' H G s' → (∀ vs : List Nat, (∀ i ∈ t.slots, i ∈ vs) → wipe σ' vs = wipe σ vs) → Q σ' H) → g v σ H Q := fun σ H G s s' v r Q a b c d s2 H' C cl fp => (Classical.choose_spec (hg s2 H' C cl fp)).2 σ H G s s' v r Q a b c d
  have kt : ∀ (σ : L2.St) (H G : Hp) (s s' : DS) (b : Bool) (Q : Bool → Hp → Prop), Sta X.K Γ σ H G s → ft s = some (b, s') →
    (∀ H' G', Sta X.K Γ σ H' G' s' → Stp Γ σ H G s H' G' s' → Q b H') → tt σ H Q := fun σ H G s s' b Q a h d s2 H' C cl fp => (Classical.choose_spec (ht s2 H' C cl fp)).2 σ H G s s' b Q a h d
  have ke : ∀ (σ : L2.St) (H G : Hp) (s s' : DS) (r : Pl) (Q : VK), Sta X.K Γ σ H G s → fe s = some (r, s') →
    (∀ v H' G', Sta X.K Γ σ H' G' s' → Stp Γ σ H G s H' G' s' → Got X.K Γ H H' G' v r → Q v H') → te σ H Q := fun σ H G s s' b Q a h d s2 H' C cl fp => (Classical.choose_spec (he s2 H' C cl fp)).2 σ H G s s' b Q a h d
  have hsub' : ∀ i ∈ t.slots, i ∈ own.map (·.2) := fun i h => of_decide_eq_true (List.all_eq_true.mp hsub i h)
  generalize own.map (·.2) = vs at hf hsub' ⊢
  unfold fLc at hf
  cases h1 : w s with
  | none => rw [h1] at hf; cases hf
  | some q =>
  obtain ⟨ds, s1⟩ := q
  simp only [h1, Option.bind_some] at hf
  by_cases hp : plainAt s1.env vs = true
  case neg => rw [if_neg hp] at hf; cases hf
  rw [if_pos hp] at hf
  cases h2 : lcLoop vs t ft fe ds [] ⟨wipeE s1.env vs, s1.fs⟩ with
  | none => rw [h2] at hf; cases hf
  | some q2 =>
  obtain ⟨xs, sF⟩ := q2
  rw [h2] at hf
  cases hf
  refine ki σ H G s s1 ds _ S h1 fun J H1 G1 S1 T1 W1 => ?_
  intro D hD
  have Sw : Sta X.K Γ (wipe σ vs) H1 G1 ⟨wipeE s1.env vs, s1.fs⟩ := S1.wiped
  obtain ⟨gD, dfa⟩ := S1.gNone hD
  have h0D := S1.fresh0 hD
  have noD : ∀ {H2 G2 : Hp} {s2 : DS}, Stp Γ (wipe σ vs) H1 G1 ⟨wipeE s1.env vs, s1.fs⟩ H2 G2 s2 → ¬ OwnAt (wipe σ vs) s2 D := fun T z => by
    obtain ⟨⟨o, q⟩, _⟩ := Sw.ownThere (T.own D z)
    rw [hD] at q; cases q
  refine ⟨fun i m H => ∃ (G2 : Hp) (s2 : DS) (acc : List PyData) (va : List V), Sta X.K Γ (wipe σ vs) H G2 s2 ∧ Stp Γ (wipe σ vs) H1 G1 ⟨wipeE s1.env vs, s1.fs⟩ H G2 s2 ∧ H D = some (.lst va) ∧ G2 D = none ∧ RpAll X.K G2 va acc ∧
    (∀ v ∈ vs, ∀ a, s2.env[v]? ≠ some (some a)) ∧ i + m = ds.length ∧ lcLoop vs t ft fe (ds.drop i) acc s2 = some (xs, sF), ⟨ds.length, G1, ⟨wipeE s1.env vs, s1.fs⟩, [], [], ?_⟩, fun i m H2 hW => ?_⟩
  · obtain ⟨A, B⟩ := Sw.alloc (o := .lst []) hD
    exact ⟨A, B, upd_same, gD, .nil, fun v hv a e => (wipeE_some e).2 hv, by omega, by rw [List.drop_zero]; exact h2⟩
  · obtain ⟨G2, s2, acc, va, S2, T2, hva, gD2, ra, hvs, hm, hl⟩ := hW
    obtain ⟨w1, w2⟩ := W1 (wipe σ vs) H2 G2 s2 S2 T2.gg
    by_cases hlt : i < ds.length
    case neg =>
      refine .inl ⟨w2 i (by omega), ?_⟩
      rw [List.drop_eq_nil_of_le (by omega)] at hl
      unfold lcLoop at hl
      cases hl
      obtain ⟨A, B⟩ := S1.rested (plainAt_of hp) S2 T2
      refine hq (.ref D) H2 G2 A (T1.trans B) ⟨⟨D, va, rfl, hva, gD2, dfa, ra⟩, fun _ => ⟨D, rfl, ?_⟩⟩
      cases z : H D with
      | none => rfl
      | some o => exact absurd hD (T1.mo D (by rw [z]; simp))
    refine .inr ?_
    have hd : ds[i]? = some ds[i] := List.getElem?_eq_getElem hlt
    obtain ⟨go, yl⟩ := w1 i ds[i] hd
    rw [List.drop_eq_getElem_cons hlt] at hl
    unfold lcLoop at hl
    cases h3 : t.put (.val ds[i]) s2 with
    | none => rw [h3] at hl; cases hl
    | some s3 =>
    simp only [h3, Option.bind_some] at hl
    cases h4 : ft s3 with
    | none => rw [h4] at hl; cases hl
    | some q4 =>
    obtain ⟨b, s4⟩ := q4
    simp only [h4, Option.bind_some] at hl
    refine ⟨go, fun H => ∃ (G2 : Hp) (s2 : DS) (acc : List PyData) (va : List V), Sta X.K Γ (wipe σ vs) H G2 s2 ∧ Stp Γ (wipe σ vs) H1 G1 ⟨wipeE s1.env vs, s1.fs⟩ H G2 s2 ∧ H D = some (.lst va) ∧ G2 D = none ∧ RpAll X.K G2 va acc ∧
      (∀ v ∈ vs, ∀ a, s2.env[v]? ≠ some (some a)) ∧ (i + 1) + (m - 1) = ds.length ∧ lcLoop vs t ft fe (ds.drop (i + 1)) acc s2 = some (xs, sF),
      fun H' ⟨a1, a2, a3, a4, a5, a6, a7, a8, a9, a10, a11, a12⟩ => ⟨m - 1, by omega, a1, a2, a3, a4, a5, a6, a7, a8, a9, a10, a11, a12⟩, fun x H' hy => ?_⟩
    obtain ⟨G3, S3, T3, fit⟩ := yl x H' hy
    refine kg (wipe σ vs) H' G3 s2 s3 x (.val ds[i]) _ S3 (fit ⟨s3, h3⟩) h3 fun σ4 S4 w4 => ?_
    have hw : wipe σ4 vs = wipe σ vs := (w4 vs hsub').trans (wipe_idem vs)
    refine ⟨hw, ?_⟩
    have o3 : ∀ b, OwnAt σ4 s3 b → OwnAt (wipe σ vs) s2 b := fun b ⟨j, a, e1, e2, e3⟩ => by
      have f1 := put_own t _ s2 s3 h3 j a e1 e2
      have f2 : j ∉ vs := fun z => hvs j z a f1
      refine ⟨j, a, f1, e2, ?_⟩
      rw [← hw, wipe_out f2]
      exact e3
    have o5 : ∀ (s5 : DS) (b : Addr), OwnAt (wipe σ vs) ⟨wipeE s5.env vs, s5.fs⟩ b → OwnAt σ4 s5 b := fun s5 b ⟨j, a, e1, e2, e3⟩ => by
      obtain ⟨f1, f2⟩ := wipeE_some e1
      rw [← hw, wipe_out f2] at e3
      exact ⟨j, a, f1, e2, e3⟩
    have T23 := T2.trans T3
    have hva3 : H' D = some (.lst va) := T3.keep D _ dfa (noD T2) hva
    have gD3 : G3 D = none := by
      cases z : G3 D with
      | none => rfl
      | some o =>
        rcases T3.nw D (by rw [z]; simp) with q | q | q
        · exact absurd gD2 q
        · rw [hva] at q; cases q
        · exact absurd q (noD T2)
    have no4 : ∀ {H5 G5 : Hp} {s5 : DS}, Stp Γ σ4 H' G3 s3 H5 G5 s5 → ¬ OwnAt σ4 s5 D := fun T z => noD T23 (o3 D (T.own D z))
    have keepD : ∀ {H5 G5 : Hp} {s5 : DS}, Stp Γ σ4 H' G3 s3 H5 G5 s5 → H5 D = some (.lst va) ∧ G5 D = none := fun {H5 G5 s5} T => by
      have n3 : ¬ OwnAt σ4 s3 D := fun z => noD T23 (o3 D z)
      refine ⟨T.keep D _ dfa n3 hva3, ?_⟩
      cases z : G5 D with
      | none => rfl
      | some o =>
        rcases T.nw D (by rw [z]; simp) with q | q | q
        · exact absurd gD3 q
        · rw [hva3] at q; cases q
        · exact absurd q n3
    refine kt σ4 H' G3 s3 s4 b _ S4 h4 fun H5 G5 S5 T5 => ?_
    cases b with
    | false =>
      rw [if_neg Bool.false_ne_true] at hl ⊢
      obtain ⟨d1, d2⟩ := keepD T5
      refine ⟨G5, ⟨wipeE s4.env vs, s4.fs⟩, acc, va, by rw [← hw]; exact S5.wiped, turnStp T23 o3 T5 (o5 s4), d1, d2, ra.mono (T3.gg.trans T5.gg), fun v hv a e => (wipeE_some e).2 hv, by omega, hl⟩
    | true =>
      rw [if_pos rfl] at hl ⊢
      cases h5 : fe s4 with
      | none => rw [h5] at hl; cases hl
      | some q5 =>
      obtain ⟨r, s5⟩ := q5
      simp only [h5, Option.bind_some] at hl
      refine ke σ4 H5 G5 s4 s5 r _ S5 h5 fun v H6 G6 S6 T6 g6 => ?_
      obtain ⟨G7, S7, T7, r7⟩ := S5.freeze S6 T6 g6
      have T57 := T5.trans T7
      obtain ⟨d1, d2⟩ := keepD T57
      split at hl
      · rename_i y ey
        rw [ey] at r7
        by_cases hz : acc.length < sizeLine
        case neg => rw [if_neg hz] at hl; cases hl
        rw [if_pos hz] at hl
        have T8 := turnStp T23 o3 T57 (o5 s5)
        have Sw7 : Sta X.K Γ (wipe σ vs) H6 G7 ⟨wipeE s5.env vs, s5.fs⟩ := by rw [← hw]; exact S7.wiped
        refine ⟨va, d1, by rw [ra.length]; exact hz, G7, ⟨wipeE s5.env vs, s5.fs⟩, acc ++ [y], va ++ [v], Sw7.touch d2 dfa (noD T8) h0D, ⟨T8.gg, fun b o n1 n2 e => ?_, T8.own, T8.nw, fun b e => ?_⟩, upd_same, d2, (ra.mono (T3.gg.trans T57.gg)).append (.cons r7 .nil), fun v hv a e => (wipeE_some e).2 hv, by omega, hl⟩
        · rw [upd_ne (fun z => by rw [z, hD] at e; cases e)]
          exact T8.keep b o n1 n2 e
        · rw [upd_ne (fun z => e (by rw [z]; exact hD))]
          exact T8.mo b e
      · cases hl
theorem pd_lc {elt tg iter : Expr} {ifs : List Expr} {scope : Scope} {own : List (Str × Nat)} {pos : Pos} {w : Wf} {t : Tg} {ft : Bf} {fe : Ef} (hc : X.calm = true) (hN : X.N.Nodup) (hi : PId X Γ tg iter t w) (ok : BlkOk X.N X.env.scope scope own)
    (hg : BlkD X scope fun Y => PGd Y Γ tg t) (ht : BlkD X scope fun Y => PTsd Y Γ ifs ft) (he : BlkD X scope fun Y => PEd Y Γ elt fe) (hsub : t.slots.all (fun i => decide (i ∈ own.map (·.2))) = true := by rfl) (hs : ∀ x, foldedSetIterable iter X.env x = pure x := by intro _; rfl) :
    PEd X Γ (.ListComp elt [⟨tg, iter, ifs, 0⟩] scope pos) (fLc (own.map (·.2)) w t ft fe) := by
  obtain ⟨wi, g, tt, te, pi, pg, pt, pe, k⟩ := lc_read (ifs := ifs) hi hg ht he hsub
  exact ⟨_, pe_lc hc hN pi ok pg pt pe hs, k⟩
theorem ps_setLcD {i : Nat} {y : Str} {py : Pos} {elt tg iter : Expr} {ifs : List Expr} {scope : Scope} {own : List (Str × Nat)} {pos spos : Pos} {w : Wf} {t : Tg} {ft : Bf} {fe : Ef} (hc : X.calm = true) (hN : X.N.Nodup) (hy : X.N[i]? = some y) (hyl : X.env.scope.names.lookup y = some .local)
    (hsw : swapsWith (.ListComp elt [⟨tg, iter, ifs, 0⟩] scope pos) (some (.Name y py)) spos.line X.env = pure true) (hi : PId X Γ tg iter t w) (ok : BlkOk X.N X.env.scope scope own)
    (hg : BlkD X scope fun Y => PGd Y Γ tg t) (ht : BlkD X scope fun Y => PTsd Y Γ ifs ft) (he : BlkD X scope fun Y => PEd Y Γ elt fe) (hsub : t.slots.all (fun i => decide (i ∈ own.map (·.2))) = true := by rfl) (hs : ∀ x, foldedSetIterable iter X.env x = pure x := by intro _; rfl) :
    PSd X Γ (.Assign [.Name y py] (.ListComp elt [⟨tg, iter, ifs, 0⟩] scope pos) spos) (sAsg (fLc (own.map (·.2)) w t ft fe) (.nm i)) := by
  obtain ⟨wi, g, tt, te, pi, pg, pt, pe, k⟩ := lc_read (ifs := ifs) hi hg ht he hsub
  refine ⟨_, ps_setLc hc hN hy hyl hsw pi ok pg pt pe hs, fun σ H G s o D S hf hp => ?_⟩
  unfold sAsg at hf
  cases h1 : fLc (own.map (·.2)) w t ft fe s with
  | none => rw [h1] at hf; cases hf
  | some q =>
    obtain ⟨r, s1⟩ := q
    simp only [h1, Option.bind_some, Tg.put, Option.map_some, Option.some.injEq] at hf
    subst hf
    refine k σ H G s s1 r _ S h1 fun v H1 G1 S1 T1 g1 => ?_
    exact hp _ H1 G1 (S1.put i (g1.fits S T1)) T1.gg
end
end PD

set_option Elab.async false
set_option linter.all false
set_option maxRecDepth 100000
set_option maxHeartbeats 1000000
/-! PDl: defs as functions of data; their calls. -/
namespace PD
open PySem PySem.Spec PyProof.Rows L2
abbrev Df := List Pl → FS → Option (Pl × FS)
/-- what stands behind a call -/
structure CallP (K : PySem.W.Frag) (fa : Addr) (H G : Hp) (fs' : FS) (H' G' : Hp) (v : V) (r : Pl) : Prop where
  gg : Same G G'
  nw : ∀ b, G' b ≠ none → G b ≠ none ∨ H b = none
  sub : Same G' H'
  keep : ∀ b o, b ≠ fa → H b = some o → H' b = some o
  fd : FeedAt fa H' G' fs'
  rp : SRp K fa H' G' v r
  ow : r.own = true → ∃ p, v = .ref p ∧ H p = none
structure FnD (P : Program) (w : World) (K : PySem.W.Frag) (mg : Str → Option Value) (base : Heap) (k : Nat) (f : Addr) (fd : FuncData) (ps : List Str) (g : Df) : Prop where
  len : ∀ as fs q, g as fs = some q → as.length = ps.length
  run : ∀ (A : Around) (outer : List Env) (s : Shared) (H : Hp) (args : Args) (us : List Value) (vs : List V), Room k A → A.guards = some [] → Env0 P w K mg base A outer s H → BindsTo s fd args (ps.zip us) → Vals vs us → vs.length = ps.length →
    ∀ (fa : Addr) (G : Hp) (as : List Pl) (fs fs' : FS) (r : Pl) (Q : VK), Same G H → FeedAt fa H G fs → SAll K fa H G vs as → g as fs = some (r, fs') →
      (∀ v H' G', CallP K fa H G fs' H' G' v r → Q v H') → codeAny (model P w) A (.call (.ref f) args) (CR CX0 outer P w H s Q E0) s
theorem FnD.mono {P : Program} {w : World} {K : PySem.W.Frag} {mg : Str → Option Value} {base : Heap} {j k : Nat} {f : Addr} {fd : FuncData} {ps : List Str} {g : Df} (F : FnD P w K mg base j f fd ps g) (h : j ≤ k) : FnD P w K mg base k f fd ps g :=
  ⟨F.len, fun A outer s H args us vs hr => F.run A outer s H args us vs (hr.mono h)⟩
/-- a def told by an equal function, or by one that says less -/
theorem FnD.imp {P : Program} {w : World} {K : PySem.W.Frag} {mg : Str → Option Value} {base : Heap} {k : Nat} {f : Addr} {fd : FuncData} {ps : List Str} {g g' : Df} (F : FnD P w K mg base k f fd ps g) (h : ∀ as fs q, g' as fs = some q → g as fs = some q) : FnD P w K mg base k f fd ps g' :=
  ⟨fun as fs q e => F.len as fs q (h as fs q e), fun A outer s H args us vs hr hgd e0 hb rv hl fa G as fs fs' r Q h1 h2 h3 h4 => F.run A outer s H args us vs hr hgd e0 hb rv hl fa G as fs fs' r Q h1 h2 h3 (h as fs _ h4)⟩
def startD (n : Nat) (as : List Pl) : List (Option Pl) := as.map some ++ List.replicate (n - as.length) none
def runDef (np n : Nat) (f : Sf) : Df := fun as fs => if as.length = np then match f ⟨startD n as, fs⟩ with
  | some (.nx s') => some (.val .none, s'.fs)
  | some (.rt r s') => some (r, s'.fs)
  | _ => none else none
theorem sta_start {K : PySem.W.Frag} {fa : Addr} {H G : Hp} {vs : List V} {as : List Pl} {fs : FS} {N : List Str} (h1 : Same G H) (h2 : FeedAt fa H G fs) (h3 : SAll K fa H G vs as) : Sta K ⟨fa, H, G⟩ (start N vs) H G ⟨startD N.length as, fs⟩ := by
  have hl := h3.length
  have gets : ∀ (i : Nat) (a : Pl), (startD N.length as)[i]? = some (some a) → as[i]? = some a := fun i a e => by
    unfold startD at e
    rw [List.getElem?_append] at e
    split at e
    · rw [List.getElem?_map] at e
      cases q : as[i]? with
      | none => rw [q] at e; cases e
      | some x => rw [q] at e; cases e; rfl
    · rw [List.getElem?_replicate] at e
      split at e <;> cases e
  have val : ∀ {vs : List V} {as : List Pl}, SAll K fa H G vs as → ∀ (i : Nat) (a : Pl), as[i]? = some a → ∃ v, vs[i]? = some v ∧ SRp K fa H G v a ∧ a.own = false := by
    intro vs as h
    induction h with
    | nil => intro i a e; simp at e
    | cons q n r ih =>
      intro i a e
      cases i with
      | zero => simp at e; subst e; exact ⟨_, rfl, q, n⟩
      | succ i => obtain ⟨v, f1, f2⟩ := ih i a (by simpa using e); exact ⟨v, by simpa using f1, f2⟩
  have noown : ∀ (i : Nat) (a : Pl), (startD N.length as)[i]? = some (some a) → a.own = true → False := fun i a e o => by
    obtain ⟨v, _, _, n⟩ := val h3 i a (gets i a e)
    rw [n] at o; cases o
  refine ⟨h1, Same.refl _, fun b e => .inl e, fun b o _ e => e, ?_, fun i a e => ?_, fun i j a c v e1 e2 o1 _ _ _ => (noown i a e1 o1).elim, fun b ⟨i, a, e, o, _⟩ => (noown i a e o).elim, h2⟩
  · unfold startD L2.start
    simp [hl]
  · obtain ⟨v, f1, f2, _⟩ := val h3 i a (gets i a e)
    refine ⟨v, ?_, f2⟩
    have lt := (List.getElem?_eq_some_iff.mp f1).1
    unfold L2.start
    rw [List.getElem?_append_left (by simpa using lt), List.getElem?_map, f1]
    rfl
theorem fnD_of {P : Program} {w : World} {K : PySem.W.Frag} {mg : Str → Option Value} {base : Heap} {k : Nat} {f : Addr} {name qual : Str} {params : Arguments} {body : List Stmt} {scope : Scope} {dV kV doc pm cdv ct oc : Value} {an od : Option Addr}
    {osl : Array (Option Value)} {N ps : List Str} {bf : Sf} (lk : K.lookup f = some ⟨oc, od, .func (PySem.W.fnOf name qual params body scope dV kV doc pm an cdv ct), osl⟩) (hcd : PySem.W.codeIn K cdv qual = true) (S : FnScope N ps scope)
    (hbody : ∀ (A : Around) (outer : List Env) (s : Shared) (H : Hp), Room k (A.deeper (envOfC qual scope s.heap.objs.size f cdv)) → (A.deeper (envOfC qual scope s.heap.objs.size f cdv)).guards = some [] → ∀ Γ : Gm,
      PSSd (cxOf CX0 P w K mg base N qual scope f cdv A outer s H E0).nox Γ body bf) :
    FnD P w K mg base (k + 1) f (PySem.W.fnOf name qual params body scope dV kV doc pm an cdv ct) ps (runDef ps.length N.length bf) := by
  refine ⟨fun as fs q e => ?_, fun A outer s H args us vs hr hgd e0 hb r hl fa G as fs fs' rr Q h1 h2 h3 h4 hq => ?_⟩
  · unfold runDef at e
    by_cases z : as.length = ps.length
    · exact z
    · rw [if_neg z] at e; cases e
  have KX : K.In s.heap := e0.mod.kin.keeps fun b o e => (e0.bs b o e).1
  have lim : s.heap.NoLimit := e0.mod.nolimit.keeps fun b o e => (e0.bs b o e).1
  have hkind : ∀ y ∈ ps.zip us, scope.names.lookup y.1 = some .local ∨ (scope.names.lookup y.1 = some .cell ∧ ((cellsFrom (s.heap.objs.size + 1) scope.names []).lookup y.1).isSome = true) := fun ⟨n, v⟩ hy => by
    rcases S.par n (List.of_mem_zip hy).1 with q | q
    · exact .inl q
    · exact .inr ⟨q, PySem.W.cellsFrom_some _ _ _ (.inl q)⟩
  refine codeAny_call_function hr.depth (KX _ _ lk) rfl S.co S.gen rfl (PySem.W.codeRec_of KX hcd) (hb _ _ _ _ ?_)
  refine wpAny_newFunctionEnv_cells S.kind hkind fun env he s1 x => ?_
  subst he
  refine ⟨lim.keeps x.toInCall.keep, codeAny_func ?_⟩
  obtain ⟨t, ht, hk⟩ := hbody A outer s H (hr.deeper _) hgd ⟨fa, H, G⟩
  have ht := ht.nox
  have I : Inv (cxOf CX0 P w K mg base N qual scope f cdv A outer s H E0) [] (start N vs) H s1 := inv_start S hr.hd e0 hl r x
  unfold runDef at h4
  by_cases hz : as.length = ps.length
  case neg => rw [if_neg hz] at h4; cases h4
  rw [if_pos hz] at h4
  have S0 := sta_start (N := N) h1 h2 h3
  have hread : t { nx := fun _ H' => Q .non H', rt := Q } (start N vs) H := by
    cases ho : bf ⟨startD N.length as, fs⟩ with
    | none => rw [ho] at h4; cases h4
    | some o =>
      rw [ho] at h4
      refine hk (start N vs) H G _ o _ S0 ho ?_
      have done : ∀ (v : V) (σ' : L2.St) (H' G' : Hp) (s' : DS) (r' : Pl), Sta K ⟨fa, H, G⟩ σ' H' G' s' → Same G G' → Got K ⟨fa, H, G⟩ H H' G' v r' → CallP K fa H G s'.fs H' G' v r' := fun v σ' H' G' s' r' S' gg gt =>
        ⟨gg, S'.fr, S'.sub, S'.keep, S'.fd, gt.rp, gt.ow⟩
      cases o with
      | nx s' => cases h4; exact fun σ' H' G' S' gg => hq .non H' G' (done .non σ' H' G' s' (.val .none) S' gg (.new (fa := fa) .non))
      | rt r' s' => cases h4; exact fun v σ' H' G' S' gg gt => hq v H' G' (done v σ' H' G' s' rr S' gg gt)
      | bk s' => cases h4
      | ct s' => cases h4
  refine wpAny_mono (ht.run [] s1 (start N vs) H _ I hread) (fun fl s' hs => ?_) fun e s' hs => hs
  have fin : ∀ {σ' : L2.St} {H' : Hp} {v : V} {u : Value}, Inv (cxOf CX0 P w K mg base N qual scope f cdv A outer s H E0) [] σ' H' s' → RelV v u → Q v H' → CE outer P w H s Q u s' :=
    fun {σ' H' v u} J rv q => ⟨v, H', J.os, J.bare, J.base, J.hok, rv, q⟩
  cases fl with
  | ret u =>
    obtain ⟨v, σ', H', J, rv, q⟩ := hs
    exact fin J rv q
  | next =>
    obtain ⟨σ', H', J, q⟩ := hs
    exact fin (v := V.non) (u := Value.none) J rfl q
  | brk =>
    obtain ⟨_, _, _, q⟩ := hs
    exact False.elim q
  | cont =>
    obtain ⟨_, _, _, q⟩ := hs
    exact False.elim q

/-! ### calls -/
section
variable {X : Cx} {Γ : Gm} {k : Nat} {f : Addr} {fd : FuncData} {ps : List Str} {g : Df} {x : Str} {p pos : Pos} {e : Expr} {es : List Expr}
theorem CallP.sta {K : PySem.W.Frag} {σ : L2.St} {H G : Hp} {s : DS} {fs' : FS} {H' G' : Hp} {v : V} {r : Pl} (S : Sta K Γ σ H G s) (c : CallP K Γ.fa H G fs' H' G' v r) :
    Sta K Γ σ H' G' ⟨s.env, fs'⟩ ∧ Stp Γ σ H G s H' G' ⟨s.env, fs'⟩ ∧ Got K Γ H H' G' v r := by
  refine ⟨⟨c.sub, S.g0.trans c.gg, fun b e => ?_, fun b o h1 h2 => c.keep b o h1 (S.keep b o h1 h2), S.len, fun i sl e => ?_, S.dis, S.new, c.fd⟩, ⟨c.gg, fun b o h1 _ h2 => c.keep b o h1 h2, fun b e => e, fun b e => ?_, fun b e => ?_⟩, ⟨c.rp, c.ow⟩⟩
  · rcases c.nw b e with h | h
    · exact S.fr b h
    · exact .inr (S.fresh0 h)
  · obtain ⟨w, h1, h2⟩ := S.env i sl e
    refine ⟨w, h1, h2.step c.gg fun ow q hq => ?_⟩
    obtain ⟨q', o', e1, e2, e3, e4, _⟩ := h2.ownP ow
    rw [hq] at e1
    cases e1
    refine ⟨by rw [e2]; exact c.keep _ _ e4 e2, ?_⟩
    cases z : G' q with
    | none => rfl
    | some y =>
      rcases c.nw q (by rw [z]; simp) with h | h
      · exact absurd e3 h
      · rw [e2] at h; cases h
  · rcases c.nw b e with h | h
    · exact .inl h
    · exact .inr (.inl h)
  · by_cases z : b = Γ.fa
    · obtain ⟨cc, h1, _⟩ := c.fd
      rw [z, h1]; simp
    · cases q : H b with
      | none => exact absurd q e
      | some o => rw [c.keep b o z q]; simp
def fCall (g : Df) (fa : Af) : Ef := fun s => (fa s).bind fun (as, s1) => (g as s1.fs).map fun (r, fs') => (r, ⟨s1.env, fs'⟩)
/-- the call's reading -/
def tFn (K : PySem.W.Frag) (g : Df) (n : Nat) : List V → Hp → VK → Prop := fun vs H Q => vs.length = n ∧ ∃ (fa : Addr) (G : Hp) (as : List Pl) (fs fs' : FS) (r : Pl), Same G H ∧ FeedAt fa H G fs ∧ SAll K fa H G vs as ∧ g as fs = some (r, fs') ∧
  ∀ v H' G', CallP K fa H G fs' H' G' v r → Q v H'
theorem run_fnD {pins : List (Addr × Obj)} {σ : L2.St} {H : Hp} {s : Shared} {Q : VK} {us : List Value} {vs : List V} {args : Args} (F : FnD X.prog X.w X.K X.mg X.base k f fd ps g) (hr : Room k X.A) (hgd : X.A.guards = some []) (hb : BindsTo s fd args (ps.zip us))
    (I : Inv X pins σ H s) (r : Vals vs us) (h : tFn X.K g ps.length vs H Q) : wpAny (model X.prog X.w) X.A (call (.ref f) args.pos args.kw) (EP X pins σ Q) X.xe s := by
  obtain ⟨hl, fa, G, as, fs, fs', rr, h1, h2, h3, h4, h5⟩ := h
  obtain ⟨us0, ks0⟩ := args
  refine wpAny_call (codeAny_mono (F.run X.A X.stack s H ⟨us0, ks0⟩ us vs hr hgd I.env0 hb r hl fa G as fs fs' rr Q h1 h2 h3 h4 h5) fun r s' hq => ?_)
  cases r with
  | error e => exact False.elim hq
  | ok fl =>
    cases fl with
    | ret u => exact I.after hq
    | next => exact False.elim hq
    | brk => exact False.elim hq
    | cont => exact False.elim hq
theorem call_data {es : List Expr} {fa : Af} {t : TA} {n : Nat} (F : FnD X.prog X.w X.K X.mg X.base k f fd ps g)
    (ka : ∀ (σ : L2.St) (H G : Hp) (s s' : DS) (rs : List Pl) (Q : List V → Hp → Prop), Sta X.K Γ σ H G s → fa s = some (rs, s') → (∀ vs H' G', Sta X.K Γ σ H' G' s' → Stp Γ σ H G s H' G' s' → SAll X.K Γ.fa H' G' vs rs → Q vs H') → t σ H Q) :
    ∀ (σ : L2.St) (H G : Hp) (s s' : DS) (r : Pl) (Q : VK), Sta X.K Γ σ H G s → fCall g fa s = some (r, s') →
      (∀ v H' G', Sta X.K Γ σ H' G' s' → Stp Γ σ H G s H' G' s' → Got X.K Γ H H' G' v r → Q v H') → t σ H fun vs H1 => tFn X.K g ps.length vs H1 Q := fun σ H G s s' r Q S hf hq => by
  unfold fCall at hf
  cases h1 : fa s with
  | none => rw [h1] at hf; cases hf
  | some w =>
    obtain ⟨as, s1⟩ := w
    simp only [h1, Option.bind_some] at hf
    cases h2 : g as s1.fs with
    | none => rw [h2] at hf; cases hf
    | some w2 =>
      obtain ⟨rr, fs'⟩ := w2
      rw [h2] at hf
      cases hf
      refine ka σ H G s s1 as _ S h1 fun vs H1 G1 S1 T1 a1 => ?_
      refine ⟨by rw [a1.length]; exact F.len _ _ _ h2, Γ.fa, G1, as, s1.fs, fs', rr, S1.sub, S1.fd, a1, h2, fun v H' G' c => ?_⟩
      obtain ⟨S2, T2, g2⟩ := CallP.sta S1 c
      exact hq v H' G' S2 (T1.trans T2) (g2.later T1)
theorem pd_call {fa : Af} (F : FnD X.prog X.w X.K X.mg X.base k f fd ps g) (hr : Room k X.A) (hgd : X.A.guards = some []) (hg : Gl X x) (hm : X.mg x = some (.ref f)) (hk : PySem.W.keepIn X.K (.ref f) = true) (hb : Binds X.K fd ps []) (ha : PAd X Γ (e :: es) fa)
    (hdb : (x == ("__debug__" : Str)) = false := by decide) (he : starEach (e :: es) X.env = (false, eval e X.env) :: starEach es X.env := by rfl) (hpl : (backTo pos (starEach es X.env)).any (·.1) = false := by rfl) :
    PEd X Γ (.Call (.Name x p) (e :: es) [] pos) (fCall g fa) := by
  obtain ⟨t, pa, ka⟩ := ha
  refine ⟨fun σ H Q => t σ H fun vs H1 => tFn X.K g ps.length vs H1 Q, ⟨fun pins s σ H Q I h => ?_⟩, call_data (es := es) (n := 0) F ka⟩
  refine wpAny_Call_Name_kw (ld_glob I hg hm ?_ hdb)
  refine PySem.W.callWith_K (h₀ := X.base) I.ok.mod.kin hk (thn (pa.run pos pins s σ H _ I h) fun us s1 ⟨vs, H1, I1, r, q⟩ => ⟨I1.kIn, ?_⟩) he hpl
  have hl : (us ++ []).length = ps.length := by rw [List.append_nil, ← r.length]; exact q.1
  exact run_fnD (args := ⟨us, []⟩) F hr hgd (by have := hb s1 us I1.kIn hl; rw [List.append_nil] at this; exact this) I1 r q
theorem pd_call0 (F : FnD X.prog X.w X.K X.mg X.base k f fd ps g) (hr : Room k X.A) (hgd : X.A.guards = some []) (hg : Gl X x) (hm : X.mg x = some (.ref f)) (hk : PySem.W.keepIn X.K (.ref f) = true) (hb : Binds X.K fd ps [])
    (hdb : (x == ("__debug__" : Str)) = false := by decide) : PEd X Γ (.Call (.Name x p) [] [] pos) (fCall g aNil) := by
  refine ⟨fun σ H Q => tNil σ H fun vs H1 => tFn X.K g ps.length vs H1 Q, ⟨fun pins s σ H Q I h => ?_⟩, call_data (es := []) (n := 0) F fun σ H G s s' rs Q S hf hq => by cases hf; exact hq [] H G S .refl .nil⟩
  refine wpAny_Call_Name_kw (ld_glob I hg hm ?_ hdb)
  have hl : (([] : List Value) ++ []).length = ps.length := by have := h.1; simpa using this
  exact PySem.W.callWith_K0 I.kIn hk (run_fnD (args := ⟨[], []⟩) (us := []) F hr hgd (by have := hb s [] I.kIn hl; simpa using this) I .nil h)
/-! ### by keywords -/
def pick {α : Type} (π : List Nat) (xs : List α) : List α := π.filterMap (xs[·]?)
theorem vals_pick {vs : List V} {us : List Value} (h : Vals vs us) : ∀ π : List Nat, Vals (pick π vs) (pick π us)
  | [] => .nil
  | i :: π => by
    have ih := vals_pick h π
    unfold pick at *
    rw [List.filterMap_cons, List.filterMap_cons]
    cases e : vs[i]? with
    | none => rw [Vals.none_of h e]; exact ih
    | some v =>
      obtain ⟨u, h1, h2⟩ := h.get e
      rw [h1]
      exact .cons h2 ih
theorem SAll.get {K : PySem.W.Frag} {fa : Addr} {H G : Hp} : ∀ {vs : List V} {as : List Pl}, SAll K fa H G vs as → ∀ i : Nat, (vs[i]? = none ∧ as[i]? = none) ∨ ∃ v a, vs[i]? = some v ∧ as[i]? = some a ∧ SRp K fa H G v a ∧ a.own = false
  | _, _, .nil, i => .inl ⟨by simp, by simp⟩
  | _, _, .cons q n r, 0 => .inr ⟨_, _, rfl, rfl, q, n⟩
  | _, _, .cons q n r, i + 1 => by simpa using SAll.get r i
theorem sall_pick {K : PySem.W.Frag} {fa : Addr} {H G : Hp} {vs : List V} {as : List Pl} (h : SAll K fa H G vs as) : ∀ π : List Nat, SAll K fa H G (pick π vs) (pick π as)
  | [] => .nil
  | i :: π => by
    have ih := sall_pick h π
    unfold pick at *
    rw [List.filterMap_cons, List.filterMap_cons]
    rcases h.get i with ⟨h1, h2⟩ | ⟨v, a, h1, h2, h3, h4⟩
    · rw [h1, h2]; exact ih
    · rw [h1, h2]; exact .cons h3 h4 ih
def PKd (X : Cx) (Γ : Gm) (kws : List Keyword) (f : Af) : Prop :=
  ∃ t : TA, PK X kws t ∧ ∀ (σ : L2.St) (H G : Hp) (s s' : DS) (rs : List Pl) (Q : List V → Hp → Prop), Sta X.K Γ σ H G s → f s = some (rs, s') →
    (∀ vs H' G', Sta X.K Γ σ H' G' s' → Stp Γ σ H G s H' G' s' → SAll X.K Γ.fa H' G' vs rs → Q vs H') → t σ H Q
theorem pkd_nil : PKd X Γ [] aNil := ⟨_, pk_nil, fun σ H G s s' rs Q S hf hq => by cases hf; exact hq [] H G S .refl .nil⟩
theorem pkd_cons {nm : Option Str} {kpos : Pos} {kws : List Keyword} {fe : Ef} {fk : Af} (h1 : PEd X Γ e fe) (h2 : PKd X Γ kws fk) : PKd X Γ (⟨nm, e, kpos⟩ :: kws) (aCons fe fk) := by
  obtain ⟨te, he, ke⟩ := h1
  obtain ⟨ta, ha, ka⟩ := h2
  refine ⟨_, pk_cons he ha, fun σ H G s s' rs Q S hf hq => ?_⟩
  unfold aCons at hf
  cases e1 : fe s with
  | none => rw [e1] at hf; cases hf
  | some q =>
    obtain ⟨x, s1⟩ := q
    rw [e1, Option.bind_some] at hf
    cases e2 : fk s1 with
    | none => simp only [e2, Option.bind_none] at hf; cases hf
    | some q2 =>
      obtain ⟨ys, s2⟩ := q2
      simp only [e2, Option.bind_some, Option.some.injEq, Prod.mk.injEq] at hf
      obtain ⟨rfl, rfl⟩ := hf
      refine ke σ H G s s1 x _ S e1 fun v H1 G1 S1 T1 g1 => ?_
      obtain ⟨G1', S1', T1', r1'⟩ := S.freeze S1 T1 g1
      refine ka σ H1 G1' s1 s2 ys _ S1' e2 fun vs H2 G2 S2 T2 g2 => ?_
      exact hq _ H2 G2 S2 (T1'.trans T2) (.cons (r1'.step T2.gg fun z => by rw [fz_own] at z; cases z) (fz_own x) g2)
def aPick (π : List Nat) (f : Af) : Af := fun s => (f s).bind fun (as, s') => if as.length = π.length then some (pick π as, s') else none
/-- all arguments by keywords ks, whose places in the parameters' order are π -/
theorem pd_callK {kws : List Keyword} {ks : List Str} {fk : Af} (π : List Nat) (F : FnD X.prog X.w X.K X.mg X.base k f fd ps g) (hr : Room k X.A) (hgd : X.A.guards = some []) (hg : Gl X x) (hm : X.mg x = some (.ref f)) (hk : PySem.W.keepIn X.K (.ref f) = true)
    (hb : ∀ us : List Value, us.length = ks.length → bindArgs fd ⟨[], ks.zip us⟩ = pure (ps.zip (pick π us))) (ha : PKd X Γ kws fk) (hlen : π.length = ks.length := by rfl)
    (hall : (backToKw pos (keywordEach kws X.env)).all (·.1.isSome) = true := by rfl) (hks : (backToKw pos (keywordEach kws X.env)).filterMap (·.1) = ks := by rfl)
    (hdb : (x == ("__debug__" : Str)) = false := by decide) (hpl : ((backTo pos (starEach [] X.env)).any (·.1) || (backToKw pos (keywordEach kws X.env)).any (·.1.isNone)) = false := by rfl) :
    PEd X Γ (.Call (.Name x p) [] kws pos) (fCall g (aPick π fk)) := by
  obtain ⟨t, pk, ka⟩ := ha
  refine ⟨fun σ H Q => t σ H fun vs H1 => vs.length = ks.length ∧ tFn X.K g ps.length (pick π vs) H1 Q, ⟨fun pins s σ H Q I h => ?_⟩, ?_⟩
  · refine wpAny_Call_Name_kw (ld_glob I hg hm ?_ hdb)
    refine PySem.W.callWith_KW0 (h₀ := X.base) I.ok.mod.kin hk hall (thn (pk.run pos pins s σ H _ I h) fun ws s1 ⟨vs, H1, I1, r, hl, q⟩ => ⟨I1.kIn, ?_⟩) hpl
    rw [hks]
    exact run_fnD (args := ⟨[], ks.zip ws⟩) F hr hgd (.of_eq (hb ws (by rw [← r.length]; exact hl))) I1 (vals_pick r π) q
  · refine call_data (es := []) (n := 0) (t := fun σ H Q => t σ H fun vs H1 => vs.length = ks.length ∧ Q (pick π vs) H1) F fun σ H G s s' rs Q S hf hq => ?_
    unfold aPick at hf
    cases h1 : fk s with
    | none => rw [h1] at hf; cases hf
    | some w =>
      obtain ⟨as, s1⟩ := w
      simp only [h1, Option.bind_some] at hf
      by_cases hz : as.length = π.length
      · rw [if_pos hz] at hf
        cases hf
        exact ka σ H G s _ as _ S h1 fun vs H1 G1 S1 T1 a1 => ⟨by rw [a1.length, hz, hlen], hq _ H1 G1 S1 T1 (sall_pick a1 π)⟩
      · rw [if_neg hz] at hf; cases hf
end
end PD

set_option Elab.async false
set_option linter.all false
set_option maxRecDepth 100000
set_option maxHeartbeats 1000000
/-! PDm: arithmetic; + and * of all kinds; a tuple times an int in all cases; a text backwards; names of the module. -/
namespace PD
open PySem PySem.Spec PyProof.Rows L2
section
variable {X : Cx} {Γ : Gm} {a b e : Expr} {pos : Pos} {f : DS → Option (Pl × Pl × DS)}
/-! ### ints -/
def cMulB (i j : Int) : Bool := Nat.ble i.natAbs 1000000000000000000 || Nat.ble j.natAbs 1000000000000000000
theorem cMulB_ok {i j : Int} (h : cMulB i j = true) : CMul i j := by
  rcases (Bool.or_eq_true _ _).mp h with h | h
  · have := Nat.le_of_ble_eq_true h
    exact .inl (by omega)
  · have := Nat.le_of_ble_eq_true h
    exact .inr (by omega)
def cDivB (_ j : Int) : Bool := decide (0 < j) && Nat.ble j.natAbs 1000000000
theorem cDivB_ok {i j : Int} (h : cDivB i j = true) : CDiv i j := by
  obtain ⟨h1, h2⟩ := Bool.and_eq_true_iff.mp h
  have h1 := of_decide_eq_true h1
  have := Nat.le_of_ble_eq_true h2
  exact ⟨h1, by omega⟩
def gMulI : Pl → Pl → Option Pl := gI cMulB fun i j => .int (i * j)
def gSubI : Pl → Pl → Option Pl := gI (fun _ _ => true) fun i j => .int (i - j)
def gModI : Pl → Pl → Option Pl := gI (fun _ j => decide (0 < j)) fun i j => .int (i % j)
def gDivI : Pl → Pl → Option Pl := gI cDivB fun i j => .int (i / j)
def gPowI : Pl → Pl → Option Pl := gI (fun i j => decide (0 ≤ j ∧ j ≤ 1000000 ∧ i.natAbs < 2 ^ 64)) fun i j => .int (i ^ j.toNat)
theorem pd_subI (h : P2d X Γ a b f) : PEd X Γ (.BinOp a .Sub b pos) (fBin f gSubI) := pd_op h op_sub (od_I0 fun _ _ _ _ => .int _)
theorem pd_mod (h : P2d X Γ a b f) : PEd X Γ (.BinOp a .Mod b pos) (fBin f gModI) := pd_op h op_mod (od_I (fun _ _ h => of_decide_eq_true h) fun _ _ _ _ => .int _)
theorem pd_fdiv (h : P2d X Γ a b f) : PEd X Γ (.BinOp a .FloorDiv b pos) (fBin f gDivI) := pd_op h op_fdiv (od_I (fun i j h => cDivB_ok h) fun _ _ _ _ => .int _)
theorem pd_pow (h : P2d X Γ a b f) : PEd X Γ (.BinOp a .Pow b pos) (fBin f gPowI) := pd_op h op_pow (od_I (fun i j h => of_decide_eq_true (p := 0 ≤ j ∧ j ≤ 1000000 ∧ i.natAbs < 2 ^ 64) h) fun _ _ _ _ => .int _)
/-! ### + -/
def gAdd : Pl → Pl → Option Pl := gOr (gOr (gI (fun _ _ => true) fun i j => .int (i + j)) (gS (fun i j => decide (i.length + j.length ≤ sizeLine)) fun i j => .str (i ++ j))) (gOr gCatL gCatT)
theorem pd_add (h : P2d X Γ a b f) : PEd X Γ (.BinOp a .Add b pos) (fBin f gAdd) :=
  pd_op h ((op_add.or op_add_str).or (op_cat.or op_catF)) (((od_I0 fun _ _ _ _ => .int _).or (od_S (fun _ _ h => of_decide_eq_true h) fun _ _ _ _ => .str _)).or (od_cat.or od_catT))
/-! ### * -/
def gRepL : Pl → Pl → Option Pl
  | .val (.list ds), .val (.int k) => if rOk k = true ∧ ds.length * k.toNat ≤ sizeLine then some (.ownL (List.replicate k.toNat ds).flatten) else none
  | _, _ => none
theorem RpAll.rep {K : PySem.W.Frag} {G : Hp} {vs : List V} {ds : List PyData} (r : RpAll K G vs ds) : ∀ n : Nat, RpAll K G (List.replicate n vs).flatten (List.replicate n ds).flatten
  | 0 => .nil
  | n + 1 => by
    rw [List.replicate_succ, List.flatten_cons, List.replicate_succ, List.flatten_cons]
    exact r.append (RpAll.rep r n)
theorem od_repL : OpD X rRep gRepL := by
  intro Γ σ H G s v w a b r Q S v1 v2 hg hq
  unfold gRepL at hg
  split at hg
  · rename_i ds k
    obtain ⟨p, vs, rfl, h1, q1⟩ := v1
    cases (show Rp X.K G w (.int k) from v2)
    by_cases hz : rOk k = true ∧ ds.length * k.toNat ≤ sizeLine
    · rw [if_pos hz] at hg
      cases hg
      have hk := rOk_lim hz.1
      exact ⟨p, k, vs, rfl, rfl, h1, by omega, by omega, by rw [q1.length]; exact hz.2, newL S (q1.rep _) hq⟩
    · rw [if_neg hz] at hg; cases hg
  · cases hg
/-- a tuple times an int: the same one, where nothing is to be made -/
theorem tuple_mulSame (l : Addr) (items : Array Value) (n : Nat) (dd : Option Addr) (sl : Array (Option Value)) (x : Int) (u : Tok) (c0 : (decide (x < -(2 ^ 63)) || decide (x ≥ 2 ^ 63)) = false) (c1 : (items.isEmpty || x == 1) = true) :
    Meets (Builtin.«tuple.__mul__» ⟨[.ref l, .int x u], []⟩) (fun _ R s => s.heap.get? l = some { cls := .type "tuple", dict := dd, data := .seq items n, slots := sl } ∧
      R (.ok (.ret (Value.ref l))) s) :=
  .of_wp fun prog w A R s h => by
    obtain ⟨hp, g, d, tk, os⟩ := s
    obtain ⟨hl, h⟩ := h
    have f1 := AutoSeq1.idx_int
    wp_walk using AutoSeq1.wpAny_loadPart' hl
    repeat (first
      | (refine wpAny_ite_false (decide_eq_false (by rw [c0]; exact Bool.false_ne_true)) ?_; wp_walk using AutoSeq1.wpAny_loadPart' hl)
      | (refine wpAny_ite_true (decide_eq_true c1) ?_; wp_walk using AutoSeq1.wpAny_loadPart' hl))
    exact ⟨_, rfl, h⟩
def rRepF (K : PySem.W.Frag) : R2 := fun x y H Q => ∃ l k xs, x = .ref l ∧ y = .int k ∧ SqT K H l xs ∧ 1 ≤ k ∧ k ≤ 1000 ∧ xs.length ≤ 1000 ∧
  (xs = [] ∨ k = 1 → Q (.ref l) H) ∧ (xs ≠ [] → k ≠ 1 → NT (List.replicate k.toNat xs).flatten H Q)
theorem op_repF : OpR X (binaryOp .Mult) (rRepF X.K) := by
  intro pins s σ H x y v u Q I rx ry h
  obtain ⟨l, k, xs, rfl, rfl, hT, h1, h2, hz, q0, q1⟩ := h
  cases rx
  obtain ⟨t, rfl⟩ := ry
  obtain ⟨its, r, ⟨⟨cls, dd, data, sl⟩, ho, hc, n, hd⟩, hs⟩ := I.tuple hT
  simp only at hc hd
  subst hc hd
  have hle : its.length = xs.length := r.length.symm
  have hsz0 : its.toArray.size = xs.length := by rw [List.size_toArray, hle]
  have c0 : (decide (k < -(2 ^ 63)) || decide (k ≥ 2 ^ 63)) = false := by
    rw [decide_eq_false (by omega), decide_eq_false (by omega)] <;> rfl
  by_cases hw : xs = [] ∨ k = 1
  · have c1 : (its.toArray.isEmpty || k == 1) = true := by
      rcases hw with hw | hw
      · subst hw
        have : its = [] := List.eq_nil_of_length_eq_zero hle
        subst this
        rfl
      · subst hw
        simp
    refine wpAny_binaryOp_repeat_ref (T := "tuple") (U := "int") (by decide) ⟨_, ho, rfl⟩ (fun s' => typeIs_int s' k t) noFill_tuple_mul F.fills_int_mul F.slot_int_rmul repeat_tuple F.slot_int_index.lookup
      (call_meets F.slot_int_rmul (typeIs_int s k t) F.entry_int_rmul (F.args_int_rmul_2 _ _) (int_rmul_tuple k t l its.toArray n dd sl)
        ⟨ho, rfl, ⟨_, ho, rfl⟩, call_meets F.slot_tuple_mul ⟨_, ho, rfl⟩ F.entry_tuple_mul (F.args_tuple_mul_2 _ _) (tuple_mulSame l its.toArray n dd sl k t c0 c1) ⟨ho, ?_⟩⟩)
    exact ⟨.ref l, H, I, rfl, q0 hw⟩
  · have hne : xs ≠ [] := fun z => hw (.inl z)
    have hk : k ≠ 1 := fun z => hw (.inr z)
    have hn : its ≠ [] := fun e => hne (by
      rw [e] at hle
      exact List.eq_nil_of_length_eq_zero hle.symm)
    have hi : its.toArray.isEmpty = false := by
      cases its with
      | nil => exact absurd rfl hn
      | cons a b => rfl
    have hm : ((its.toArray.size : Nat) : Int) * k ≤ 1000000 := by
      rw [hsz0]
      have a1 : ((xs.length : Nat) : Int) * k ≤ 1000 * k := Int.mul_le_mul_of_nonneg_right (by omega) (by omega)
      omega
    have flen : (List.replicate k.toNat its).flatten.length ≤ sizeLine := by
      rw [PyProof.Rows.lm_len_rep_flat, hle, sizeLine_eq]
      have a1 : k.toNat * xs.length ≤ 1000 * 1000 := Nat.mul_le_mul (by omega) hz
      omega
    have c1 : (its.toArray.isEmpty || k == 1) = false := by
      rw [hi, Bool.false_or]
      exact beq_eq_false_iff_ne.mpr hk
    have c2 : (decide (k ≤ 0) || its.toArray.isEmpty) = false := by
      rw [hi, Bool.or_false]
      exact decide_eq_false (by omega)
    have c4 : Builtin.Tuple.tupleTooMany (((its.toArray.size : Nat) : Int) * k) = false := by
      unfold Builtin.Tuple.tupleTooMany
      rw [sizeLine_eq]
      exact decide_eq_false (by omega)
    refine wpAny_binaryOp_repeat_ref (T := "tuple") (U := "int") (by decide) ⟨_, ho, rfl⟩ (fun s' => typeIs_int s' k t) noFill_tuple_mul F.fills_int_mul F.slot_int_rmul repeat_tuple F.slot_int_index.lookup
      (call_meets F.slot_int_rmul (typeIs_int s k t) F.entry_int_rmul (F.args_int_rmul_2 _ _) (int_rmul_tuple k t l its.toArray n dd sl)
        ⟨ho, rfl, ⟨_, ho, rfl⟩, call_meets F.slot_tuple_mul ⟨_, ho, rfl⟩ F.entry_tuple_mul (F.args_tuple_mul_2 _ _) (tuple_mulW l its.toArray n dd sl k t c0 c1 c2 (by omega) c4 (by rw [size_rep, List.size_toArray]; exact flen)) ⟨ho, ?_⟩⟩)
    rw [size_rep]
    exact laidT (tk := s.toks) I (by rw [PyProof.Rows.lm_len_rep_flat, sizeLine_eq]; have a1 : k.toNat * xs.length ≤ 1000 * 1000 := Nat.mul_le_mul (by omega) hz; omega) (r.rep k.toNat) (q1 hne hk)
def gRepT : Pl → Pl → Option Pl
  | .val (.tuple ds), .val (.int k) => if 1 ≤ k ∧ k ≤ 1000 ∧ ds.length ≤ 1000 then some (.val (.tuple (List.replicate k.toNat ds).flatten)) else none
  | _, _ => none
theorem od_repT : OpD X (rRepF X.K) gRepT := by
  intro Γ σ H G s v w a b r Q S v1 v2 hg hq
  unfold gRepT at hg
  split at hg
  · rename_i ds k
    obtain ⟨p, vs, rfl, h1, q1⟩ := Rp.tupI v1
    cases (show Rp X.K G w (.int k) from v2)
    by_cases hz : 1 ≤ k ∧ k ≤ 1000 ∧ ds.length ≤ 1000
    · rw [if_pos hz] at hg
      cases hg
      refine ⟨p, k, vs, rfl, rfl, (h1.mono S.sub).sqt, hz.1, hz.2.1, by rw [q1.length]; exact hz.2.2, fun hw => ?_, fun _ _ => newT S (q1.rep _) hq⟩
      have e : (List.replicate k.toNat ds).flatten = ds := by
        rcases hw with hw | hw
        · have := q1.nilI.mp hw
          subst this
          simp
        · subst hw
          simp
      rw [e] at hq
      exact hq _ H G S .refl (.new (fa := Γ.fa) v1)
    · rw [if_neg hz] at hg; cases hg
  · cases hg
def gMul : Pl → Pl → Option Pl := gOr gMulI (gOr gRepL gRepT)
theorem pd_mul (h : P2d X Γ a b f) : PEd X Γ (.BinOp a .Mult b pos) (fBin f gMul) :=
  pd_op h (op_mul.or (op_rep.or op_repF)) ((od_I (fun i j h => cMulB_ok h) fun _ _ _ _ => .int _).or (od_repL.or od_repT))
/-! ### a name of the module that holds a text; -i -/
theorem pd_glob {x : Str} {z : Str} {u : Value} (hg : Gl X x) (hm : X.mg x = some u) (r : RelV (.str z) u) (hd : (x == ("__debug__" : Str)) = false := by decide) : PEd X Γ (.Name x pos) (fC (.val (.str z))) :=
  pd_c (pe_glob hg hm r hd) (fun _ _ => .str z) rfl
def fNeg (f : Ef) : Ef := fun s => (fI f s).map fun (i, s') => (.val (.int (-i)), s')
theorem pd_neg {f : Ef} (h : PEd X Γ e f) : PEd X Γ (.UnaryOp .USub e pos) (fNeg f) := by
  obtain ⟨t, p, k⟩ := h.int
  refine ⟨_, pe_un un_neg p, fun σ H G s s' r Q S hf hq => ?_⟩
  unfold fNeg at hf
  cases h1 : fI f s with
  | none => rw [h1] at hf; cases hf
  | some w =>
    obtain ⟨i, s1⟩ := w
    rw [h1] at hf
    cases hf
    exact k σ H G s _ i _ S h1 fun H1 G1 S1 T1 => ⟨i, rfl, hq _ H1 G1 S1 T1 (.new (fa := Γ.fa) (.int _))⟩
/-! ### a text backwards -/
def revS (z : Str) : Str := ⟨z.cps.toList.reverse.toArray⟩
def tRevS (te : TE) : TE := fun σ H Q => te σ H fun x H1 => ∃ z, x = .str z ∧ z.length ≤ sizeLine ∧ Q (.str (revS z)) H1
theorem revS_of (z : Str) : (⟨((Builtin.Str.strSliceIndices none none (-1) z.length).filterMap (z.cps[·]?)).toArray⟩ : Str) = revS z := by
  have e : Builtin.Str.strSliceIndices none none (-1) z.length = sliceRange ((z.cps.size : Int) - 1) (-1) (-1) := rfl
  rw [e, PySem.W.krv_sliceRange, PySem.W.krv_range, List.filterMap_reverse, PySem.W.krv_all]
  rfl
theorem pe_revS {te : TE} {k : Nat} {p1 p2 p3 : Pos} (he : PE X e te) : PE X (.Subscript e (.Slice none none (some (.UnaryOp .USub (.Constant (.int 1) k p1) p2)) p3) pos) (tRevS te) := by
  refine ⟨fun pins s σ H Q I h => ?_⟩
  refine Subscript_ (thn (he.run pins s σ H _ I h) fun v s1 ⟨x, H1, I1, r1, q1⟩ => ?_)
  obtain ⟨z, ex, hz, q⟩ := q1
  subst ex
  obtain ⟨t, rfl⟩ := r1
  have hst : PO X (some (.UnaryOp .USub (.Constant (.int 1) k p1) p2)) (tPart (tUn (rU fun i => .int (-i)) (tC (.int 1)))) := po_some (pe_un un_neg pe_int)
  refine wpAny_Slice (thn (po_none.run pins s1 σ H1 (fun o H2 => o = none ∧ H2 = H1) I1 ⟨rfl, rfl⟩) fun vl s2 ⟨l, H2, I2, pl, el, e2⟩ => ?_)
  subst el e2
  refine thn (po_none.run pins s2 σ H2 (fun o H3 => o = none ∧ H3 = H2) I2 ⟨rfl, rfl⟩) fun vu s3 ⟨u, H3, I3, pu, eu, e3⟩ => ?_
  subst eu e3
  refine thn (hst.run pins s3 σ H3 (fun o H4 => o = some (-1) ∧ H4 = H3) I3 ⟨1, rfl, -1, rfl, rfl, rfl⟩) fun vs s4 ⟨o, H4, I4, ps, eo, e4⟩ => ?_
  subst eo e4
  have I5 : Inv X pins σ H4 { s4 with heap := s4.heap.push { cls := .type "slice", data := .fields #[vl, vu, vs] } } := I4.kept (t' := s4.toks) fun b ob q => Heap.get?_push_of_some _ q
  obtain ⟨l, rfl, el⟩ := IsPart.raw pl
  obtain ⟨u, rfl, eu⟩ := IsPart.raw pu
  obtain ⟨m, rfl, em⟩ := IsPart.raw ps
  cases l with
  | some _ => cases el
  | none =>
  cases u with
  | some _ => cases eu
  | none =>
  cases m with
  | none => cases em
  | some w =>
  obtain ⟨w, tw⟩ := w
  cases em
  show wpAny (model X.prog X.w) X.A (subscriptTail e (.Slice none none (some (.UnaryOp .USub (.Constant (.int 1) k p1) p2)) p3) (.str z t) (.ref s4.heap.objs.size)) (EP X pins σ Q) X.xe { s4 with heap := s4.heap.push { cls := .type "slice", data := .fields #[.none, .none, .int (-1) tw] } }
  refine tail_any (ops := [.ref s4.heap.objs.size, .str z t]) (typeIs_str _ z t) (F.slot_str_getitem.lookup) ?_ (by with_unfolding_all rfl)
  refine wpAny_getItem_str_slice (l := none) (u := none) (st := some (-1, tw)) ⟨_, Heap.get?_push_size _ rfl, rfl, rfl⟩ rfl ?_
  show Made.post (Made.str ⟨((Builtin.Str.strSliceIndices none none (-1) z.length).filterMap (z.cps[·]?)).toArray⟩) (EP X pins σ Q) _
  rw [revS_of]
  refine ⟨?_, .str _, H4, I5.tok _, ⟨_, rfl⟩, q⟩
  show z.cps.toList.reverse.toArray.size ≤ sizeLine
  rw [List.size_toArray, List.length_reverse, Array.length_toList]
  exact hz
def fRevS (f : Ef) : Ef := fun s => match f s with
  | some (.val (.str z), s') => if z.length ≤ sizeLine then some (.val (.str (revS z)), s') else none
  | _ => none
theorem pd_revS {f : Ef} {k : Nat} {p1 p2 p3 : Pos} (h : PEd X Γ e f) : PEd X Γ (.Subscript e (.Slice none none (some (.UnaryOp .USub (.Constant (.int 1) k p1) p2)) p3) pos) (fRevS f) := by
  obtain ⟨t, p, kk⟩ := h
  refine ⟨_, pe_revS p, fun σ H G s s' r Q S hf hq => ?_⟩
  unfold fRevS at hf
  split at hf
  · rename_i z s1 e1
    by_cases hz : z.length ≤ sizeLine
    · rw [if_pos hz] at hf
      cases hf
      refine kk σ H G s _ _ _ S e1 fun v H1 G1 S1 T1 g1 => ?_
      cases (show Rp X.K G1 v (.str z) from g1.rp)
      exact ⟨z, rfl, hz, hq _ H1 G1 S1 T1 (.new (fa := Γ.fa) (.str _))⟩
    · rw [if_neg hz] at hf; cases hf
  · cases hf
end
end PD

set_option Elab.async false
set_option linter.all false
set_option maxRecDepth 100000
set_option maxHeartbeats 1000000
/-! PDn: own lists and dicts changed; a name returned; pairs; walks of new dicts; enumerate; what never comes. -/
namespace PD
open PySem PySem.Spec PyProof.Rows L2
section
variable {K : PySem.W.Frag} {Γ : Gm} {σ : L2.St} {H G : Hp} {s : DS}
/-- an own name's thing becomes another -/
theorem Sta.ownUpd (S : Sta K Γ σ H G s) {i : Nat} {a a' : Pl} {p : Addr} {o : HO} (he : s.env[i]? = some (some a)) (ho : a.own = true) (hσ : σ[i]? = some (some (.ref p))) (ho' : a'.own = true)
    (hr : G p = none → p ≠ Γ.fa → SRp K Γ.fa (upd H p o) G (.ref p) a') :
    Sta K Γ σ (upd H p o) G ⟨s.env.set i (some a'), s.fs⟩ ∧ Stp Γ σ H G s (upd H p o) G ⟨s.env.set i (some a'), s.fs⟩ := by
  have hown : OwnAt σ s p := ⟨i, a, he, ho, hσ⟩
  obtain ⟨⟨o0, hp⟩, gp, pf⟩ := S.ownThere hown
  have lt : i < s.env.length := (List.getElem?_eq_some_iff.mp he).1
  have old : ∀ (j : Nat) (b : Pl), (s.env.set i (some a'))[j]? = some (some b) → (j = i ∧ b = a') ∨ (j ≠ i ∧ s.env[j]? = some (some b)) := fun j b e => by
    by_cases z : j = i
    · subst z
      rw [List.getElem?_set_self lt] at e
      cases e
      exact .inl ⟨rfl, rfl⟩
    · rw [List.getElem?_set_ne (Ne.symm z)] at e
      exact .inr ⟨z, e⟩
  have oldO : ∀ b, OwnAt σ ⟨s.env.set i (some a'), s.fs⟩ b → OwnAt σ s b := fun b ⟨j, c, e1, e2, e3⟩ => by
    rcases old j c e1 with ⟨rfl, rfl⟩ | ⟨_, e⟩
    · rw [hσ] at e3; cases e3; exact hown
    · exact ⟨j, c, e, e2, e3⟩
  refine ⟨⟨fun b x e => ?_, S.g0, S.fr, fun b x h1 h2 => ?_, by simpa using S.len, fun j c e => ?_, fun j k c d w e1 e2 e3 e4 f1 f2 => ?_, fun b e => S.new b (oldO b e), ?_⟩, ⟨Same.refl _, fun b x h1 h2 e => ?_, oldO, fun b e => .inl e, fun b e => ?_⟩⟩
  · rw [upd_ne (fun z => by rw [z, gp] at e; cases e)]; exact S.sub _ _ e
  · rw [upd_ne (fun z => by rw [z, S.new p hown] at h2; cases h2)]; exact S.keep b x h1 h2
  · rcases old j c e with ⟨rfl, rfl⟩ | ⟨z, e⟩
    · exact ⟨_, hσ, hr gp pf⟩
    · obtain ⟨w, h1, h2⟩ := S.env j c e
      refine ⟨w, h1, h2.step (Same.refl _) fun ow q hq => ?_⟩
      obtain ⟨q', o', f1, f2, f3, _⟩ := h2.ownP ow
      rw [hq] at f1
      cases f1
      exact ⟨upd_ne (fun y => z (S.dis j i c a (.ref q) e he ow ho (by rw [h1, hq]) (by rw [hσ, y]))), f3⟩
  · rcases old j c e1 with ⟨rfl, rfl⟩ | ⟨z1, g1⟩
    · rcases old k d e2 with ⟨rfl, rfl⟩ | ⟨z2, g2⟩
      · rfl
      · exact S.dis j k a d w he g2 ho e4 f1 f2
    · rcases old k d e2 with ⟨rfl, rfl⟩ | ⟨z2, g2⟩
      · exact S.dis j k c a w g1 he e3 ho f1 f2
      · exact S.dis j k c d w g1 g2 e3 e4 f1 f2
  · obtain ⟨c, h1, h2, h3⟩ := S.fd
    exact ⟨c, by rw [upd_ne (Ne.symm pf)]; exact h1, h2, h3⟩
  · rw [upd_ne (fun z => h2 (by rw [z]; exact hown))]; exact e
  · by_cases z : b = p
    · rw [z, upd_same]; simp
    · rw [upd_ne z]; exact e
/-- an own result that has come stays its own -/
theorem Got.thru {H1 G1 H2 G2 : Hp} {s1 s2 : DS} {v : V} {r : Pl} (S : Sta K Γ σ H G s) (S1 : Sta K Γ σ H1 G1 s1) (T1 : Stp Γ σ H G s H1 G1 s1) (g : Got K Γ H H1 G1 v r) (T2 : Stp Γ σ H1 G1 s1 H2 G2 s2) : Got K Γ H H2 G2 v r := by
  refine ⟨g.rp.step T2.gg fun ow p hp => ?_, g.ow⟩
  obtain ⟨q, o, e1, e2, e3, e4, _⟩ := g.rp.ownP ow
  rw [hp] at e1
  cases e1
  obtain ⟨q', f1, f2⟩ := g.ow ow
  rw [hp] at f1
  cases f1
  have no : ¬ OwnAt σ s1 p := fun z => by
    obtain ⟨⟨o, q⟩, _⟩ := S.ownThere (T1.own p z)
    rw [f2] at q; cases q
  refine ⟨by rw [e2]; exact T2.keep p o e4 no e2, ?_⟩
  cases z : G2 p with
  | none => rfl
  | some x =>
    rcases T2.nw p (by rw [z]; simp) with h | h | h
    · exact absurd e3 h
    · rw [e2] at h; cases h
    · exact absurd h no
end
section
variable {X : Cx} {Γ : Gm} {a b e : Expr} {pos : Pos}
/-! ### x.append(e), x own -/
def fApp (i : Nat) (f : Ef) : Ef := fun s => match s.env[i]? with
  | some (some (.ownL _)) => (f s).bind fun (r, s1) => match fz r, s1.env[i]? with
    | .val d, some (some (.ownL xs)) => if xs.length < sizeLine then some (.val .none, ⟨s1.env.set i (some (.ownL (xs ++ [d]))), s1.fs⟩) else none
    | _, _ => none
  | _ => none
theorem pd_append {o : Expr} {apos cpos : Pos} {i : Nat} {f : Ef} (ho : PE X o (tVar i)) (he : PEd X Γ e f) (hbase : attributeBase o "append" X.env (eval o X.env) = eval o X.env := by rfl)
    (hfew : ((backTo cpos (starEach [e] X.env)).all (fun x => !x.1) && (backToKw cpos (keywordEach [] X.env)).all (fun x => x.1.isSome)
      && decide ([e].length + ([] : List Keyword).length + (if ([] : List Keyword).isEmpty then 0 else 1) < 30)) = true := by rfl)
    (hline : (apos.endLine == cpos.line) = true := by rfl) (hs : starEach [e] X.env = (false, eval e X.env) :: starEach [] X.env := by rfl) (hplain : (backTo cpos (starEach [] X.env)).any (·.1) = false := by rfl) :
    PEd X Γ (.Call (.Attribute o "append" apos) [e] [] cpos) (fApp i f) := by
  obtain ⟨te, pe, ke⟩ := he
  refine ⟨_, pe_bm PySem.F.plainAttrs_list PySem.F.slot_list_append PySem.F.type_list_append mt_append ho (pa_cons pe pa_nil hs) hbase hfew hline hs hplain, fun σ H G s s' r Q S hf hq => ?_⟩
  unfold fApp at hf
  split at hf
  case h_2 => cases hf
  rename_i xs0 e0
  obtain ⟨v, hv, p, vs, rfl, hp, gp, pf, hr⟩ := S.env i _ e0
  cases h1 : f s with
  | none => rw [h1] at hf; cases hf
  | some w =>
    obtain ⟨r1, s1⟩ := w
    simp only [h1, Option.bind_some] at hf
    split at hf
    case h_2 => cases hf
    rename_i d xs e1 e2
    by_cases hz : xs.length < sizeLine
    case neg => rw [if_neg hz] at hf; cases hf
    rw [if_pos hz] at hf
    cases hf
    refine ⟨.ref p, hv, .inl ⟨rfl, _, .inl (.inl hp)⟩, ke σ H G s s1 r1 _ S h1 fun y H1 G1 S1 T1 g1 => ?_⟩
    obtain ⟨G2, S2, T2, r2⟩ := S.freeze S1 T1 g1
    rw [e1] at r2
    obtain ⟨v', hv', p', vs', rfl, hp', gp', pf', hr'⟩ := S2.env i _ e2
    rw [hv] at hv'
    cases hv'
    obtain ⟨A, B⟩ := S2.ownUpd (o := .lst (vs' ++ [y])) (a' := .ownL (xs ++ [d])) e2 rfl hv rfl fun g f => ⟨p, _, rfl, upd_same, g, f, hr'.append (.cons r2 .nil)⟩
    exact ⟨p, vs', y, rfl, rfl, hp', by rw [hr'.length]; exact hz, hq _ _ _ A (T2.trans B) (.new (fa := Γ.fa) .non)⟩
/-! ### x[i] = e, x own -/
def sSetL (i : Nat) (f g : Ef) : Sf := fun s => (f s).bind fun (r, s1) => match fz r, s1.env[i]? with
  | .val d, some (some (.ownL _)) => (fI g s1).bind fun (k, s2) => match s2.env[i]? with
    | some (some (.ownL xs)) => (ixN xs.length k).map fun j => .nx ⟨s2.env.set i (some (.ownL (xs.set j d))), s2.fs⟩
    | _ => none
  | _, _ => none
theorem ps_setLD {o ix : Expr} {tpos : Pos} {i : Nat} {f g : Ef} (ho : PE X o (tVar i)) (he : PEd X Γ e f) (hi : PEd X Γ ix g)
    (ha : ∀ v, assign (.Subscript o ix tpos) X.env v = (do
      let ov ← holding [v] (eval o X.env)
      let iv ← holding [v, ov] (eval ix X.env)
      standAt tpos
      holding [v, ov, iv] (setItem ov iv v)
      release [v, ov, iv] []) := by intro _; rfl)
    (hs : swapsWithSole [.Subscript o ix tpos] e pos.line X.env = pure false := by rfl) (hw : swappedStores [.Subscript o ix tpos] e X.env = pure none := by rfl)
    (h1 : (assignEach [.Subscript o ix tpos] X.env).map (·.2) = [assign (.Subscript o ix tpos) X.env] := by rfl) : PSd X Γ (.Assign [.Subscript o ix tpos] e pos) (sSetL i f g) := by
  obtain ⟨te, pe, ke⟩ := he
  obtain ⟨ti, pi, ki⟩ := hi.int
  refine ⟨_, ps_asg pe (pg_sub ho pi set_list ha) hs hw h1, fun σ H G s o D S hf hp => ?_⟩
  unfold sSetL at hf
  cases h1 : f s with
  | none => rw [h1] at hf; cases hf
  | some w =>
    obtain ⟨r1, s1⟩ := w
    simp only [h1, Option.bind_some] at hf
    split at hf
    case h_2 => cases hf
    rename_i d xs0 e1 e0
    cases h2 : fI g s1 with
    | none => rw [h2] at hf; cases hf
    | some w2 =>
      obtain ⟨k, s2⟩ := w2
      simp only [h2, Option.bind_some] at hf
      split at hf
      case h_2 => cases hf
      rename_i xs e2
      cases hj : ixN xs.length k with
      | none => rw [hj] at hf; cases hf
      | some j =>
        rw [hj] at hf
        cases hf
        refine ke σ H G s s1 r1 _ S h1 fun y H1 G1 S1 T1 g1 => ?_
        obtain ⟨G2, S2, T2, r2⟩ := S.freeze S1 T1 g1
        rw [e1] at r2
        obtain ⟨v, hv, p, vs, rfl, hp1, gp1, pf1, hr1⟩ := S2.env i _ e0
        refine ⟨.ref p, hv, ki σ H1 G2 s1 s2 k _ S2 h2 fun H3 G3 S3 T3 => ?_⟩
        obtain ⟨v', hv', p', vs', rfl, hp', gp', pf', hr'⟩ := S3.env i _ e2
        rw [hv] at hv'
        cases hv'
        obtain ⟨A, B⟩ := S3.ownUpd (o := .lst (vs'.set j y)) (a' := .ownL (xs.set j d)) e2 rfl hv rfl fun g f => ⟨p, _, rfl, upd_same, g, f, hr'.set (Rp.mono T3.gg r2) j⟩
        exact ⟨p, vs', k, j, rfl, rfl, hp', by rw [hr'.length]; exact hj, hp σ _ _ A (T2.gg.trans (T3.gg.trans B.gg))⟩
/-! ### x[k] = e, x an own dict -/
def sSetK (i : Nat) (f g : Ef) : Sf := fun s => (f s).bind fun (r, s1) => match fz r, s1.env[i]? with
  | .val d, some (some (.ownK _)) => (g s1).bind fun (q, s2) => match q, s2.env[i]? with
    | .val kd, some (some (.ownK kvs)) => (keyD kd).bind fun k => if kvs.length < sizeLine then some (.nx ⟨s2.env.set i (some (.ownK (putD kvs k d))), s2.fs⟩) else none
    | _, _ => none
  | _, _ => none
theorem ps_setKD {o ix : Expr} {tpos : Pos} {i : Nat} {f g : Ef} (hu : X.A.units + 1 < cLine) (ho : PE X o (tVar i)) (he : PEd X Γ e f) (hi : PEd X Γ ix g)
    (hs : swapsWith e (some (.Subscript o ix tpos)) pos.line X.env = pure false := by rfl) : PSd X Γ (.Assign [.Subscript o ix tpos] e pos) (sSetK i f g) := by
  obtain ⟨te, pe, ke⟩ := he
  obtain ⟨ti, pi, ki⟩ := hi
  refine ⟨_, ps_dput hu ho pi pe hs, fun σ H G s o D S hf hp => ?_⟩
  unfold sSetK at hf
  cases h1 : f s with
  | none => rw [h1] at hf; cases hf
  | some w =>
    obtain ⟨r1, s1⟩ := w
    simp only [h1, Option.bind_some] at hf
    split at hf
    case h_2 => cases hf
    rename_i d xs0 e1 e0
    cases h2 : g s1 with
    | none => rw [h2] at hf; cases hf
    | some w2 =>
      obtain ⟨q, s2⟩ := w2
      simp only [h2, Option.bind_some] at hf
      split at hf
      case h_2 => cases hf
      rename_i kd kvs e2
      cases hk : keyD kd with
      | none => rw [hk] at hf; cases hf
      | some k =>
        simp only [hk, Option.bind_some] at hf
        by_cases hz : kvs.length < sizeLine
        case neg => rw [if_neg hz] at hf; cases hf
        rw [if_pos hz] at hf
        cases hf
        refine ke σ H G s s1 r1 _ S h1 fun y H1 G1 S1 T1 g1 => ?_
        obtain ⟨G2, S2, T2, r2⟩ := S.freeze S1 T1 g1
        rw [e1] at r2
        obtain ⟨v, hv, p, vs, rfl, hp1, gp1, pf1, hr1⟩ := S2.env i _ e0
        refine ⟨.ref p, hv, ki σ H1 G2 s1 s2 _ _ S2 h2 fun z H3 G3 S3 T3 g3 => ?_⟩
        obtain ⟨v', hv', p', vs', rfl, hp', gp', pf', hr'⟩ := S3.env i _ e2
        rw [hv] at hv'
        cases hv'
        have ez : z = kV k := Rp.keyI (show Rp X.K G3 z kd from g3.rp) hk
        subst ez
        obtain ⟨A, B⟩ := S3.ownUpd (o := .dK (putK vs' k y)) (a' := .ownK (putD kvs k d)) e2 rfl hv rfl fun g f => ⟨p, _, rfl, upd_same, g, f, hr'.put (Rp.mono T3.gg r2)⟩
        exact ⟨p, _, rfl, DPut.k hp' (by rw [hr'.length]; exact hz), hp σ _ _ A (T2.gg.trans (T3.gg.trans B.gg))⟩
/-! ### return of a name: an own thing stays its own -/
def sRetV (i : Nat) : Sf := fun s => match s.env[i]? with
  | some (some a) => some (.rt a s)
  | _ => none
theorem ps_retVD {i : Nat} (h : PE X e (tVar i)) : PSd X Γ (.Return (some e) pos) (sRetV i) := by
  refine ⟨_, ps_ret h, fun σ H G s o D S hf hp => ?_⟩
  unfold sRetV at hf
  split at hf
  case h_2 => cases hf
  rename_i a e0
  cases hf
  obtain ⟨v, hv, hr⟩ := S.env i a e0
  refine ⟨v, hv, hp v σ H G S (Same.refl _) ⟨hr, fun z => ?_⟩⟩
  obtain ⟨p, o, rfl, _⟩ := hr.ownP z
  exact ⟨p, rfl, S.new p ⟨i, a, e0, z, hv⟩⟩
/-! ### what never comes -/
theorem ps_neverD {st : Stmt} : PSd X Γ st fun _ => none := ⟨fun _ _ _ => False, ⟨fun _ _ _ _ _ _ h => False.elim h⟩, fun _ _ _ _ _ _ _ hf => nomatch hf⟩
/-! ### a, b = e1, e2 -/
theorem ps_parD {i j : Nat} {x y : Str} {f g : Ef} {px py pt : Pos} {kt k2 pt2} (hc : X.calm = true) (hN : X.N.Nodup) (hi : X.N[i]? = some x) (hj : X.N[j]? = some y) (hij : i ≠ j)
    (hx : X.env.scope.names.lookup x = some .local) (hy : X.env.scope.names.lookup y = some .local) (ha : PEd X Γ a f) (hb : PEd X Γ b g)
    (hw : swappedStores [.Tuple [.Name x px, .Name y py] kt pt] (.Tuple [a, b] k2 pt2) X.env = pure (some [x, y]))
    (hs1 : starEach [a, b] X.env = (false, eval a X.env) :: starEach [b] X.env := by rfl) (hs2 : starEach [b] X.env = (false, eval b X.env) :: starEach [] X.env := by rfl)
    (hs : swapsWithSole [.Tuple [.Name x px, .Name y py] kt pt] (.Tuple [a, b] k2 pt2) pos.line X.env = pure false := by rfl) :
    PSd X Γ (.Assign [.Tuple [.Name x px, .Name y py] kt pt] (.Tuple [a, b] k2 pt2) pos) (sPar f g i j) := by
  obtain ⟨ta, pa, ka⟩ := ha
  obtain ⟨tb, pb, kb⟩ := hb
  refine ⟨_, ps_par hc hN hi hj hij hx hy (pa_cons pa (pa_cons pb pa_nil hs2) hs1) hw hs, fun σ H G s o D S hf hp => ?_⟩
  unfold sPar at hf
  cases h1 : f s with
  | none => rw [h1] at hf; cases hf
  | some w1 =>
    obtain ⟨r1, s1⟩ := w1
    simp only [h1, Option.bind_some] at hf
    cases h2 : g s1 with
    | none => rw [h2] at hf; cases hf
    | some w2 =>
      obtain ⟨r2, s2⟩ := w2
      simp only [h2, Option.bind_some, Option.some.injEq] at hf
      subst hf
      refine ka σ H G s s1 r1 _ S h1 fun v H1 G1 S1 T1 g1 => ?_
      refine kb σ H1 G1 s1 s2 r2 _ S1 h2 fun w H2 G2 S2 T2 g2 => ?_
      refine ⟨v, w, rfl, ?_⟩
      have q1 := Got.thru S S1 T1 g1 T2
      have P1 := S2.put i (q1.fits S (T1.trans T2))
      have F2 : Fits X.K Γ (σ.set i (some v)) H2 G2 ⟨s2.env.set i (some r1), s2.fs⟩ w r2 := by
        refine ⟨g2.rp, fun z => ?_⟩
        obtain ⟨p, e1, n1⟩ := g2.ow z
        refine ⟨p, e1, fun ⟨l, c, f1, f2, f3⟩ => ?_, S1.fresh0 n1⟩
        by_cases hl : l = i
        · subst hl
          have lt : l < s2.env.length := by
            have := (List.getElem?_eq_some_iff.mp f1).1
            simpa using this
          rw [List.getElem?_set_self lt] at f1
          cases f1
          rw [List.getElem?_set_self (by rw [← S2.len]; exact lt)] at f3
          cases f3
          obtain ⟨p', o', k1, k2, _⟩ := g1.rp.ownP f2
          cases k1
          rw [n1] at k2
          cases k2
        · rw [List.getElem?_set_ne (Ne.symm hl)] at f1 f3
          obtain ⟨⟨o', q⟩, _⟩ := S1.ownThere (T2.own p ⟨l, c, f1, f2, f3⟩)
          rw [n1] at q
          cases q
      exact hp _ H2 G2 (P1.put j F2) (T1.gg.trans T2.gg)
/-! ### the walk of a new dict: its keys, its pairs -/
def tLk (te : TE) : TE := fun σ H Q => te σ H fun x H1 => ∃ d kvs, x = .ref d ∧ H1 d = some (.dK kvs) ∧ ∀ o, Q (.ref d) (upd H1 d (.frz o (.dK kvs)))
theorem pe_lk {te : TE} (h : PE X e te) : PE X e (tLk te) := by
  refine ⟨fun pins s σ H Q I q => thn (h.run pins s σ H _ I q) fun u s1 ⟨x, H1, I1, rx, d, kvs, ex, hd, q1⟩ => ?_⟩
  subst ex
  obtain rfl : u = Value.ref d := rx
  obtain ⟨od, I2⟩ := I1.lock hd trivial
  exact ⟨.ref d, _, I2, rfl, q1 od⟩
theorem own_lock {σ : L2.St} {H G H1 G1 : Hp} {s s1 : DS} {v : V} {kvs : List (Key × PyData)} (S : Sta X.K Γ σ H G s) (S1 : Sta X.K Γ σ H1 G1 s1) (T : Stp Γ σ H G s H1 G1 s1) (g : Got X.K Γ H H1 G1 v (.ownK kvs)) :
    ∃ d kv, v = .ref d ∧ H1 d = some (.dK kv) ∧ ∀ o, ∃ G2, Sta X.K Γ σ (upd H1 d (.frz o (.dK kv))) G2 s1 ∧ Stp Γ σ H G s (upd H1 d (.frz o (.dK kv))) G2 s1 ∧ G2 d = some (.frz o (.dK kv)) ∧ KVRp X.K G2 kv kvs := by
  obtain ⟨d, kv, rfl, h1, h2, h3, h4⟩ := g.rp
  obtain ⟨d', e, n⟩ := g.ow rfl
  cases e
  refine ⟨d, kv, rfl, h1, fun o => ?_⟩
  have no : ¬ OwnAt σ s1 d := fun z => by
    obtain ⟨⟨o, q⟩, _⟩ := S.ownThere (T.own d z)
    rw [n] at q; cases q
  have S1' := S1.touch (o := .frz o (.dK kv)) h2 h3 no (S.fresh0 n)
  have T' : Stp Γ σ H G s (upd H1 d (.frz o (.dK kv))) G1 s1 := ⟨T.gg, fun b x n1 n2 e => by rw [upd_ne (fun z => by rw [z, n] at e; cases e)]; exact T.keep b x n1 n2 e, T.own, T.nw, fun b e => by
    by_cases z : b = d
    · rw [z, upd_same]; simp
    · rw [upd_ne z]; exact T.mo b e⟩
  obtain ⟨A, B⟩ := S.adopt S1' T' n upd_same h2
  exact ⟨_, A, B, upd_same, h4.mono (same_upd' h2)⟩
def wKeys (f : Ef) : Wf := fun s => match f s with
  | some (.ownK kvs, s') => some (kvs.map fun kv => kD kv.1, s')
  | _ => none
theorem pid_keys {tg : Expr} {t : Tg} {f : Ef} (h : PEd X Γ e f) : PId X Γ tg e t (wKeys f) := by
  obtain ⟨te, p, k⟩ := h
  refine ⟨_, pi_keys (pe_lk p), fun σ H G s s' ds R S hf hq => ?_⟩
  unfold wKeys at hf
  split at hf
  case h_2 => cases hf
  rename_i kvs s1 e1
  cases hf
  refine k σ H G s _ _ _ S e1 fun v H1 G1 S1 T1 g1 => ?_
  obtain ⟨d, kv, rfl, h1, hl⟩ := own_lock S S1 T1 g1
  refine ⟨d, kv, rfl, h1, fun o => ?_⟩
  obtain ⟨G2, S2, T2, h2, h3⟩ := hl o
  refine ⟨d, o, rfl, .inl ⟨kv, upd_same, hq _ _ G2 S2 T2 ?_⟩⟩
  intro σ3 H3 G3 s3 S3 g3
  have hd := S3.sub _ _ (g3 _ _ h2)
  have ks := RpAll.keys h3
  have kl : kv.length = kvs.length := h3.length
  refine ⟨fun i x hx => ?_, fun i hi => ⟨hd, by rw [List.length_map] at hi; rw [kl]; exact hi⟩⟩
  obtain ⟨v, f1, f2⟩ := ks.get hx
  have hi : i < kv.length := by
    have := (List.getElem?_eq_some_iff.mp f1).1
    simpa using this
  refine ⟨⟨hd, hi⟩, fun y H' hy => ?_⟩
  obtain ⟨rfl, k, w, hk, rfl⟩ := hy
  rw [List.getElem?_map, hk] at f1
  cases f1
  exact ⟨G3, S3, .refl, fit_val S3 (f2.mono g3)⟩
def wItems (f : Ef) : Wf := fun s => match f s with
  | some (.ownK kvs, s') => some (kvs.map fun kv => .tuple [kD kv.1, kv.2], s')
  | _ => none
theorem pid_items {elts : List Expr} {kk : Nat} {tpos apos cpos : Pos} {l : List Tg} {f : Ef} (h : PEd X Γ e f) (hbase : attributeBase e "items" X.env (eval e X.env) = eval e X.env := by rfl) (hline : (apos.endLine == cpos.line) = true := by rfl) :
    PId X Γ (.Tuple elts kk tpos) (.Call (.Attribute e "items" apos) [] [] cpos) (.tp l) (wItems f) := by
  obtain ⟨te, p, k⟩ := h
  refine ⟨_, pi_items (pe_lk p) hbase hline, fun σ H G s s' ds R S hf hq => ?_⟩
  unfold wItems at hf
  split at hf
  case h_2 => cases hf
  rename_i kvs s1 e1
  cases hf
  refine k σ H G s _ _ _ S e1 fun v H1 G1 S1 T1 g1 => ?_
  obtain ⟨d, kv, rfl, h1, hl⟩ := own_lock S S1 T1 g1
  refine ⟨d, kv, rfl, h1, fun o => ?_⟩
  obtain ⟨G2, S2, T2, h2, h3⟩ := hl o
  refine ⟨d, o, kv, rfl, upd_same, hq _ _ G2 S2 T2 ?_⟩
  intro σ3 H3 G3 s3 S3 g3
  have hd := S3.sub _ _ (g3 _ _ h2)
  have kl : kv.length = kvs.length := h3.length
  have ks := RpAll.keys h3
  refine ⟨fun i x hx => ?_, fun i hi => ⟨hd, by rw [List.length_map] at hi; rw [kl]; exact hi⟩⟩
  have hi : i < kvs.length := by
    have := (List.getElem?_eq_some_iff.mp hx).1
    simpa using this
  refine ⟨⟨hd, by rw [kl]; exact hi⟩, fun y H' hy => ?_⟩
  obtain ⟨T, k, w, hk, rfl, hT, rfl⟩ := hy
  have val : ∀ {a : List (Key × V)} {b : List (Key × PyData)} {i : Nat} {p : Key × V}, KVRp X.K G2 a b → a[i]? = some p → ∃ q, b[i]? = some q ∧ p.1 = q.1 ∧ Rp X.K G2 p.2 q.2 := by
    intro a b i p h
    induction h generalizing i with
    | nil => intro e; simp at e
    | @cons p0 q0 ps qs h t ih =>
      intro e
      cases i with
      | zero => simp at e; subst e; exact ⟨q0, rfl, h⟩
      | succ i => exact ih (by simpa using e)
  obtain ⟨⟨k', d'⟩, hq1, hq2, hq3⟩ := val h3 hk
  simp only at hq2 hq3
  subst hq2
  rw [List.getElem?_map, hq1] at hx
  cases hx
  obtain ⟨A, B⟩ := S3.alloc (o := .tup [kV k, w]) hT
  refine ⟨G3, A, B, fun _ => ⟨[kD k, d'], T, [kV k, w], rfl, rfl, .inl (.inl upd_same), .cons ?_ (.cons (hq3.mono g3) .nil)⟩⟩
  cases k with
  | inl i => exact .int i
  | inr x => exact .str x
end
end PD

set_option Elab.async false
set_option linter.all false
set_option maxRecDepth 100000
set_option maxHeartbeats 1000000
/-! PDo: a dict display of one pair; list.index; enumerate. -/
namespace PD
open PySem PySem.Spec PyProof.Rows L2
section
variable {X : Cx} {Γ : Gm} {a b e : Expr} {pos : Pos}
def fDic (fk fv : Ef) : Ef := fun s => (fk s).bind fun (q, s1) => (fv s1).bind fun (r, s2) => match q, fz r with
  | .val kd, .val d => (keyD kd).map fun k => (.ownK [(k, d)], s2)
  | _, _ => none
theorem pd_dic {fk fv : Ef} (hk : PEd X Γ a fk) (hv : PEd X Γ b fv) : PEd X Γ (.Dict [some a] [b] pos) (fDic fk fv) := by
  obtain ⟨tk, pk, kk⟩ := hk
  obtain ⟨tv, pv, kv⟩ := hv
  refine ⟨_, pe_disp (pps_cons pk pv pps_nil) rfl rfl (by simp) (by simp), fun σ H G s s' r Q S hf hq => ?_⟩
  unfold fDic at hf
  cases h1 : fk s with
  | none => rw [h1] at hf; cases hf
  | some w1 =>
    obtain ⟨q, s1⟩ := w1
    simp only [h1, Option.bind_some] at hf
    cases h2 : fv s1 with
    | none => rw [h2] at hf; cases hf
    | some w2 =>
      obtain ⟨r1, s2⟩ := w2
      simp only [h2, Option.bind_some] at hf
      split at hf
      case h_2 => cases hf
      rename_i kd d e1
      cases ek : keyD kd with
      | none => rw [ek] at hf; cases hf
      | some k =>
        rw [ek] at hf
        cases hf
        intro p hn
        obtain ⟨S0, T0⟩ := S.alloc (o := .dK []) hn
        obtain ⟨gp, pf⟩ := S.gNone hn
        have h0p := S.fresh0 hn
        have no : ∀ {H2 G2 : Hp} {s2 : DS}, Stp Γ σ H G s H2 G2 s2 → ¬ OwnAt σ s2 p := fun T z => by
          obtain ⟨⟨o, q⟩, _⟩ := S.ownThere (T.own p z)
          rw [hn] at q; cases q
        refine kk σ _ G s s1 _ _ S0 h1 fun x H1 G1 S1 T1 g1 => ?_
        refine kv σ H1 G1 s1 _ r1 _ S1 h2 fun y H2 G2 S2 T2 g2 => ?_
        obtain ⟨G3, S3, T3, r3⟩ := S1.freeze S2 T2 g2
        rw [e1] at r3
        have ex : x = kV k := Rp.keyI (show Rp X.K G1 x kd from g1.rp) ek
        subst ex
        have T03 := T1.trans T3
        have TT := T0.trans T03
        have hp2 : H2 p = some (.dK []) := T03.keep p _ pf (no T0) upd_same
        have gp3 : G3 p = none := by
          cases z : G3 p with
          | none => rfl
          | some o =>
            rcases T03.nw p (by rw [z]; simp) with q | q | q
            · exact absurd gp q
            · rw [upd_same] at q; cases q
            · exact absurd q (no T0)
        refine ⟨hp2, [(k, y)], rfl, by simp, ?_⟩
        have S4 := S3.touch (o := .dK [(k, y)]) gp3 pf (no TT) h0p
        refine hq _ _ G3 S4 ⟨TT.gg, fun b o n1 n2 e => ?_, TT.own, TT.nw, fun b e => ?_⟩ ⟨⟨p, _, rfl, upd_same, gp3, pf, .cons ⟨rfl, r3⟩ .nil⟩, fun _ => ⟨p, rfl, hn⟩⟩
        · rw [show mergeK [] [(k, y)] = [(k, y)] from rfl, upd_ne (fun z => by rw [z, hn] at e; cases e)]
          exact TT.keep b o n1 n2 e
        · by_cases z : b = p
          · rw [z]; show (upd H2 p _) p ≠ none; rw [upd_same]; simp
          · rw [show mergeK [] [(k, y)] = [(k, y)] from rfl, upd_ne z]; exact TT.mo b e
/-! ### l.index(x) of a list -/
def gIdxL : Pl → Pl → Option Pl
  | .val (.list ds), .val d => if SeqAt.shaped (.list ds) && SeqAt.shaped d then (ds.findIdx? fun y => PyData.eqv y d).map fun j => .val (.int (j : Nat)) else none
  | _, _ => none
def fIdxL (f g : Ef) : Ef := fun s => (f s).bind fun (x, s1) => (g s1).bind fun (y, s2) => (gIdxL (fz x) (fz y)).map fun r => (r, s2)
theorem pd_idxL {apos cpos : Pos} {f g : Ef} (hu : X.A.units + 65 < cLine) (ha : PEd X Γ a f) (he : PEd X Γ e g) (hbase : attributeBase a "index" X.env (eval a X.env) = eval a X.env := by rfl)
    (hfew : ((backTo cpos (starEach [e] X.env)).all (fun x => !x.1) && (backToKw cpos (keywordEach [] X.env)).all (fun x => x.1.isSome)
      && decide ([e].length + ([] : List Keyword).length + (if ([] : List Keyword).isEmpty then 0 else 1) < 30)) = true := by rfl)
    (hline : (apos.endLine == cpos.line) = true := by rfl) (hs : starEach [e] X.env = (false, eval e X.env) :: starEach [] X.env := by rfl) (hplain : (backTo cpos (starEach [] X.env)).any (·.1) = false := by rfl) :
    PEd X Γ (.Call (.Attribute a "index" apos) [e] [] cpos) (fIdxL f g) := by
  obtain ⟨t1, p1, k1⟩ := ha
  obtain ⟨t2, p2, k2⟩ := he
  refine ⟨_, pe_bm PySem.F.plainAttrs_list PySem.F.slot_list_index PySem.F.type_list_index (mt_indexD hu) p1 (pa_cons p2 pa_nil hs) hbase hfew hline hs hplain, fun σ H G s s' r Q S hf hq => ?_⟩
  unfold fIdxL at hf
  cases h1 : f s with
  | none => rw [h1] at hf; cases hf
  | some w1 =>
    obtain ⟨x, s1⟩ := w1
    simp only [h1, Option.bind_some] at hf
    cases h2 : g s1 with
    | none => simp only [h2, Option.bind_none] at hf; cases hf
    | some w2 =>
      obtain ⟨y, s2⟩ := w2
      simp only [h2, Option.bind_some] at hf
      cases h4 : gIdxL (fz x) (fz y) with
      | none => simp only [h4, Option.map_none] at hf; cases hf
      | some z =>
        simp only [h4, Option.map_some, Option.some.injEq, Prod.mk.injEq] at hf
        obtain ⟨rfl, rfl⟩ := hf
        refine k1 σ H G s s1 x _ S h1 fun v H1 G1 S1 T1 g1 => ?_
        obtain ⟨G1', S1', T1', r1'⟩ := S.freeze S1 T1 g1
        unfold gIdxL at h4
        split at h4
        case h_2 => cases h4
        rename_i ds d e1 e2
        by_cases hz : (SeqAt.shaped (.list ds) && SeqAt.shaped d) = true
        case neg => rw [if_neg hz] at h4; cases h4
        rw [if_pos hz] at h4
        obtain ⟨z1, z2⟩ := Bool.and_eq_true_iff.mp hz
        cases ej : ds.findIdx? (fun y => PyData.eqv y d) with
        | none => rw [ej] at h4; cases h4
        | some j =>
          rw [ej] at h4
          cases h4
          rw [e1] at r1'
          cases (show Rp X.K G1' v (.list ds) from r1') with
          | @lst p vs _ hp hr =>
          refine ⟨.inl ⟨rfl, vs, .inl (.inl (S1'.sub _ _ hp))⟩, k2 σ H1 G1' s1 _ y _ S1' h2 fun w H2 G2 S2 T2 g2 => ?_⟩
          have r2 := View.of S2.sub g2.rp
          rw [e2] at r2
          obtain ⟨hj, hj1, hj2⟩ := List.findIdx?_eq_some_iff_getElem.mp ej
          refine ⟨p, w, d, ds, j, ds[j], rfl, rfl, .lst (.inl (.inl (S2.sub _ _ (T2.gg _ _ hp)))) ((hr.mono T2.gg).mono S2.sub).dp, r2.dp S2.sub, z1, z2, List.getElem?_eq_getElem hj, hj1, fun m z' hm hz' => ?_, hq _ H2 G2 S2 (T1'.trans T2) (.new (fa := Γ.fa) (.int _))⟩
          have hml : m < ds.length := by omega
          rw [List.getElem?_eq_getElem hml] at hz'
          have := hj2 m hm
          rw [Option.some.inj hz'] at this
          simpa using this
end
/-! ### enumerate of a tuple -/
set_option maxHeartbeats 4000000 in
theorem meets_enumerate_new1 {v : Value} {o : Obj} {Hh : Heap → Prop} (B : Begins v o Hh) :
    Meets (Builtin.«enumerate.__new__» ⟨[.type "enumerate", v], []⟩) (fun _ R s => Hh s.heap ∧
      R (.ok (.ret (.ref (s.heap.push o).objs.size))) { s with heap := (s.heap.push o).push { cls := .type "enumerate", data := .fields #[.none, .bool false, .ref s.heap.objs.size, rawInt 0, .none, .none] } }) :=
  .of_wp fun prog w A R s h => by
    obtain ⟨hp, g, d, tk, os⟩ := s
    obtain ⟨h1, h⟩ := h
    have hsub := sub_enumerate
    have q1 : ∀ {A' : Around} {E : Value → Shared → Prop} {Q : Value → Shared → Prop}, Q (.ref hp.objs.size) ⟨hp.push o, g, d, tk, os⟩ → wpAny (model prog w) A' (pyIter v) Q E ⟨hp, g, d, tk, os⟩ :=
      fun q => B.iter prog w _ _ ⟨hp, g, d, tk, os⟩ _ h1 q
    wp_walk using q1
    refine wpAny_stack_any fun st => wpAny_pure ?_
    split
    · rename_i c _ _ _ _ _
      cases (c == Value.type "enumerate")
      · wp_walk using q1
        exact ⟨_, rfl, h⟩
      · wp_walk using q1
        exact ⟨_, rfl, h⟩
    · wp_walk using q1
      exact ⟨_, rfl, h⟩
section
variable {prog : Program} {w : World} {A : Around} {E : Value → Shared → Prop} {s : Shared}
theorem enum_begins1 {v : Value} {o : Obj} {Hh : Heap → Prop} {Q : Value → Shared → Prop} (B : Begins v o Hh) (h1 : Hh s.heap)
    (h : ∀ h', IsEnum h' (s.heap.objs.size + 1) s.heap.objs.size 0 .none → h'.get? s.heap.objs.size = some o → h'.objs.size = s.heap.objs.size + 2 →
      (∀ b o, s.heap.get? b = some o → h'.get? b = some o) → Q (.ref (s.heap.objs.size + 1)) { s with heap := h' }) :
    wpAny (model prog w) A (call (.type "enumerate") [v]) Q E s := by
  refine callType_new F.called_enumerate (by decide) (F.typeCall_enumerate_1 _) (F.newCall_enumerate_1 _) (fun obj => F.args_object_init_2 obj _) F.entry_enumerate_new
    (meets_enumerate_new1 B) ⟨h1, ?_⟩
  have hz : (s.heap.push o).objs.size = s.heap.objs.size + 1 := Heap.size_push ..
  show _ ∧ _
  rw [hz]
  have he : IsEnum ((s.heap.push o).push { cls := .type "enumerate", data := .fields #[.none, .bool false, .ref s.heap.objs.size, rawInt 0, .none, .none] }) (s.heap.objs.size + 1) s.heap.objs.size 0 .none := by
    have := Heap.get?_push_size (s.heap.push o) (o := { cls := .type "enumerate", data := .fields #[.none, .bool false, .ref s.heap.objs.size, rawInt 0, .none, .none] }) rfl
    rw [hz] at this; exact this
  refine ⟨⟨_, he, rfl⟩, h _ he (Heap.get?_push_of_some _ (Heap.get?_push_size _ B.free)) (by rw [Heap.size_push, hz]) fun b o x => Heap.get?_push_of_some _ (Heap.get?_push_of_some _ x)⟩
end
/-- the tuple at a, each item in a new pair -/
def IteT (K : PySem.W.Frag) (a : Addr) : It :=
  ⟨fun i H => ∃ (xs : List V) (x : V), SqT K H a xs ∧ xs[i]? = some x, fun i H v H' => ∃ T x, v = .ref T ∧ H T = none ∧ H' = upd H T (.tup [.int (i : Nat), x]) ∧ ∀ xs, SqT K H a xs → xs[i]? = some x, fun i H => ∃ xs : List V, SqT K H a xs ∧ xs.length ≤ i⟩
theorem turn_enumT {P : Program} {w : World} {K : PySem.W.Frag} {elts : List Expr} {kk : Nat} {tpos : Pos} (a e it : Addr) :
    Turn P w K (.Tuple elts kk tpos) (IteT K a) [e, it] e (fun i h => (∃ old, IsEnum h e it ((i : Nat) : Int) old) ∧ h.IsTupleIter it a i ∧ e ≠ it) where
  mem := by simp
  obj := fun i h st b hb => by
    obtain ⟨⟨old, he⟩, ⟨o, ho, hc, hd⟩, _⟩ := st
    have e' : b = e ∨ b = it := by simpa using hb
    rcases e' with z | z
    · rw [z]; exact ⟨_, he, fun v q => nomatch q⟩
    · rw [z]; exact ⟨o, ho, fun v q => by rw [hd] at q; cases q⟩
  keep := fun i h h' st k => let ⟨⟨old, he⟩, hi, hne⟩ := st; ⟨⟨old, k e (by simp) _ he⟩, hi.at fun o q => k it (by simp) o q, hne⟩
  item := by
    intro X hP hw hK hc i pins s σ H E I hf st hg
    subst hP hw hK
    obtain ⟨⟨old, he⟩, hit, hne⟩ := st
    obtain ⟨xs, x, hq, hx⟩ := hg
    obtain ⟨its, rv, p, hz⟩ := I.tuple hq
    obtain ⟨u, hu, ru⟩ := rv.get hx
    have hel : e < s.heap.objs.size := Heap.lt_size he
    have hil : it < s.heap.objs.size := by obtain ⟨_, q, _⟩ := hit; exact Heap.lt_size q
    have hti : a ≠ it := fun z => by
      obtain ⟨o1, q1, c1, _⟩ := hit
      obtain ⟨o2, q2, c2, _⟩ := (show s.heap.IsTuple a its.toArray from p)
      rw [z, q1] at q2
      cases q2
      rw [c1] at c2
      exact absurd c2 (by decide)
    have hea : e ≠ a := fun z => by
      obtain ⟨o2, q2, c2, _⟩ := (show s.heap.IsTuple a its.toArray from p)
      rw [← z, he] at q2
      cases q2
      exact absurd (show Value.type "enumerate" = Value.type "tuple" from c2) (by decide)
    have hlt : i < its.toArray.size := by
      have := (List.getElem?_eq_some_iff.mp hu).1
      simpa using this
    refine wpAny_pyNext_enum_itemD (Draws.tuple (A := X.A.in1) (I.ok.hd hc) it a hti its.toArray) he ⟨hit, p⟩ hlt hne (by simp; exact ⟨hne, hea⟩) fun u' h' tk hu' ho hst' hT hsz hk => ?_
    have eu : u' = u := by
      have hu'' : its.toArray[i]? = some u' := hu'
      rw [show its.toArray[i]? = its[i]? by simp] at hu''
      exact Option.some.inj (hu''.symm.trans hu)
    subst eu
    refine ⟨_, rfl, wpAny_letOwnedTupleGo_enum (s := { s with heap := h', toks := tk + 1 }) ho fun h'' he' sb => ?_⟩
    have hT2 : h''.get? s.heap.objs.size = some { cls := .type "tuple", data := .seq #[.int i tk, u'] } := (sb.2 _ (Nat.ne_of_gt hel)).trans hT
    have new : ObjOk X.prog X.w (upd H s.heap.objs.size (.tup [.int (i : Nat), x])) h'' s.heap.objs.size (.tup [.int (i : Nat), x]) :=
      ⟨by show 2 ≤ sizeLine; decide, [.int i tk, u'], .cons ⟨_, rfl⟩ (.cons ru .nil), ⟨_, hT2, rfl, _, rfl⟩⟩
    have I1 : Inv X pins σ (upd H s.heap.objs.size (.tup [.int (i : Nat), x])) { s with heap := h'', toks := tk + 1 } :=
      I.turnedNew (ch := [e, it]) (fun b ob hb q => (sb.2 b (fun z => hb (by simp [z]))).trans (hk b ob (fun z => hb (by simp [z])) (fun z => hb (by simp [z])) q)) hf (Nat.le_refl _) new
    refine ⟨.ref s.heap.objs.size, _, I1, rfl, ⟨_, x, rfl, I.hok.fresh (Nat.le_refl _), rfl, fun ys hy => by rw [I.tuple_inj hy hq]; exact hx⟩, ⟨⟨u', ?_⟩, hst'.1.at fun o q => (sb.2 it (Ne.symm hne)).trans q, hne⟩, fun b hb => ?_⟩
    · have e1 : ((i + 1 : Nat) : Int) = (i : Int) + 1 := by omega
      rw [e1]; exact he'
    · have hb' : b < s.heap.objs.size := by
        have e' : b = e ∨ b = it := by simpa using hb
        rcases e' with z | z
        · rw [z]; exact hel
        · rw [z]; exact hil
      rw [upd_ne (Nat.ne_of_lt hb')]
      exact (hf b hb).1
  done := by
    intro X hP hw hK hc i pins s σ H E I hf st hg
    subst hP hw hK
    obtain ⟨⟨old, he⟩, hit, hne⟩ := st
    obtain ⟨xs, hq, hx⟩ := hg
    obtain ⟨its, rv, p, hz⟩ := I.tuple hq
    obtain ⟨f0, f1, f2, f3, f4, f5⟩ := hf it (by simp)
    have hl := rv.length
    have D : Draws X.prog X.w X.A.in1 it [it, a] i (fun _ _ => True) (fun j h => j = i ∧ h.IsTupleIter it a j ∧ h.IsTuple a its.toArray) :=
      { live := fun _ _ st => let ⟨o, ho, _⟩ := st.2.1; ⟨o, ho⟩
        frame := fun _ _ _ st hk => ⟨st.1, st.2.1.at fun o e => hk it (by simp) o e, st.2.2.at fun o e => hk a (by simp) o e⟩
        item := fun j s Q E hj st hQ => by rw [st.1] at hj; exact absurd hj (Nat.lt_irrefl _)
        done := fun s Q E st hE => wpAny_nextOf_tuple_end (I.ok.hd hc) st.2.1 st.2.2 (by simp; omega) hE }
    exact wpAny_pyNext_enum_endD D he ⟨rfl, hit, p⟩ fun h' eb => ⟨rfl, I.turned (t' := s.toks) (fun b o hb q => eb b o hb q) f0 f1 f3 f4 f5⟩
  self := fun A i s Q E st h => let ⟨⟨_, he⟩, _⟩ := st; wpAny_pyIter_enum he h
def iEnumT (K : PySem.W.Frag) (ta : TA) : TI := fun σ H R => ta σ H fun vs H1 => ∃ a xs, vs = [.ref a] ∧ SqT K H1 a xs ∧ R (IteT K a) H1
theorem pi_enumT {X : Cx} {e : Expr} {ta : TA} {p pos tpos : Pos} {elts : List Expr} {kk : Nat} (hg : Gl X "enumerate") (hm : X.mg "enumerate" = none) (ha : PA X [e] ta) (hs : starEach [e] X.env = [(false, eval e X.env)] := by rfl) :
    PI X (.Tuple elts kk tpos) (.Call (.Name "enumerate" p) [e] [] pos) (iEnumT X.K ta) := by
  refine ⟨fun pins s σ H R I h => ?_⟩
  refine Call_ (ld_blt I hg hm boot_enumerate (PyProof.Rows.callWith_type1 (thn (ha.run pos pins s σ H _ I h) fun us s1 ⟨vs, H1, I1, r1, q1⟩ => ?_) hs rfl))
  obtain ⟨a, xs, ex, hq, q⟩ := q1
  subst ex
  cases r1 with
  | cons r rr =>
    cases rr
    cases r
    obtain ⟨its, rv, p', hz⟩ := I1.tuple hq
    refine enum_begins1 (begins_tuple a its.toArray) p' fun h' he hit hsz hk => wpAny_pyIter_enum he ?_
    have I2 : Inv X pins σ H1 { s1 with heap := h' } := I1.kept (t' := s1.toks) hk
    refine ⟨s1.heap.objs.size + 1, [s1.heap.objs.size + 1, s1.heap.objs.size], _, _, H1, rfl, I2, turn_enumT a (s1.heap.objs.size + 1) s1.heap.objs.size, ⟨⟨.none, he⟩, ⟨_, hit, rfl, rfl⟩, Nat.succ_ne_self _⟩, fun b hb => ?_, q⟩
    have e' : b = s1.heap.objs.size + 1 ∨ b = s1.heap.objs.size := by simpa using hb
    have hle : s1.heap.objs.size ≤ b := by
      rcases e' with z | z
      · rw [z]; exact Nat.le_add_right _ _
      · rw [z]; exact Nat.le_refl _
    exact I1.fpOk hle (I1.hok.fresh hle)
/-- enumerate(x) -/
def enumD : Nat → List PyData → List PyData
  | _, [] => []
  | n, d :: r => .tuple [.int (n : Nat), d] :: enumD (n + 1) r
theorem enumD_len : ∀ (n : Nat) (ds : List PyData), (enumD n ds).length = ds.length
  | _, [] => rfl
  | n, d :: r => congrArg (· + 1) (enumD_len (n + 1) r)
theorem enumD_get : ∀ (n : Nat) (ds : List PyData) (i : Nat) (d : PyData), (enumD n ds)[i]? = some d → ∃ x, ds[i]? = some x ∧ d = .tuple [.int ((n + i : Nat) : Int), x]
  | _, [], _, _, h => by simp [enumD] at h
  | n, x :: r, 0, d, h => by simp [enumD] at h; exact ⟨x, rfl, by rw [← h]; simp⟩
  | n, x :: r, i + 1, d, h => by
    obtain ⟨y, h1, h2⟩ := enumD_get (n + 1) r i d (by simpa [enumD] using h)
    exact ⟨y, by simpa using h1, by rw [h2]; congr 3; omega⟩
def wEnum (f : Ef) : Wf := fun s => (f s).bind fun (a, s1) => match fz a with
  | .val (.list ds) => some (enumD 0 ds, s1)
  | .val (.tuple ds) => some (enumD 0 ds, s1)
  | _ => none
section
variable {X : Cx} {Γ : Gm}
theorem pid_enum {e : Expr} {l : List Tg} {f : Ef} {p pos tpos : Pos} {elts : List Expr} {kk : Nat} (h : PEd X Γ e f) (hg : Gl X "enumerate") (hm : X.mg "enumerate" = none)
    (hs : starEach [e] X.env = (false, eval e X.env) :: starEach [] X.env := by rfl) (hs' : starEach [e] X.env = [(false, eval e X.env)] := by rfl) :
    PId X Γ (.Tuple elts kk tpos) (.Call (.Name "enumerate" p) [e] [] pos) (.tp l) (wEnum f) := by
  obtain ⟨te, pe, k⟩ := h
  refine ⟨fun σ H R => iEnum X.K (tCons te tNil) σ H R ∨ iEnumT X.K (tCons te tNil) σ H R, ⟨fun pins s σ H R I q => ?_⟩, fun σ H G s s' ds R S hf hq => ?_⟩
  · rcases q with q | q
    · exact (pi_enum hg hm (pa_cons pe pa_nil hs) hs').run pins s σ H R I q
    · exact (pi_enumT hg hm (pa_cons pe pa_nil hs) hs').run pins s σ H R I q
  · unfold wEnum at hf
    cases h1 : f s with
    | none => rw [h1] at hf; cases hf
    | some w =>
      obtain ⟨x, s1⟩ := w
      simp only [h1, Option.bind_some] at hf
      have yld : ∀ {vs : List V} {dd : List PyData} {G2 : Hp} {i : Nat} {d : PyData}, RpAll X.K G2 vs dd → (enumD 0 dd)[i]? = some d → ∃ y v, dd[i]? = some y ∧ d = .tuple [.int (i : Nat), y] ∧ vs[i]? = some v ∧ Rp X.K G2 v y := fun r hd => by
        obtain ⟨y, h3, h4⟩ := enumD_get _ _ _ _ hd
        obtain ⟨v, f1, f2⟩ := r.get h3
        exact ⟨y, v, h3, by rw [h4]; congr 3; omega, f1, f2⟩
      split at hf
      · rename_i dd e1
        cases hf
        refine .inl (k σ H G s _ x _ S h1 fun v H1 G1 S1 T1 g1 => ?_)
        obtain ⟨G2, S2, T2, r2⟩ := S.freeze S1 T1 g1
        rw [e1] at r2
        obtain ⟨q, vs, rfl, h2, h3⟩ : ∃ p vs, v = .ref p ∧ G2 p = some (.lst vs) ∧ RpAll X.K G2 vs dd := by
          cases (show Rp X.K G2 v (.list dd) from r2) with
          | lst q r => exact ⟨_, _, rfl, q, r⟩
        refine ⟨q, vs, rfl, .inl (.inl (S2.sub _ _ h2)), hq _ H1 G2 S2 T2 ?_⟩
        intro σ3 H3 G3 s3 S3 g3
        have hs3 : SqL X.K H3 q vs := .inl (.inl (S3.sub _ _ (g3 _ _ h2)))
        refine ⟨fun i d hd => ?_, fun i hi => ⟨vs, hs3, by rw [h3.length]; rw [enumD_len] at hi; exact hi⟩⟩
        obtain ⟨y, v, hy, rfl, f1, f2⟩ := yld h3 hd
        refine ⟨⟨vs, v, hs3, f1⟩, fun x H' hx => ?_⟩
        obtain ⟨T, z, rfl, hT, rfl, hz⟩ := hx
        have ez := (hz vs hs3).symm.trans f1
        cases ez
        obtain ⟨A, B⟩ := S3.alloc (o := .tup [.int (i : Nat), v]) hT
        exact ⟨G3, A, B, fun _ => ⟨_, T, _, rfl, rfl, .inl (.inl upd_same), .cons (.int _) (.cons (f2.mono g3) .nil)⟩⟩
      · rename_i dd e1
        cases hf
        refine .inr (k σ H G s _ x _ S h1 fun v H1 G1 S1 T1 g1 => ?_)
        obtain ⟨G2, S2, T2, r2⟩ := S.freeze S1 T1 g1
        rw [e1] at r2
        obtain ⟨q, vs, rfl, h2, h3⟩ := Rp.tupI r2
        refine ⟨q, vs, rfl, (h2.mono S2.sub).sqt, hq _ H1 G2 S2 T2 ?_⟩
        intro σ3 H3 G3 s3 S3 g3
        have hs3 : SqT X.K H3 q vs := ((h2.mono g3).mono S3.sub).sqt
        refine ⟨fun i d hd => ?_, fun i hi => ⟨vs, hs3, by rw [h3.length]; rw [enumD_len] at hi; exact hi⟩⟩
        obtain ⟨y, v, hy, rfl, f1, f2⟩ := yld h3 hd
        refine ⟨⟨vs, v, hs3, f1⟩, fun x H' hx => ?_⟩
        obtain ⟨T, z, rfl, hT, rfl, hz⟩ := hx
        have ez := (hz vs hs3).symm.trans f1
        cases ez
        obtain ⟨A, B⟩ := S3.alloc (o := .tup [.int (i : Nat), v]) hT
        exact ⟨G3, A, B, fun _ => ⟨_, T, _, rfl, rfl, .inl (.inl upd_same), .cons (.int _) (.cons (f2.mono g3) .nil)⟩⟩
      · cases hf
end
end PD

set_option Elab.async false
set_option linter.all false
set_option maxRecDepth 100000
set_option maxHeartbeats 1000000
/-! PDp: repr; texts equal; the feed read and written. -/
namespace PD
open PySem PySem.Spec PyProof.Rows L2
section
variable {X : Cx} {Γ : Gm} {a b e : Expr} {pos : Pos}
/-! ### repr -/
def reprOk : PyData → Bool
  | .bool _ => true
  | .list xs => (PyData.list xs).layable0 && (PyData.list xs).intsShort 13 && (PyData.list xs).showable
  | .tuple xs => (PyData.tuple xs).layable0 && (PyData.tuple xs).intsShort 13 && (PyData.tuple xs).showable
  | _ => false
def reprT : PyData → Str
  | .bool b => if b then "True" else "False"
  | d => d.shown
theorem call_reprD (hgd : X.A.guards = some []) (hu : X.A.units + 65 < cLine) : CallR X (.builtin "repr") (fun xs H Q => ∃ x d, xs = [x] ∧ Dp X.K H x d ∧ reprOk d = true ∧ Q (.str (reprT d)) H) := by
  intro pins s σ H xs us Q I r h
  obtain ⟨x, d, rfl, hd, ok, q⟩ := h
  obtain ⟨u, rfl, ru⟩ := vals1 r
  have go : ∀ {d : PyData}, Dp X.K H x d → isDisplay d = true → d.layable0 = true → d.intsShort 13 = true → d.showable = true → Q (.str d.shown) H → wpAny (model X.prog X.w) X.A (call (.builtin "repr") [u]) (EP X pins σ Q) X.xe s := fun {d} hd hdis hl hi hsh q => by
    obtain ⟨as, rd⟩ := Dp.reads I d x u hd ru
    obtain ⟨p, rfl⟩ := isRef_of_reads rd hdis
    have hdep : d.depth ≤ 64 := by
      have h1 : (PyData.canLay0 d && decide (PyData.depth d ≤ 64) && decide (PyData.weight d ≤ 2 ^ 20)) = true := hl
      simp only [Bool.and_eq_true, decide_eq_true_eq] at h1
      exact h1.1.2
    refine repr_of_reads' rd hsh (PyData.noDict_hsm (PyData.hasDict_of_layable hl)) hgd (by omega) (fun _ _ e => e) (fun h' t tk hk => ?_) (Nat.le_trans (shown_le13 hl hi) (by rw [sizeLine_eq]; omega))
    exact ⟨.str _, H, I.kept (t' := tk) hk, ⟨_, rfl⟩, q⟩
  cases d with
  | bool b =>
    cases hd
    obtain rfl : u = Value.bool b := ru
    exact PySem.P.repr_of_bool ⟨.str _, H, I.tok _, ⟨_, rfl⟩, q⟩
  | list xs =>
    obtain ⟨h12, h3⟩ := Bool.and_eq_true_iff.mp ok
    obtain ⟨h1, h2⟩ := Bool.and_eq_true_iff.mp h12
    exact go hd rfl h1 h2 h3 q
  | tuple xs =>
    obtain ⟨h12, h3⟩ := Bool.and_eq_true_iff.mp ok
    obtain ⟨h1, h2⟩ := Bool.and_eq_true_iff.mp h12
    exact go hd rfl h1 h2 h3 q
  | none => cases ok
  | int i => cases ok
  | str i => cases ok
  | dict i => cases ok
def gRepr : Pl → Option Pl
  | .val d => if reprOk d then some (.val (.str (reprT d))) else none
  | _ => none
theorem cd_repr : CallD X (fun xs H Q => ∃ x d, xs = [x] ∧ Dp X.K H x d ∧ reprOk d = true ∧ Q (.str (reprT d)) H) gRepr := by
  intro Γ σ H G s v a c Q S v1 hg hq
  unfold gRepr at hg
  split at hg
  case h_2 => cases hg
  rename_i d
  by_cases hz : reprOk d = true
  · rw [if_pos hz] at hg
    cases hg
    exact ⟨v, d, rfl, v1.dp S.sub, hz, hq _ H G S .refl (.new (fa := Γ.fa) (.str _))⟩
  · rw [if_neg hz] at hg; cases hg
theorem pd_repr {p : Pos} {f : Ef} (hgd : X.A.guards = some []) (hu : X.A.units + 65 < cLine) (h : P1d X Γ e f) (hg : Gl X "repr") (hm : X.mg "repr" = none) (he : starEach [e] X.env = (false, eval e X.env) :: starEach [] X.env := by rfl) (hpl : (backTo pos (starEach [] X.env)).any (·.1) = false := by rfl) :
    PEd X Γ (.Call (.Name "repr" p) [e] [] pos) (fUn f gRepr) := pd_callB h (call_reprD hgd hu) cd_repr hg hm (by rfl) (by decide) (by decide) he hpl
/-! ### two texts equal -/
theorem op_eqS : OpR X (compareOp .Eq) (fun x y H Q => ∃ i j, x = .str i ∧ y = .str j ∧ Q (.bl (decide (i = j))) H) := by
  intro pins s σ H x y v u Q I rx ry h
  obtain ⟨i, j, rfl, rfl, q⟩ := h
  refine op_eq pins s σ H _ _ v u Q I rx ry ⟨rfl, ?_⟩
  have e : decide (V.str i = V.str j) = decide (i = j) := by
    rw [Bool.eq_iff_iff]
    simp
  rw [e]
  exact q
def gEqS : Pl → Pl → Option Pl := gS (fun _ _ => true) fun i j => .bool (decide (i = j))
theorem c_eqS {f : DS → Option (Pl × Pl × DS)} (h : P2d X Γ a b f) : CmpD X Γ (.Compare a [.Eq] [b] pos) (fBin f gEqS) := cd_cmp h op_eqS (od_S0 fun _ _ _ _ => .bl _) (nomark _)
/-! ### the feed -/
def FS.get (f : FS) (x : Str) : Option PyData := if x = "turn" then some (.int f.turn) else if x = "rest" then some (.int f.rest) else if x = "spot" then some (.int f.spot) else if x = "cells" then some (.list (f.cells.map PyData.int)) else none
def FS.set (f : FS) (x : Str) (i : Int) : Option FS := if x = "turn" then some { f with turn := i } else if x = "rest" then some { f with rest := i } else if x = "spot" then some { f with spot := i } else none
def fFget (i : Nat) (x : Str) : Ef := fun s => match s.env[i]? with
  | some (some .fd) => (s.fs.get x).map fun d => (.val d, s)
  | _ => none
abbrev fdK (c : Addr) (f : FS) : List (Key × V) := [(kCells, .ref c), (kSpot, .int f.spot), (kRest, .int f.rest), (kTurn, .int f.turn)]
theorem fd_get {K : PySem.W.Frag} {fa : Addr} {H G : Hp} {f : FS} {x : Str} {d : PyData} (h : FeedAt fa H G f) (e : f.get x = some d) : ∃ v, DGet H fa (.str x) (some v) ∧ Rp K G v d := by
  obtain ⟨c, h1, h2, h3⟩ := h
  unfold FS.get at e
  have g : ∀ z : V, valV (fdK c f) (.inr x) = some z → DGet H fa (.str x) (some z) := fun z hz => by
    rw [← hz]
    exact DGet.k (k := .inr x) h1
  split at e
  · rename_i hx; subst hx; cases e; exact ⟨_, g _ rfl, .int _⟩
  · split at e
    · rename_i hx; subst hx; cases e; exact ⟨_, g _ rfl, .int _⟩
    · split at e
      · rename_i hx; subst hx; cases e; exact ⟨_, g _ rfl, .int _⟩
      · split at e
        · rename_i hx; subst hx; cases e; exact ⟨_, g _ rfl, .lst h3 (RpAll.of_ints _)⟩
        · cases e
theorem pd_fget {o : Expr} {x : Str} {j : Nat} {p2 : Pos} {i : Nat} (hu : X.A.units + 1 < cLine) (ho : PE X o (tVar i)) : PEd X Γ (.Subscript o (.Constant (.str x) j p2) pos) (fFget i x) := by
  refine ⟨_, pe_dget hu ho pe_str (by intro _ _; rfl), fun σ H G s s' r Q S hf hq => ?_⟩
  unfold fFget at hf
  split at hf
  case h_2 => cases hf
  rename_i e0
  cases e1 : s.fs.get x with
  | none => rw [e1] at hf; cases hf
  | some d =>
    rw [e1] at hf
    cases hf
    obtain ⟨v, hv, rfl⟩ := S.env i _ e0
    obtain ⟨w, g1, g2⟩ := fd_get (K := X.K) S.fd e1
    exact ⟨_, hv, Γ.fa, w, rfl, g1, hq w H G S .refl (.new (fa := Γ.fa) g2)⟩
theorem fd_set {fa : Addr} {H G : Hp} {f f' : FS} {x : Str} {i : Int} (h : FeedAt fa H G f) (e : f.set x i = some f') : ∃ H', DPut H fa (.str x) (.int i) H' ∧ FeedAt fa H' G f' ∧ ∃ o, H' = upd H fa o := by
  obtain ⟨c, h1, h2, h3⟩ := h
  unfold FS.set at e
  have g : ∀ z : List (Key × V), putK (fdK c f) (.inr x) (.int i) = z → DPut H fa (.str x) (.int i) (upd H fa (.dK z)) := fun z hz => by
    rw [← hz]
    exact DPut.k (k := .inr x) h1 (by show 4 < sizeLine; rw [sizeLine_eq]; decide)
  split at e
  · rename_i hx; subst hx; cases e; exact ⟨_, g (fdK c { f with turn := i }) rfl, ⟨c, upd_same, h2, h3⟩, _, rfl⟩
  · split at e
    · rename_i hx; subst hx; cases e; exact ⟨_, g (fdK c { f with rest := i }) rfl, ⟨c, upd_same, h2, h3⟩, _, rfl⟩
    · split at e
      · rename_i hx; subst hx; cases e; exact ⟨_, g (fdK c { f with spot := i }) rfl, ⟨c, upd_same, h2, h3⟩, _, rfl⟩
      · cases e
theorem Sta.feedSet {K : PySem.W.Frag} {σ : L2.St} {H G : Hp} {s : DS} {fs' : FS} {o : HO} (S : Sta K Γ σ H G s) (h : FeedAt Γ.fa (upd H Γ.fa o) G fs') :
    Sta K Γ σ (upd H Γ.fa o) G ⟨s.env, fs'⟩ := by
  obtain ⟨c0, a1, a2, a3⟩ := S.fd
  refine ⟨fun b x e => ?_, S.g0, S.fr, fun b x n e => by rw [upd_ne n]; exact S.keep b x n e, S.len, fun i sl e => ?_, S.dis, S.new, h⟩
  · rw [upd_ne (fun z => by rw [z, a2] at e; cases e)]; exact S.sub _ _ e
  · obtain ⟨v, h1, h2⟩ := S.env i sl e
    refine ⟨v, h1, h2.step (Same.refl _) fun ow q hq => ?_⟩
    obtain ⟨q', o', e1, e2, e3, e4, _⟩ := h2.ownP ow
    rw [hq] at e1
    cases e1
    exact ⟨upd_ne e4, e3⟩
def sFset (i : Nat) (x : Str) (f : Ef) : Sf := fun s => (fI f s).bind fun (k, s1) => match s1.env[i]? with
  | some (some .fd) => (s1.fs.set x k).map fun fs' => .nx ⟨s1.env, fs'⟩
  | _ => none
theorem ps_fset {o : Expr} {x : Str} {j : Nat} {p2 tpos : Pos} {i : Nat} {f : Ef} (hu : X.A.units + 1 < cLine) (ho : PE X o (tVar i)) (he : PEd X Γ e f)
    (hs : swapsWith e (some (.Subscript o (.Constant (.str x) j p2) tpos)) pos.line X.env = pure false := by rfl) : PSd X Γ (.Assign [.Subscript o (.Constant (.str x) j p2) tpos] e pos) (sFset i x f) := by
  obtain ⟨te, pe, ke⟩ := he.int
  refine ⟨_, ps_dput hu ho pe_str pe hs, fun σ H G s o D S hf hp => ?_⟩
  unfold sFset at hf
  cases h1 : fI f s with
  | none => rw [h1] at hf; cases hf
  | some w =>
    obtain ⟨k, s1⟩ := w
    simp only [h1, Option.bind_some] at hf
    split at hf
    case h_2 => cases hf
    rename_i e0
    cases e1 : s1.fs.set x k with
    | none => rw [e1] at hf; cases hf
    | some fs' =>
      rw [e1] at hf
      cases hf
      refine ke σ H G s s1 k _ S h1 fun H1 G1 S1 T1 => ?_
      obtain ⟨v, hv, rfl⟩ := S1.env i _ e0
      obtain ⟨H', g1, g2, ob, rfl⟩ := fd_set S1.fd e1
      exact ⟨_, hv, Γ.fa, _, rfl, g1, hp σ _ G1 (S1.feedSet g2) T1.gg⟩
end
end PD

set_option Elab.async false
set_option linter.all false
set_option maxRecDepth 100000
set_option maxHeartbeats 1000000
/-! PDq: a def by its name. -/
namespace PD
open PySem PySem.Spec PyProof.Rows L2
/-- the def named x: what it does -/
structure Cd (P : Program) (w : World) (K : PySem.W.Frag) (mg : Str → Option Value) (base : Heap) (k : Nat) (x : Str) (ps : List Str) (kws : List (List Str × List Nat)) (g : Df) : Prop where
  ex : ∃ (f : Addr) (fd : FuncData), FnD P w K mg base k f fd ps g ∧ mg x = some (.ref f) ∧ PySem.W.keepIn K (.ref f) = true ∧ Binds K fd ps [] ∧
    ∀ q ∈ kws, ∀ us : List Value, us.length = q.1.length → bindArgs fd ⟨[], q.1.zip us⟩ = pure (ps.zip (pick q.2 us))
section
variable {P : Program} {w : World} {K : PySem.W.Frag} {mg : Str → Option Value} {base : Heap} {j k : Nat} {x qual : Str} {ps N : List Str} {g g' : Df} {st : Stmt} {f : Addr} {fd : FuncData} {bf : Sf} {kws : List (List Str × List Nat)}
theorem Cd.mono (c : Cd P w K mg base j x ps kws g) (h : j ≤ k) : Cd P w K mg base k x ps kws g :=
  let ⟨f, fd, F, a, b, d⟩ := c.ex
  ⟨f, fd, F.mono h, a, b, d⟩
theorem Cd.imp (c : Cd P w K mg base k x ps kws g) (h : ∀ as fs q, g' as fs = some q → g as fs = some q) : Cd P w K mg base k x ps kws g' :=
  let ⟨f, fd, F, a, b, d⟩ := c.ex
  ⟨f, fd, F.imp h, a, b, d⟩
theorem Cd.of (F : Fun K x qual st f fd) (hm : mg x = some (.ref f)) (S : FnScope N ps (defScope st))
    (hb : ∀ (kV doc pm : Value) (an : Option Addr) (cdv ct : Value) (us : List Value), us.length = ps.length → bindArgs (PySem.W.fnOf x qual (defArgs st) (defBody st) (defScope st) .none kV doc pm an cdv ct) ⟨us, []⟩ = pure (ps.zip us))
    (hkw : ∀ q ∈ kws, ∀ (kV doc pm : Value) (an : Option Addr) (cdv ct : Value) (us : List Value), us.length = q.1.length → bindArgs (PySem.W.fnOf x qual (defArgs st) (defBody st) (defScope st) .none kV doc pm an cdv ct) ⟨[], q.1.zip us⟩ = pure (ps.zip (pick q.2 us)))
    (hbody : ∀ (cdv : Value) (A : Around) (outer : List Env) (s : Shared) (H : Hp), Room k (A.deeper (envOfC qual (defScope st) s.heap.objs.size f cdv)) → (A.deeper (envOfC qual (defScope st) s.heap.objs.size f cdv)).guards = some [] → ∀ Γ : Gm,
      PSSd (cxOf CX0 P w K mg base N qual (defScope st) f cdv A outer s H E0).nox Γ (defBody st) bf) :
    Cd P w K mg base (k + 1) x ps kws (runDef ps.length N.length bf) := by
  obtain ⟨oc, od, kV, doc, pm, an, cdv, ct, osl, rfl, lk, hcd⟩ := F.ex
  exact ⟨f, _, fnD_of lk hcd S (hbody cdv), hm, F.kp, .all (hb kV doc pm an cdv ct), fun q hq us hl => hkw q hq kV doc pm an cdv ct us hl⟩
end
section
variable {X : Cx} {Γ : Gm} {k : Nat} {g : Df} {x : Str} {ps : List Str} {p pos : Pos} {e : Expr} {es : List Expr} {kws : List (List Str × List Nat)}
theorem pd_cd {fa : Af} (c : Cd X.prog X.w X.K X.mg X.base k x ps kws g) (hr : Room k X.A) (hgd : X.A.guards = some []) (hg : Gl X x) (ha : PAd X Γ (e :: es) fa)
    (hdb : (x == ("__debug__" : Str)) = false := by decide) (he : starEach (e :: es) X.env = (false, eval e X.env) :: starEach es X.env := by rfl) (hpl : (backTo pos (starEach es X.env)).any (·.1) = false := by rfl) :
    PEd X Γ (.Call (.Name x p) (e :: es) [] pos) (fCall g fa) :=
  let ⟨_, _, F, a, b, d⟩ := c.ex
  pd_call F hr hgd hg a b d.1 ha hdb he hpl
theorem pd_cd0 (c : Cd X.prog X.w X.K X.mg X.base k x ps kws g) (hr : Room k X.A) (hgd : X.A.guards = some []) (hg : Gl X x) (hdb : (x == ("__debug__" : Str)) = false := by decide) :
    PEd X Γ (.Call (.Name x p) [] [] pos) (fCall g aNil) :=
  let ⟨_, _, F, a, b, d⟩ := c.ex
  pd_call0 F hr hgd hg a b d.1 hdb
theorem pd_cdK {kwl : List Keyword} {ks : List Str} {fk : Af} (π : List Nat) (c : Cd X.prog X.w X.K X.mg X.base k x ps kws g) (hq : (ks, π) ∈ kws) (hr : Room k X.A) (hgd : X.A.guards = some []) (hg : Gl X x) (ha : PKd X Γ kwl fk) (hlen : π.length = ks.length := by rfl)
    (hall : (backToKw pos (keywordEach kwl X.env)).all (·.1.isSome) = true := by rfl) (hks : (backToKw pos (keywordEach kwl X.env)).filterMap (·.1) = ks := by rfl)
    (hdb : (x == ("__debug__" : Str)) = false := by decide) (hpl : ((backTo pos (starEach [] X.env)).any (·.1) || (backToKw pos (keywordEach kwl X.env)).any (·.1.isNone)) = false := by rfl) :
    PEd X Γ (.Call (.Name x p) [] kwl pos) (fCall g (aPick π fk)) :=
  let ⟨_, _, F, a, b, d⟩ := c.ex
  pd_callK π F hr hgd hg a b (d.2 (ks, π) hq) ha hlen hall hks hdb hpl
end
end PD

set_option Elab.async false
set_option linter.all false
set_option maxRecDepth 100000
set_option maxHeartbeats 1000000
namespace K8
open PySem PySem.Spec PyProof.Rows L2 PD

def topS (i : Nat) : Stmt := PySem.Challenge.pw_actasone_k08_whole_looks_that_move.main.body.getD i (.Pass ⟨0, 0, 0, 0⟩)
def B_is_integer : Sf := (sRet (fAnd (fUn (fPeek 0) (gIsi "int")) (fNot (fUn (fPeek 0) (gIsi "bool")))))
def D_is_integer : Df := runDef 1 1 B_is_integer
def Ce0_is_name : Ef := (fBin (f2n 1 (fC (.val (.str "abcdefghijklmnopqrstuvwxyz")))) (gIn false))
def B_is_name : Sf := (sSeq (sIf (bOr (bNot (fTru (fFz (fUn (fPeek 0) (gIsi "str"))))) (bOr (fB (fBin (f2n 0 (fC (.val (.str "any")))) (gEq false))) (bNot (bChain (fun i j => decide (i ≤ j)) (fun i j => decide (i ≤ j)) (fC (.val (.int 1))) (fUn (fPeek 0) gLen) (fC (.val (.int 8))))))) (sRet (fC (.val (.bool false)))) sNil) (sRet (fUn (fFz (fLc [1] (wStr (fVar 0)) (.nm 1) bYes Ce0_is_name)) (gBools (·.all id)))))
def D_is_name : Df := runDef 1 2 B_is_name
def B_is_tuple : Sf := (sRet (fAnd (fUn (fPeek 0) (gIsi "tuple")) (fBin (f2e (fUn (fPeek 0) gLen) 1) (gEq false))))
def D_is_tuple : Df := runDef 2 2 B_is_tuple
def Ce0_ascends : Ef := (fBin (f2nn 1 2) gLt)
def B_ascends : Sf := (sRet (fUn (fFz (fLc [1, 2] (wZip (fVar 0) (fCutN 0 (oSome (fC (.val (.int 1)))) oNone)) (.tp [(.nm 1), (.nm 2)]) bYes Ce0_ascends)) (gBools (·.all id))))
def D_ascends : Df := runDef 1 3 B_ascends
def Ce0_is_row : Ef := (fBin (f2n 2 (fBin (f2n 0 (fC (.val (.int 0)))) gSub)) (gIn false))
def B_is_row : Sf := (sRet (fAnd (fUn (fPeek 1) (gIsi "tuple")) (fUn (fFz (fLc [2] (wVal (fVar 1)) (.nm 2) bYes Ce0_is_row)) (gBools (·.all id)))))
def D_is_row : Df := runDef 2 3 B_is_row
def B_need : Sf := (sIf (bNot (fTru (fPeek 0))) (fun _ => none) sNil)
def D_need : Df := runDef 2 2 B_need
def B_answer_at : Sf := (sRet (fBin (f2 (fBin (f2e (fBin (f2n 0 (fC (.val (.int 3)))) gSub) 1) gSub) (fIdx (fBin (f2n 0 (fC (.val (.int 1)))) gSub) (fVar 2))) gSub))
def D_answer_at : Df := runDef 3 3 B_answer_at
def L0_come_to : Sf := (sExpr (fApp 3 (fBin (f2 (fBin (f2 (fBin (f2n 0 (fC (.val (.int 2)))) gSub) (fBin (f2n 3 (fNeg (fC (.val (.int 1))))) gSub)) gSub) (fIdx (fBin (f2n 0 (fC (.val (.int 0)))) gSub) (fVar 4))) gSub)))
def B_come_to : Sf := (sSeq (sAsg (fLst (aCons (fVar 1) aNil)) (.nm 3)) (sSeq (sForW (wVal (fVar 2)) (.nm 4) L0_come_to) (sRet (fUn (fPeek 3) gTupleOf))))
def D_come_to : Df := runDef 3 5 B_come_to
def L0_least_rows : Sf := (sIf (fB (fBin (f2nn 7 2) (gIn true))) (sSeq (sSetK 2 (fBin (f2 (fBin (f2nn 2 5) gSub) (fTup (aCons (fVar 6) aNil))) gAdd) (fVar 7)) (sExpr (fApp 3 (fVar 7)))) sNil)
def Wc0_least_rows : Bf := (fB (fBin (f2n 4 (fUn (fPeek 3) gLen)) gLt))
def Wb0_least_rows : Sf := (sSeq (sAsg (fBin (f2nn 3 4) gSub) (.nm 5)) (sSeq (sForW (wZip (fBin (f2n 0 (fC (.val (.int 0)))) gSub) (fBin (f2e (fBin (f2n 0 (fC (.val (.int 2)))) gSub) 5) gSub)) (.tp [(.nm 6), (.nm 7)]) L0_least_rows) (sAsg (fBin (f2n 4 (fC (.val (.int 1)))) gAdd) (.nm 4))))
def B_least_rows : Sf := (sSeq (sAsg (fDic (fVar 1) (fTup aNil)) (.nm 2)) (sSeq (sAsg (fLst (aCons (fVar 1) aNil)) (.nm 3)) (sSeq (sAsg (fC (.val (.int 0))) (.nm 4)) (sSeq (sWhile Wc0_least_rows Wb0_least_rows 64) (sRetV 2)))))
def D_least_rows : Df := runDef 2 8 B_least_rows
def B_is_past : Sf := (sRet (fOr (fUn (fPeek 0) (gIsN false)) (fBin (f2nn 1 0) gLt)))
def D_is_past : Df := runDef 2 2 B_is_past
def Ce0_leading_on : Ef := (fBin (f2nn 3 1) (gIn false))
def Ct0_leading_on : Bf := (fTru (fFz (fUn (fFz (fLc [3] (wVal (fBin (f2e (fBin (f2n 0 (fC (.val (.int 2)))) gSub) 2) gSub)) (.nm 3) bYes Ce0_leading_on)) (gBools (·.any id)))))
def Ce1_leading_on : Ef := (fVar 2)
def B_leading_on : Sf := (sRet (fLc [2] (wVal (fVar 1)) (.nm 2) Ct0_leading_on Ce1_leading_on))
def D_leading_on : Df := runDef 2 4 B_leading_on
def B__law_draw : Sf := (sSeq (sFset 0 "turn" (fBin (f2 (fFget 0 "turn") (fC (.val (.int 1)))) gAdd)) (sSeq (sIf (fB (fBin (f2 (fFget 0 "rest") (fC (.val (.int 0)))) gGt)) (sSeq (sAsg (fBin (f2e (fUn (fFz (fFget 0 "rest")) gInt1) 1) gModI) (.nm 2)) (sSeq (sFset 0 "rest" (fBin (f2e (fFget 0 "rest") 1) gDivI)) (sRetV 2))) sNil) (sSeq (sPar (fFget 0 "cells") (fFget 0 "spot") 3 4) (sSeq (sFset 0 "spot" (fBin (f2n 4 (fC (.val (.int 1)))) gAdd)) (sSeq (sAsg (fIf (fB (fBin (f2n 3 (fLst aNil)) (gEq true))) (fBin (f2n 3 (fBin (f2 (fUn (fPeek 4) gInt1) (fUn (fPeek 3) gLen)) gModI)) gSub) (fC (.val (.int 80803)))) (.nm 5)) (sSeq (sIf (bAnd (fB (fBin (f2n 5 (fBin (f2 (fC (.val (.int 10))) (fC (.val (.int 18)))) gPowI)) gGe)) (fB (fBin (f2n 4 (fUn (fPeek 3) gLen)) gLt))) (sSeq (sFset 0 "rest" (fBin (f2nn 5 1) gDivI)) (sRet (fBin (f2e (fUn (fPeek 5) gInt1) 1) gModI))) sNil) (sSeq (sAsg (fBin (f2 (fUn (fFz (fBin (f2 (fBin (f2 (fBin (f2 (fUn (fPeek 5) gInt1) (fC (.val (.int 1999712921)))) gModI) (fBin (f2 (fC (.val (.int 108413))) (fFget 0 "turn")) gMul)) gAdd) (fC (.val (.int 8117)))) gAdd)) gInt1) (fC (.val (.int 2147310857)))) gModI) (.nm 6)) (sSeq (sAsg (fBin (f2 (fUn (fFz (fBin (f2 (fBin (f2 (fBin (f2nn 6 6) gMul) (fBin (f2 (fC (.val (.int 30813061))) (fFget 0 "turn")) gMul)) gAdd) (fC (.val (.int 853)))) gAdd)) gInt1) (fC (.val (.int 2147310839)))) gModI) (.nm 6)) (sRet (fBin (f2e (fUn (fFz (fBin (f2 (fBin (f2 (fUn (fFz (fBin (f2 (fBin (f2nn 6 6) gMul) (fBin (f2e (fC (.val (.int 8419))) 6) gMul)) gAdd)) gInt1) (fC (.val (.int 2147199931)))) gModI) (fC (.val (.int 4)))) gDivI)) gInt1) 1) gModI))))))))))
def D__law_draw : Df := runDef 2 7 B__law_draw
def B__law_same : Sf := (sRet (fBin (f2 (fUn (fPeek 0) gRepr) (fUn (fPeek 1) gRepr)) gEqS))
def D__law_same : Df := runDef 2 2 B__law_same
def L0__law_come_from : Sf := (sSetK 2 (fC (.val (.bool true))) (fVar 5))
def L1__law_come_from : Sf := (sForW (wVal (fBin (f2e (fBin (f2n 0 (fC (.val (.int 2)))) gSub) 4) gSub)) (.nm 5) L0__law_come_from)
def L2__law_come_from : Sf := (sForW (wVal (fUn (fPeek 2) gList)) (.nm 4) L1__law_come_from)
def B__law_come_from : Sf := (sSeq (sAsg (fDic (fVar 1) (fC (.val (.bool true)))) (.nm 2)) (sSeq (sForW (wRange1 (fUn (fFz (fBin (f2n 0 (fC (.val (.int 2)))) gSub)) gLen)) (.nm 3) L2__law_come_from) (sRet (fUn (fPeek 2) gSorted))))
def D__law_come_from : Df := runDef 2 6 B__law_come_from
def Ce0__law_is_way : Ef := (fAnd (fUn (fPeek 2) (gIsi "str")) (fBin (f2n 2 (fBin (f2n 0 (fC (.val (.int 0)))) gSub)) (gIn false)))
def B__law_is_way : Sf := (sSeq (sIf (bNot (fTru (fFz (fUn (fPeek 1) (gIsi "tuple"))))) (sRet (fC (.val (.bool false)))) sNil) (sRet (fUn (fFz (fLc [2] (wVal (fVar 1)) (.nm 2) bYes Ce0__law_is_way)) (gBools (·.all id)))))
def D__law_is_way : Df := runDef 2 3 B__law_is_way
def L0__law_gone : Sf := (sSeq (sAsg (fBin (f2 (fBin (f2e (fBin (f2n 0 (fC (.val (.int 2)))) gSub) 1) gSub) (fIdx (fBin (f2n 0 (fC (.val (.int 0)))) gSub) (fVar 4))) gSub) (.nm 1)) (sExpr (fApp 3 (fVar 1))))
def B__law_gone : Sf := (sSeq (sAsg (fLst aNil) (.nm 3)) (sSeq (sForW (wVal (fVar 2)) (.nm 4) L0__law_gone) (sRetV 3)))
def D__law_gone : Df := runDef 3 5 B__law_gone
def B_is_number : Sf := (sRet (fAnd (fCall D_is_integer (aCons (fVar 0) aNil)) (fBin (f2n 0 (fC (.val (.int 0)))) gGe)))
def D_is_number : Df := runDef 1 1 B_is_number
def Ce0_are_names : Ef := (fCall D_is_name (aCons (fVar 2) aNil))
def B_are_names : Sf := (sSeq (sIf (bOr (bNot (fTru (fFz (fUn (fPeek 0) (gIsi "tuple"))))) (fB (fBin (f2e (fUn (fPeek 0) gLen) 1) gLt))) (sRet (fC (.val (.bool false)))) sNil) (sRet (fAnd (fUn (fFz (fLc [2] (wVal (fVar 0)) (.nm 2) bYes Ce0_are_names)) (gBools (·.all id))) (fCall D_ascends (aCons (fVar 0) aNil)))))
def D_are_names : Df := runDef 2 3 B_are_names
def Ct0_other_states : Bf := (fB (fBin (f2e (fCall D_answer_at (aCons (fVar 0) (aCons (fVar 4) (aCons (fVar 1) aNil)))) 3) (gEq true)))
def Ce0_other_states : Ef := (fVar 4)
def B_other_states : Sf := (sSeq (sAsg (fCall D_answer_at (aCons (fVar 0) (aCons (fVar 2) (aCons (fVar 1) aNil)))) (.nm 3)) (sRet (fLc [4] (wKeys (fCall D_least_rows (aCons (fVar 0) (aCons (fVar 2) aNil)))) (.nm 4) Ct0_other_states Ce0_other_states)))
def D_other_states : Df := runDef 3 5 B_other_states
def B__law_any : Sf := (sRet (fBin (f2n 1 (fCall D__law_draw (aCons (fVar 0) (aCons (fUn (fPeek 1) gLen) aNil)))) gSub))
def D__law_any : Df := runDef 2 2 B__law_any
def L0__law_name : Sf := (sPar (fBin (f2n 3 (fBin (f2 (fC (.val (.str "mnbvcxzlkjhgfdsapoiuytrewq"))) (fBin (f2 (fUn (fPeek 2) gInt1) (fC (.val (.int 26)))) gModI)) gSub)) gAdd) (fBin (f2n 2 (fC (.val (.int 26)))) gDivI) 3 2)
def B__law_name : Sf := (sSeq (sPar (fBin (f2 (fC (.val (.int 1))) (fCall D__law_draw (aCons (fVar 0) (aCons (fC (.val (.int 8))) aNil)))) gAdd) (fCall D__law_draw (aCons (fVar 0) (aCons (fC (.val (.int 456976))) aNil))) 1 2) (sSeq (sAsg (fC (.val (.str ""))) (.nm 3)) (sSeq (sForW (wRange1 (fC (.val (.int 4)))) (.nm 4) L0__law_name) (sSeq (sAsg (fCut (fBin (f2n 3 (fRevS (fVar 3))) gAdd) oNone (oSome (fVar 1))) (.nm 3)) (sRet (fIf (fB (fBin (f2n 3 (fC (.val (.str "any")))) (gEq true))) (fVar 3) (fC (.val (.str "ayn")))))))))
def D__law_name : Df := runDef 1 5 B__law_name
def Ct0__law_ages : Bf := (fB (fBin (f2 (fBin (f2e (fBin (f2e (fBin (f2n 0 (fC (.val (.int 3)))) gSub) 8) gSub) 1) gSub) (fBin (f2e (fBin (f2e (fBin (f2n 0 (fC (.val (.int 3)))) gSub) 3) gSub) 1) gSub)) (gEq true)))
def Ce0__law_ages : Ef := (fVar 8)
def Ct1__law_ages : Bf := (fB (fBin (f2nn 8 5) (gIn false)))
def Ce1__law_ages : Ef := (fVar 8)
def Ct2__law_ages : Bf := (fB (fBin (f2n 8 (fBin (f2e (fBin (f2n 0 (fC (.val (.int 2)))) gSub) 9) gSub)) (gIn false)))
def Ce2__law_ages : Ef := (fVar 9)
def Ct3__law_ages : Bf := (fB (fBin (f2 (fLc [9] (wVal (fVar 6)) (.nm 9) Ct2__law_ages Ce2__law_ages) (fLst aNil)) (gEq true)))
def Ce3__law_ages : Ef := (fVar 8)
def L0__law_ages : Sf := (sSeq (sIf (fB (fBin (f2n 6 (fLst aNil)) (gEq false))) sBreak sNil) (sSeq (sSetL 2 (fC (.val (.bool true))) (fVar 7)) (sAsg (fLc [8] (wVal (fVar 4)) (.nm 8) Ct3__law_ages Ce3__law_ages) (.nm 6))))
def L1__law_ages : Sf := (sSeq (sAsg (fLc [8] (wRange1 (fUn (fFz (fBin (f2n 0 (fC (.val (.int 2)))) gSub)) gLen)) (.nm 8) Ct0__law_ages Ce0__law_ages) (.nm 4)) (sSeq (sAsg (fCall D__law_come_from (aCons (fVar 0) (aCons (fVar 3) aNil))) (.nm 5)) (sSeq (sAsg (fLc [8] (wVal (fVar 4)) (.nm 8) Ct1__law_ages Ce1__law_ages) (.nm 6)) (sForW (wRange1 (fC (.val (.int 9)))) (.nm 7) L0__law_ages))))
def B__law_ages : Sf := (sSeq (sAsg (fBin (f2 (fLst (aCons (fC (.val (.bool false))) aNil)) (fC (.val (.int 9)))) gMul) (.nm 2)) (sSeq (sForW (wVal (fCall D__law_come_from (aCons (fVar 0) (aCons (fC (.val (.int 0))) aNil)))) (.nm 3) L1__law_ages) (sRetV 2)))
def D__law_ages : Df := runDef 2 10 B__law_ages
def Ct0__law_is_walk : Bf := (fB (fBin (f2 (fBin (f2e (fBin (f2e (fBin (f2n 0 (fC (.val (.int 3)))) gSub) 6) gSub) 1) gSub) (fBin (f2e (fBin (f2e (fBin (f2n 0 (fC (.val (.int 3)))) gSub) 4) gSub) 1) gSub)) (gEq false)))
def Ce0__law_is_walk : Ef := (fVar 6)
def B__law_is_walk : Sf := (sSeq (sIf (bOr (bNot (fTru (fFz (fUn (fPeek 3) (gIsi "tuple"))))) (fB (fBin (f2 (fUn (fPeek 3) gLen) (fC (.val (.int 2)))) (gEq true)))) (sRet (fC (.val (.bool false)))) sNil) (sSeq (sIf (bOr (bNot (fTru (fFz (fCall D__law_is_way (aCons (fVar 0) (aCons (fBin (f2n 3 (fC (.val (.int 0)))) gSub) aNil)))))) (bOr (bNot (fTru (fFz (fCall D__law_is_way (aCons (fVar 0) (aCons (fBin (f2n 3 (fC (.val (.int 1)))) gSub) aNil)))))) (fB (fBin (f2e (fUn (fFz (fBin (f2n 3 (fC (.val (.int 1)))) gSub)) gLen) 2) gLe)))) (sRet (fC (.val (.bool false)))) sNil) (sSeq (sAsg (fBin (f2 (fBin (f2 (fLst (aCons (fC (.val (.int 0))) aNil)) (fCall D__law_gone (aCons (fVar 0) (aCons (fC (.val (.int 0))) (aCons (fBin (f2n 3 (fC (.val (.int 0)))) gSub) aNil))))) gAdd) (fNeg (fC (.val (.int 1))))) gSub) (.nm 4)) (sSeq (sAsg (fCut (fCall D__law_gone (aCons (fVar 0) (aCons (fVar 4) (aCons (fBin (f2n 3 (fC (.val (.int 1)))) gSub) aNil)))) (oSome (fBin (f2e (fBin (f2 (fUn (fFz (fBin (f2n 3 (fC (.val (.int 1)))) gSub)) gLen) (fC (.val (.int 1)))) gSubI) 2) gSubI)) oNone) (.nm 5)) (sRet (fBin (f2 (fLc [6] (wVal (fVar 5)) (.nm 6) Ct0__law_is_walk Ce0__law_is_walk) (fLst aNil)) (gEq false)))))))
def D__law_is_walk : Df := runDef 4 7 B__law_is_walk
def Ce0_are_numbers : Ef := (fCall D_is_number (aCons (fVar 2) aNil))
def B_are_numbers : Sf := (sRet (fAnd (fCall D_is_tuple (aCons (fVar 0) (aCons (fVar 1) aNil))) (fUn (fFz (fLc [2] (wVal (fVar 0)) (.nm 2) bYes Ce0_are_numbers)) (gBools (·.all id)))))
def D_are_numbers : Df := runDef 2 3 B_are_numbers
def Wc0_longest_stay : Bf := (fB (fBin (f2n 3 (fLst aNil)) (gEq true)))
def Wb0_longest_stay : Sf := (sSeq (sAsg (fBin (f2n 4 (fC (.val (.int 1)))) gAdd) (.nm 4)) (sSeq (sIf (fB (fBin (f2n 4 (fUn (fFz (fBin (f2n 0 (fC (.val (.int 2)))) gSub)) gLen)) gGt)) (sRet (fC (.val .none))) sNil) (sAsg (fCall D_leading_on (aCons (fVar 0) (aCons (fVar 3) aNil))) (.nm 3))))
def B_longest_stay : Sf := (sSeq (sAsg (fCall D_other_states (aCons (fVar 0) (aCons (fVar 1) (aCons (fVar 2) aNil)))) (.nm 3)) (sSeq (sAsg (fC (.val (.int 0))) (.nm 4)) (sSeq (sWhile Wc0_longest_stay Wb0_longest_stay 64) (sRetV 4))))
def D_longest_stay : Df := runDef 3 5 B_longest_stay
def L0_leaving_row : Sf := (sExpr (fApp 4 (fCall D_leading_on (aCons (fVar 0) (aCons (fBin (f2n 4 (fNeg (fC (.val (.int 1))))) gSub) aNil)))))
def Ct0_leaving_row : Bf := (fB (fBin (f2nn 11 8) (gIn false)))
def Ce0_leaving_row : Ef := (fVar 10)
def L1_leaving_row : Sf := (sSeq (sAsg (fUn (fFz (fLc [10, 11] (wEnum (fBin (f2e (fBin (f2n 0 (fC (.val (.int 2)))) gSub) 6) gSub)) (.tp [(.nm 10), (.nm 11)]) Ct0_leaving_row Ce0_leaving_row)) (gExtL minI)) (.nm 9)) (sSeq (sAsg (fBin (f2n 7 (fTup (aCons (fBin (f2e (fBin (f2n 0 (fC (.val (.int 0)))) gSub) 9) gSub) aNil))) gAdd) (.nm 7)) (sAsg (fBin (f2e (fBin (f2e (fBin (f2n 0 (fC (.val (.int 2)))) gSub) 6) gSub) 9) gSub) (.nm 6))))
def B_leaving_row : Sf := (sSeq (sAsg (fLst (aCons (fCall D_other_states (aCons (fVar 0) (aCons (fVar 1) (aCons (fVar 2) aNil)))) aNil)) (.nm 4)) (sSeq (sForW (wRange1 (fVar 3)) (.nm 5) L0_leaving_row) (sSeq (sAsg (fBin (f2 (fBin (f2n 4 (fNeg (fC (.val (.int 1))))) gSub) (fC (.val (.int 0)))) gSub) (.nm 6)) (sSeq (sAsg (fBin (f2e (fCall D_least_rows (aCons (fVar 0) (aCons (fVar 2) aNil))) 6) gSub) (.nm 7)) (sSeq (sForW (wRev (fUn (fFz (fCutN 4 oNone (oSome (fNeg (fC (.val (.int 1))))))) gList)) (.nm 8) L1_leaving_row) (sRetV 7))))))
def D_leaving_row : Df := runDef 4 12 B_leaving_row
def L0__law_names : Sf := (sSeq (sAsg (fCall D__law_name (aCons (fVar 0) aNil)) (.nm 4)) (sAsg (fIf (fB (fBin (f2nn 4 2) (gIn true))) (fBin (f2n 2 (fLst (aCons (fVar 4) aNil))) gAdd) (fVar 2)) (.nm 2)))
def L1__law_names : Sf := (sAsg (fIf (bAnd (fB (fBin (f2nn 4 2) (gIn true))) (fB (fBin (f2e (fUn (fPeek 2) gLen) 1) gLt))) (fBin (f2n 2 (fLst (aCons (fVar 4) aNil))) gAdd) (fVar 2)) (.nm 2))
def B__law_names : Sf := (sSeq (sAsg (fLst aNil) (.nm 2)) (sSeq (sForW (wRange1 (fVar 1)) (.nm 3) L0__law_names) (sSeq (sForW (wVal (fLst (aCons (fC (.val (.str "b"))) (aCons (fC (.val (.str "bb"))) (aCons (fC (.val (.str "left"))) (aCons (fC (.val (.str "right"))) aNil)))))) (.nm 4) L1__law_names) (sRet (fUn (fFz (fUn (fPeek 2) gSorted)) gTupleOf)))))
def D__law_names : Df := runDef 2 5 B__law_names
def B__law_move : Sf := (sSeq (sIf (bOr (fB (fBin (f2n 1 (fC (.val (.int 0)))) (gEq false))) (fB (fBin (f2n 3 (fC (.val (.int 1)))) (gEq false)))) (sRet (fCall D__law_draw (aCons (fVar 0) (aCons (fVar 3) aNil)))) sNil) (sSeq (sIf (fB (fBin (f2n 1 (fC (.val (.int 1)))) (gEq false))) (sRet (fIf (fB (fBin (f2 (fCall D__law_draw (aCons (fVar 0) (aCons (fC (.val (.int 8))) aNil))) (fC (.val (.int 0)))) gGt)) (fBin (f2e (fUn (fFz (fBin (f2n 2 (fC (.val (.int 1)))) gAdd)) gInt1) 3) gModI) (fCall D__law_draw (aCons (fVar 0) (aCons (fVar 3) aNil))))) sNil) (sSeq (sIf (fB (fBin (f2n 1 (fC (.val (.int 2)))) (gEq false))) (sRet (fCall D__law_any (aCons (fVar 0) (aCons (fLst (aCons (fUn (fFz (fLst (aCons (fBin (f2n 2 (fC (.val (.int 1)))) gAdd) (aCons (fBin (f2n 3 (fC (.val (.int 1)))) gSubI) aNil)))) (gExtL minI)) (aCons (fUn (fFz (fLst (aCons (fBin (f2n 2 (fC (.val (.int 1)))) gAdd) (aCons (fBin (f2n 3 (fC (.val (.int 1)))) gSubI) aNil)))) (gExtL minI)) (aCons (fUn (fFz (fLst (aCons (fBin (f2n 2 (fC (.val (.int 1)))) gSubI) (aCons (fC (.val (.int 0))) aNil)))) gMax) aNil)))) aNil)))) sNil) (sRet (fCall D__law_any (aCons (fVar 0) (aCons (fLst (aCons (fUn (fFz (fLst (aCons (fBin (f2n 2 (fC (.val (.int 1)))) gAdd) (aCons (fBin (f2n 3 (fC (.val (.int 1)))) gSubI) aNil)))) (gExtL minI)) (aCons (fUn (fFz (fLst (aCons (fBin (f2n 2 (fC (.val (.int 1)))) gAdd) (aCons (fBin (f2n 3 (fC (.val (.int 1)))) gSubI) aNil)))) (gExtL minI)) (aCons (fVar 2) (aCons (fC (.val (.int 0))) aNil))))) aNil)))))))
def D__law_move : Df := runDef 4 4 B__law_move
def Ce0__law_way : Ef := (fCall D__law_any (aCons (fVar 0) (aCons (fBin (f2n 1 (fC (.val (.int 0)))) gSub) aNil)))
def B__law_way : Sf := (sRet (fUn (fFz (fLc [3] (wRange1 (fCall D__law_draw (aCons (fVar 0) (aCons (fBin (f2n 2 (fC (.val (.int 1)))) gAdd) aNil)))) (.nm 3) bYes Ce0__law_way)) gTupleOf))
def D__law_way : Df := runDef 3 4 B__law_way
def L0_machine_fault : Sf := (sIf (bOr (bNot (fTru (fFz (fCall D_are_numbers (aCons (fVar 6) (aCons (fUn (fPeek 1) gLen) aNil)))))) (fB (fBin (f2 (fUn (fPeek 6) gMax) (fUn (fPeek 3) gLen)) gGe))) (sRet (fTup (aCons (fC (.val (.str "move"))) (aCons (fVar 5) aNil)))) sNil)
def L1_machine_fault : Sf := (sIf (bNot (fTru (fFz (fCall D_are_numbers (aCons (fVar 6) (aCons (fUn (fPeek 2) gLen) aNil)))))) (sRet (fTup (aCons (fC (.val (.str "answer"))) (aCons (fVar 5) aNil)))) sNil)
def B_machine_fault : Sf := (sSeq (sIf (bNot (fTru (fFz (fCall D_is_tuple (aCons (fVar 0) (aCons (fC (.val (.int 4))) aNil)))))) (sRet (fTup (aCons (fC (.val (.str "shape"))) (aCons (fNeg (fC (.val (.int 1)))) aNil)))) sNil) (sSeq (sAsg (fVar 0) (.tp [(.nm 1), (.nm 2), (.nm 3), (.nm 4)])) (sSeq (sIf (bNot (fTru (fFz (fCall D_are_names (aCons (fVar 1) (aCons (fC (.val (.int 2))) aNil)))))) (sRet (fTup (aCons (fC (.val (.str "letters"))) (aCons (fNeg (fC (.val (.int 1)))) aNil)))) sNil) (sSeq (sIf (bNot (fTru (fFz (fCall D_are_names (aCons (fVar 2) (aCons (fC (.val (.int 1))) aNil)))))) (sRet (fTup (aCons (fC (.val (.str "looks"))) (aCons (fNeg (fC (.val (.int 1)))) aNil)))) sNil) (sSeq (sIf (bOr (bNot (fTru (fFz (fUn (fPeek 3) (gIsi "tuple"))))) (bNot (fTru (fPeek 3)))) (sRet (fTup (aCons (fC (.val (.str "moves"))) (aCons (fNeg (fC (.val (.int 1)))) aNil)))) sNil) (sSeq (sForW (wEnum (fVar 3)) (.tp [(.nm 5), (.nm 6)]) L0_machine_fault) (sSeq (sIf (bNot (fTru (fFz (fCall D_is_tuple (aCons (fVar 4) (aCons (fUn (fPeek 3) gLen) aNil)))))) (sRet (fTup (aCons (fC (.val (.str "answers"))) (aCons (fNeg (fC (.val (.int 1)))) aNil)))) sNil) (sSeq (sForW (wEnum (fVar 4)) (.tp [(.nm 5), (.nm 6)]) L1_machine_fault) (sRet (fC (.val .none)))))))))))
def D_machine_fault : Df := runDef 1 7 B_machine_fault
def L0_walk_past : Sf := (sIf (fTru (fFz (fCall D_is_past (aCons (fCall D_longest_stay (aCons (fVar 0) (aCons (fVar 1) (aCons (fVar 3) aNil)))) (aCons (fVar 2) aNil))))) (sRet (fTup (aCons (fVar 4) (aCons (fCall D_leaving_row (aCons (fVar 0) (aCons (fVar 1) (aCons (fVar 3) (aCons (fVar 2) aNil))))) aNil)))) sNil)
def B_walk_past : Sf := (sSeq (sForW (wItems (fCall D_least_rows (aCons (fVar 0) (aCons (fC (.val (.int 0))) aNil)))) (.tp [(.nm 3), (.nm 4)]) L0_walk_past) (sRet (fC (.val .none))))
def D_walk_past : Df := runDef 3 5 B_walk_past
def Ce0_least_age_of : Ef := (fCall D_longest_stay (aCons (fVar 0) (aCons (fVar 1) (aCons (fVar 3) aNil))))
def B_least_age_of : Sf := (sSeq (sAsg (fLc [3] (wKeys (fCall D_least_rows (aCons (fVar 0) (aCons (fC (.val (.int 0))) aNil)))) (.nm 3) bYes Ce0_least_age_of) (.nm 2)) (sRet (fIf (fB (fBin (f2e (fC (.val .none)) 2) (gIn false))) (fC (.val .none)) (fUn (fPeek 2) gMax))))
def D_least_age_of : Df := runDef 2 4 B_least_age_of
def Ce0__law_box : Ef := (fCall D__law_move (aCons (fVar 0) (aCons (fVar 1) (aCons (fVar 8) (aCons (fVar 2) aNil)))))
def Ce1__law_box : Ef := (fIf (fB (fBin (f2n 7 (fC (.val (.int 9)))) gLt)) (fCall D__law_draw (aCons (fVar 0) (aCons (fVar 7) aNil))) (fBin (f2n 7 (fCall D__law_draw (aCons (fVar 0) (aCons (fC (.val (.int 3))) aNil)))) gSubI))
def Ce2__law_box : Ef := (fIf (fB (fBin (f2 (fCall D__law_draw (aCons (fVar 0) (aCons (fC (.val (.int 3))) aNil))) (fC (.val (.int 0)))) (gEq false))) (fVar 8) (fVar 11))
def L0__law_box : Sf := (sSeq (sExpr (fApp 5 (fUn (fFz (fLc [10] (wRange1 (fUn (fPeek 3) gLen)) (.nm 10) bYes Ce0__law_box)) gTupleOf))) (sSeq (sAsg (fLc [10] (wRange1 (fUn (fPeek 4) gLen)) (.nm 10) bYes Ce1__law_box) (.nm 9)) (sExpr (fApp 6 (fUn (fFz (fLc [11] (wVal (fVar 9)) (.nm 11) bYes Ce2__law_box)) gTupleOf)))))
def B__law_box : Sf := (sSeq (sAsg (fTup (aCons (fCall D__law_draw (aCons (fVar 0) (aCons (fC (.val (.int 4))) aNil))) (aCons (fBin (f2 (fC (.val (.int 1))) (fCall D__law_any (aCons (fVar 0) (aCons (fLst (aCons (fC (.val (.int 0))) (aCons (fC (.val (.int 1))) (aCons (fC (.val (.int 2))) (aCons (fC (.val (.int 3))) (aCons (fC (.val (.int 4))) (aCons (fC (.val (.int 5))) (aCons (fC (.val (.int 5))) (aCons (fC (.val (.int 4))) aNil))))))))) aNil)))) gAdd) aNil))) (.tp [(.nm 1), (.nm 2)])) (sSeq (sPar (fCall D__law_names (aCons (fVar 0) (aCons (fBin (f2 (fC (.val (.int 2))) (fCall D__law_any (aCons (fVar 0) (aCons (fLst (aCons (fC (.val (.int 0))) (aCons (fC (.val (.int 0))) (aCons (fC (.val (.int 1))) (aCons (fC (.val (.int 2))) aNil))))) aNil)))) gAdd) aNil))) (fCall D__law_names (aCons (fVar 0) (aCons (fBin (f2 (fC (.val (.int 1))) (fCall D__law_draw (aCons (fVar 0) (aCons (fC (.val (.int 3))) aNil)))) gAdd) aNil))) 3 4) (sSeq (sPar (fLst aNil) (fLst aNil) 5 6) (sSeq (sAsg (fCall D__law_any (aCons (fVar 0) (aCons (fLst (aCons (fC (.val (.int 1))) (aCons (fC (.val (.int 2))) (aCons (fC (.val (.int 3))) (aCons (fVar 2) (aCons (fBin (f2 (fC (.val (.int 10))) (fC (.val (.int 40)))) gPowI) aNil)))))) aNil))) (.nm 7)) (sSeq (sForW (wRange1 (fVar 2)) (.nm 8) L0__law_box) (sRet (fTup (aCons (fVar 3) (aCons (fVar 4) (aCons (fUn (fPeek 5) gTupleOf) (aCons (fUn (fPeek 6) gTupleOf) aNil)))))))))))
def D__law_box : Df := runDef 1 12 B__law_box
def B__law_things : Sf := (sSeq (sPar (fCall D__law_way (aCons (fVar 0) (aCons (fVar 1) (aCons (fC (.val (.int 4))) aNil)))) (fCall D__law_way (aCons (fVar 0) (aCons (fVar 1) (aCons (fC (.val (.int 12))) aNil)))) 4 5) (sSeq (sAsg (fLst (aCons (fVar 3) (aCons (fTup (aCons (fVar 4) (aCons (fVar 5) aNil))) (aCons (fTup (aCons (fVar 4) (aCons (fCut (fBin (f2n 5 (fC (.val (.int 12)))) gMul) oNone (oSome (fBin (f2n 2 (fC (.val (.int 1)))) gAdd))) aNil))) (aCons (fTup (aCons (fTup aNil) (aCons (fVar 5) aNil))) (aCons (fTup (aCons (fVar 5) (aCons (fVar 4) aNil))) (aCons (fTup (aCons (fBin (f2n 4 (fC (.val (.int 9)))) gMul) (aCons (fBin (f2n 5 (fC (.val (.int 5)))) gMul) aNil))) aNil))))))) (.nm 6)) (sSeq (sIf (fB (fUn (fPeek 3) (gIsN true))) (sSeq (sAsg (fVar 3) (.tp [(.nm 4), (.nm 5)])) (sSeq (sAsg (fBin (f2n 6 (fLst (aCons (fTup (aCons (fVar 4) (aCons (fCutN 5 (oSome (fC (.val (.int 1)))) oNone) aNil))) (aCons (fTup (aCons (fVar 4) (aCons (fCutN 5 oNone (oSome (fNeg (fC (.val (.int 1)))))) aNil))) (aCons (fTup (aCons (fCutN 4 (oSome (fC (.val (.int 1)))) oNone) (aCons (fVar 5) aNil))) (aCons (fTup (aCons (fBin (f2nn 4 5) gAdd) (aCons (fVar 5) aNil))) aNil)))))) gAdd) (.nm 6)) (sSeq (sExpr (fApp 6 (fTup (aCons (fBin (f2n 4 (fCutN 5 oNone (oSome (fC (.val (.int 1)))))) gAdd) (aCons (fCutN 5 (oSome (fC (.val (.int 1)))) oNone) aNil))))) (sSeq (sAsg (fBin (f2n 6 (fLst (aCons (fTup (aCons (fVar 4) (aCons (fBin (f2e (fCutN 5 oNone (oSome (fC (.val (.int 1))))) 5) gAdd) aNil))) (aCons (fTup (aCons (fVar 4) (aCons (fBin (f2n 5 (fCutN 5 (oSome (fNeg (fC (.val (.int 1))))) oNone)) gAdd) aNil))) (aCons (fTup (aCons (fBin (f2e (fTup (aCons (fBin (f2 (fBin (f2n 1 (fC (.val (.int 0)))) gSub) (fNeg (fC (.val (.int 1))))) gSub) aNil)) 4) gAdd) (aCons (fVar 5) aNil))) aNil))))) gAdd) (.nm 6)) (sAsg (fBin (f2n 6 (fLst (aCons (fTup (aCons (fVar 4) (aCons (fBin (f2e (fBin (f2 (fTup (aCons (fBin (f2 (fBin (f2n 1 (fC (.val (.int 0)))) gSub) (fC (.val (.int 0)))) gSub) aNil)) (fC (.val (.int 30)))) gMul) 5) gAdd) aNil))) (aCons (fTup (aCons (fVar 5) (aCons (fVar 4) aNil))) aNil)))) gAdd) (.nm 6)))))) sNil) (sSeq (sAsg (fCall D__law_draw (aCons (fVar 0) (aCons (fBin (f2 (fUn (fPeek 5) gLen) (fC (.val (.int 1)))) gAdd) aNil))) (.nm 7)) (sSeq (sAsg (fCall D__law_any (aCons (fVar 0) (aCons (fLst (aCons (fC (.val .none)) (aCons (fC (.val (.str ""))) (aCons (fC (.val (.int 0))) (aCons (fC (.val (.bool true))) (aCons (fC (.val (.str "UP"))) (aCons (fTup (aCons (fBin (f2 (fBin (f2n 1 (fC (.val (.int 0)))) gSub) (fC (.val (.int 0)))) gSub) aNil)) (aCons (fBin (f2 (fBin (f2 (fBin (f2n 1 (fC (.val (.int 0)))) gSub) (fC (.val (.int 0)))) gSub) (fC (.val (.str "q")))) gAdd) (aCons (fLst (aCons (fBin (f2 (fBin (f2n 1 (fC (.val (.int 0)))) gSub) (fC (.val (.int 0)))) gSub) aNil)) (aCons (fNeg (fC (.val (.int 1)))) aNil)))))))))) aNil))) (.nm 8)) (sSeq (sAsg (fBin (f2 (fBin (f2 (fCutN 5 oNone (oSome (fVar 7))) (fTup (aCons (fVar 8) aNil))) gAdd) (fCutN 5 (oSome (fVar 7)) oNone)) gAdd) (.nm 9)) (sSeq (sAsg (fBin (f2n 6 (fLst (aCons (fTup (aCons (fVar 4) (aCons (fVar 9) aNil))) (aCons (fTup (aCons (fVar 9) (aCons (fVar 5) aNil))) (aCons (fTup (aCons (fVar 4) (aCons (fUn (fPeek 5) gList) aNil))) (aCons (fTup (aCons (fUn (fPeek 4) gList) (aCons (fVar 5) aNil))) (aCons (fLst (aCons (fVar 4) (aCons (fVar 5) aNil))) aNil))))))) gAdd) (.nm 6)) (sRet (fBin (f2n 6 (fLst (aCons (fTup (aCons (fVar 4) (aCons (fVar 5) (aCons (fTup aNil) aNil)))) (aCons (fTup (aCons (fVar 4) aNil)) (aCons (fTup aNil) (aCons (fC (.val .none)) (aCons (fVar 5) (aCons (fC (.val (.int 0))) (aCons (fC (.val (.str "ab"))) (aCons (fTup (aCons (fVar 4) (aCons (fC (.val .none)) aNil))) (aCons (fTup (aCons (fC (.val (.str ""))) (aCons (fVar 5) aNil))) (aCons (fTup (aCons (fVar 4) (aCons (fBin (f2 (fBin (f2n 1 (fC (.val (.int 0)))) gSub) (fC (.val (.int 0)))) gSub) aNil))) aNil)))))))))))) gAdd)))))))))
def D__law_things : Df := runDef 4 10 B__law_things
def L0__law_long : Sf := (sSeq (sAsg (fBin (f2n 5 (fLst (aCons (fTup (aCons (fVar 3) (aCons (fBin (f2 (fTup (aCons (fVar 6) aNil)) (fBin (f2n 2 (fC (.val (.int 1)))) gAdd)) gMul) aNil))) (aCons (fTup (aCons (fVar 3) (aCons (fBin (f2e (fTup (aCons (fVar 6) aNil)) 2) gMul) aNil))) aNil)))) gAdd) (.nm 5)) (sAsg (fBin (f2n 5 (fLst (aCons (fTup (aCons (fVar 3) (aCons (fBin (f2 (fCut (fBin (f2nn 4 2) gMul) oNone (oSome (fBin (f2n 2 (fC (.val (.int 6)))) gSubI))) (fBin (f2 (fTup (aCons (fVar 6) aNil)) (fC (.val (.int 9)))) gMul)) gAdd) aNil))) (aCons (fTup (aCons (fVar 3) (aCons (fBin (f2n 4 (fBin (f2e (fTup (aCons (fVar 6) aNil)) 2) gMul)) gAdd) aNil))) aNil)))) gAdd) (.nm 5)))
def B__law_long : Sf := (sSeq (sPar (fCall D__law_way (aCons (fVar 0) (aCons (fVar 1) (aCons (fC (.val (.int 2))) aNil)))) (fBin (f2 (fCall D__law_way (aCons (fVar 0) (aCons (fVar 1) (aCons (fC (.val (.int 2))) aNil)))) (fTup (aCons (fCall D__law_any (aCons (fVar 0) (aCons (fBin (f2n 1 (fC (.val (.int 0)))) gSub) aNil))) aNil))) gAdd) 3 4) (sSeq (sAsg (fLst (aCons (fTup (aCons (fVar 3) (aCons (fBin (f2nn 4 2) gMul) aNil))) aNil)) (.nm 5)) (sSeq (sForW (wVal (fBin (f2n 1 (fC (.val (.int 0)))) gSub)) (.nm 6) L0__law_long) (sRetV 5))))
def D__law_long : Df := runDef 3 7 B__law_long
def B_is_machine : Sf := (sRet (fUn (fFz (fCall D_machine_fault (aCons (fVar 0) aNil))) (gIsN false)))
def D_is_machine : Df := runDef 1 1 B_is_machine
def B_need_machine : Sf := (sExpr (fCall D_need (aCons (fCall D_is_machine (aCons (fVar 0) aNil)) (aCons (fC (.val (.str "machine"))) aNil))))
def D_need_machine : Df := runDef 1 1 B_need_machine
def B_need_look : Sf := (sSeq (sExpr (fCall D_need_machine (aCons (fVar 0) aNil))) (sExpr (fCall D_need (aCons (fBin (f2n 1 (fBin (f2n 0 (fC (.val (.int 1)))) gSub)) (gIn false)) (aCons (fC (.val (.str "look"))) aNil)))))
def D_need_look : Df := runDef 2 2 B_need_look
def B_moves_past : Sf := (sSeq (sExpr (fCall D_need_look (aCons (fVar 0) (aCons (fVar 1) aNil)))) (sSeq (sExpr (fCall D_need (aCons (fCall D_is_number (aCons (fVar 2) aNil)) (aCons (fC (.val (.str "age"))) aNil)))) (sRet (fCall D_is_past (aCons (fCall D_least_age_of (aCons (fVar 0) (aCons (fVar 1) aNil))) (aCons (fVar 2) aNil))))))
def D_moves_past : Df := runDef 3 3 B_moves_past
def B_least_look_age : Sf := (sSeq (sExpr (fCall D_need_look (aCons (fVar 0) (aCons (fVar 1) aNil)))) (sRet (fCall D_least_age_of (aCons (fVar 0) (aCons (fVar 1) aNil)))))
def D_least_look_age : Df := runDef 2 2 B_least_look_age
def B_moving_walk : Sf := (sSeq (sExpr (fCall D_need_look (aCons (fVar 0) (aCons (fVar 1) aNil)))) (sSeq (sExpr (fCall D_need (aCons (fCall D_is_number (aCons (fVar 2) aNil)) (aCons (fC (.val (.str "age"))) aNil)))) (sRet (fCall D_walk_past (aCons (fVar 0) (aCons (fVar 1) (aCons (fVar 2) aNil)))))))
def D_moving_walk : Df := runDef 3 3 B_moving_walk
def Ce0_is_moving : Ef := (fBin (f2e (fCall D_answer_at (aCons (fVar 0) (aCons (fVar 9) (aCons (fVar 1) aNil)))) 8) (gEq true))
def B_is_moving : Sf := (sSeq (sExpr (fCall D_need_look (aCons (fVar 0) (aCons (fVar 1) aNil)))) (sSeq (sExpr (fCall D_need (aCons (fCall D_is_number (aCons (fVar 2) aNil)) (aCons (fC (.val (.str "age"))) aNil)))) (sSeq (sIf (bOr (bNot (fTru (fFz (fCall D_is_tuple (aCons (fVar 3) (aCons (fC (.val (.int 2))) aNil)))))) (bOr (bNot (fTru (fFz (fCall D_is_row (aCons (fVar 0) (aCons (fBin (f2n 3 (fC (.val (.int 0)))) gSub) aNil)))))) (bNot (fTru (fFz (fCall D_is_row (aCons (fVar 0) (aCons (fBin (f2n 3 (fC (.val (.int 1)))) gSub) aNil)))))))) (sRet (fC (.val (.bool false)))) sNil) (sSeq (sAsg (fVar 3) (.tp [(.nm 4), (.nm 5)])) (sSeq (sIf (fB (fBin (f2e (fUn (fPeek 5) gLen) 2) gLe)) (sRet (fC (.val (.bool false)))) sNil) (sSeq (sAsg (fBin (f2 (fCall D_come_to (aCons (fVar 0) (aCons (fC (.val (.int 0))) (aCons (fVar 4) aNil)))) (fNeg (fC (.val (.int 1))))) gSub) (.nm 6)) (sSeq (sAsg (fCut (fCall D_come_to (aCons (fVar 0) (aCons (fVar 6) (aCons (fVar 5) aNil)))) (oSome (fBin (f2e (fUn (fPeek 5) gLen) 2) gSubI)) oNone) (.nm 7)) (sSeq (sAsg (fCall D_answer_at (aCons (fVar 0) (aCons (fVar 6) (aCons (fVar 1) aNil)))) (.nm 8)) (sRet (fUn (fFz (fLc [9] (wVal (fVar 7)) (.nm 9) bYes Ce0_is_moving)) (gBools (·.all id))))))))))))
def D_is_moving : Df := runDef 4 10 B_is_moving
def L0__law_are_walks_right : Sf := (sIf (bNot (fTru (fFz (fCall D__law_same (aCons (fCall D_is_moving (aCons (fVar 1) (aCons (fVar 5) (aCons (fVar 3) (aCons (fVar 8) aNil))))) (aCons (fCall D__law_is_walk (aCons (fVar 1) (aCons (fVar 2) (aCons (fVar 3) (aCons (fVar 8) aNil))))) aNil)))))) (sRet (fC (.val (.bool false)))) sNil)
def B__law_are_walks_right : Sf := (sSeq (sPar (fBin (f2e (fBin (f2n 1 (fC (.val (.int 1)))) gSub) 2) gSub) (fCall D_moving_walk (aCons (fVar 1) (aCons (fBin (f2e (fBin (f2n 1 (fC (.val (.int 1)))) gSub) 2) gSub) (aCons (fVar 3) aNil)))) 5 6) (sSeq (sIf (bOr (fB (fBin (f2n 4 (fCall D__law_is_walk (aCons (fVar 1) (aCons (fVar 2) (aCons (fVar 3) (aCons (fVar 6) aNil)))))) (gEq true))) (bAnd (bNot (fTru (fPeek 4))) (fB (fUn (fPeek 6) (gIsN true))))) (sRet (fC (.val (.bool false)))) sNil) (sSeq (sAsg (fCall D_moving_walk (aPick [2, 1, 0] (aCons (fVar 3) (aCons (fVar 5) (aCons (fVar 1) aNil))))) (.nm 7)) (sSeq (sIf (bOr (fB (fBin (f2n 4 (fCall D__law_is_walk (aCons (fVar 1) (aCons (fVar 2) (aCons (fVar 3) (aCons (fVar 7) aNil)))))) (gEq true))) (bAnd (bNot (fTru (fPeek 4))) (fB (fUn (fPeek 7) (gIsN true))))) (sRet (fC (.val (.bool false)))) sNil) (sSeq (sForW (wVal (fCall D__law_things (aCons (fVar 0) (aCons (fVar 1) (aCons (fVar 3) (aCons (fVar 6) aNil)))))) (.nm 8) L0__law_are_walks_right) (sSeq (sIf (bNot (fTru (fFz (fCall D__law_same (aCons (fCall D_is_moving (aPick [3, 2, 1, 0] (aCons (fVar 6) (aCons (fVar 3) (aCons (fVar 5) (aCons (fVar 1) aNil)))))) (aCons (fVar 4) aNil)))))) (sRet (fC (.val (.bool false)))) sNil) (sRet (fOr (fBin (f2n 3 (fC (.val (.int 0)))) (gEq false)) (fCall D__law_same (aCons (fCall D_is_moving (aCons (fVar 1) (aCons (fVar 5) (aCons (fBin (f2n 3 (fC (.val (.int 1)))) gSubI) (aCons (fVar 6) aNil))))) (aCons (fVar 4) aNil)))))))))))
def D__law_are_walks_right : Df := runDef 5 9 B__law_are_walks_right
def L0__law_are_long_right : Sf := (sIf (bNot (fTru (fFz (fCall D__law_same (aCons (fCall D_is_moving (aCons (fVar 1) (aCons (fVar 5) (aCons (fVar 4) (aCons (fVar 7) aNil))))) (aCons (fCall D__law_is_walk (aCons (fVar 1) (aCons (fVar 2) (aCons (fVar 4) (aCons (fVar 7) aNil))))) aNil)))))) (sRet (fC (.val (.bool false)))) sNil)
def B__law_are_long_right : Sf := (sSeq (sPar (fCall D__law_any (aCons (fVar 0) (aCons (fLst (aCons (fC (.val (.int 9))) (aCons (fC (.val (.int 10))) (aCons (fC (.val (.int 12))) (aCons (fC (.val (.int 17))) (aCons (fC (.val (.int 40))) aNil)))))) aNil))) (fBin (f2e (fBin (f2n 1 (fC (.val (.int 1)))) gSub) 2) gSub) 4 5) (sSeq (sAsg (fLst (aCons (fCall D_moves_past (aCons (fVar 1) (aCons (fVar 5) (aCons (fVar 4) aNil)))) (aCons (fCall D_moves_past (aCons (fVar 1) (aCons (fVar 5) (aCons (fBin (f2n 4 (fC (.val (.int 260)))) gAdd) aNil)))) (aCons (fCall D_is_moving (aCons (fVar 1) (aCons (fVar 5) (aCons (fBin (f2 (fC (.val (.int 10))) (fC (.val (.int 59)))) gPowI) (aCons (fTup (aCons (fTup aNil) (aCons (fBin (f2n 1 (fC (.val (.int 0)))) gSub) aNil))) aNil))))) aNil)))) (.nm 6)) (sSeq (sIf (bNot (fTru (fFz (fCall D__law_same (aCons (fVar 6) (aCons (fLst (aCons (fVar 3) (aCons (fVar 3) (aCons (fC (.val (.bool false))) aNil)))) aNil)))))) (sRet (fC (.val (.bool false)))) sNil) (sSeq (sForW (wVal (fCall D__law_long (aCons (fVar 0) (aCons (fVar 1) (aCons (fVar 4) aNil))))) (.nm 7) L0__law_are_long_right) (sRet (fC (.val (.bool true))))))))
def D__law_are_long_right : Df := runDef 4 8 B__law_are_long_right
end K8

set_option Elab.async false
set_option linter.all false
set_option maxRecDepth 100000
set_option maxHeartbeats 1000000
/-! PDr: the functions on data worked out. -/
namespace PD
open PySem PySem.Spec PyProof.Rows L2
/-! ### places -/
@[simp] theorem atI_natE {α : Type} (xs : List α) (n : Nat) : L2.atI xs (n : Int) = xs[n]? := by
  unfold L2.atI ixN
  by_cases h : n < xs.length
  · simp [h]
  · rw [List.getElem?_eq_none (by omega)]
    simp
    omega
@[simp] theorem atI_lit {α : Type} (xs : List α) (n : Nat) : L2.atI xs (no_index (OfNat.ofNat n : Int)) = xs[n]? := atI_natE xs n
@[simp] theorem atI_zero {α : Type} (xs : List α) : L2.atI xs 0 = xs[0]? := atI_natE xs 0
@[simp] theorem atI_one {α : Type} (xs : List α) : L2.atI xs 1 = xs[1]? := atI_natE xs 1
@[simp] theorem atI_neg1 {α : Type} (xs : List α) : L2.atI xs (-1) = xs.getLast? := by
  cases e : xs.reverse with
  | nil =>
    have : xs = [] := by simpa using e
    subst this
    rfl
  | cons a r =>
    have : xs = r.reverse ++ [a] := by
      have := congrArg List.reverse e
      simpa using this
    subst this
    rw [atI_last]
    simp
/-! ### operators -/
theorem gOr_some {g g' : Pl → Pl → Option Pl} {a b c : Pl} (h : g a b = some c) : gOr g g' a b = some c := by unfold gOr; rw [h]
theorem gOr_none {g g' : Pl → Pl → Option Pl} {a b : Pl} (h : g a b = none) : gOr g g' a b = g' a b := by unfold gOr; rw [h]
theorem gOr_right {g g' : Pl → Pl → Option Pl} {a b : Pl} (h : g' a b = none) : gOr g g' a b = g a b := by
  unfold gOr
  rw [h]
  cases g a b <;> rfl
def isNone : PyData → Bool
  | .none => true
  | _ => false
section
variable (i j : Int) (x y : Str) (a b : List PyData) (d e : PyData) (neg : Bool)
@[simp] theorem gAdd_ii : gAdd (.val (.int i)) (.val (.int j)) = some (.val (.int (i + j))) := rfl
@[simp] theorem gAdd_ss : gAdd (.val (.str x)) (.val (.str y)) = if x.length + y.length ≤ sizeLine then some (.val (.str (x ++ y))) else none := by
  by_cases h : x.length + y.length ≤ sizeLine <;> simp [gAdd, gOr, gI, gS, gCatL, gCatT, h]
@[simp] theorem gAdd_ll : gAdd (.val (.list a)) (.val (.list b)) = if a.length + b.length ≤ sizeLine then some (.ownL (a ++ b)) else none := by
  by_cases h : a.length + b.length ≤ sizeLine <;> simp [gAdd, gOr, gI, gS, gCatL, gCatT, h]
@[simp] theorem gAdd_tt : gAdd (.val (.tuple a)) (.val (.tuple b)) = if a.length + b.length ≤ sizeLine then some (.val (.tuple (a ++ b))) else none := by
  by_cases h : a.length + b.length ≤ sizeLine <;> simp [gAdd, gOr, gI, gS, gCatL, gCatT, h]
@[simp] theorem gMul_ii : gMul (.val (.int i)) (.val (.int j)) = if cMulB i j = true then some (.val (.int (i * j))) else none := by
  by_cases h : cMulB i j = true <;> simp [gMul, gOr, gMulI, gI, gRepL, gRepT, h]
@[simp] theorem gMul_li : gMul (.val (.list a)) (.val (.int j)) = if rOk j = true ∧ a.length * j.toNat ≤ sizeLine then some (.ownL (List.replicate j.toNat a).flatten) else none := by
  by_cases h : rOk j = true ∧ a.length * j.toNat ≤ sizeLine
  · simp only [gMul, gOr, gMulI, gI, gRepL, gRepT, if_pos h]
  · simp only [gMul, gOr, gMulI, gI, gRepL, gRepT, if_neg h]
@[simp] theorem gMul_ti : gMul (.val (.tuple a)) (.val (.int j)) = if 1 ≤ j ∧ j ≤ 1000 ∧ a.length ≤ 1000 then some (.val (.tuple (List.replicate j.toNat a).flatten)) else none := by
  by_cases h : 1 ≤ j ∧ j ≤ 1000 ∧ a.length ≤ 1000
  · simp only [gMul, gOr, gMulI, gI, gRepL, gRepT, if_pos h]
  · simp only [gMul, gOr, gMulI, gI, gRepL, gRepT, if_neg h]
@[simp] theorem gSubI_ii : gSubI (.val (.int i)) (.val (.int j)) = some (.val (.int (i - j))) := rfl
@[simp] theorem gModI_ii : gModI (.val (.int i)) (.val (.int j)) = if 0 < j then some (.val (.int (i % j))) else none := by
  by_cases h : 0 < j <;> simp [gModI, gI, h]
@[simp] theorem gDivI_ii : gDivI (.val (.int i)) (.val (.int j)) = if cDivB i j = true then some (.val (.int (i / j))) else none := rfl
@[simp] theorem gPowI_ii : gPowI (.val (.int i)) (.val (.int j)) = if 0 ≤ j ∧ j ≤ 1000000 ∧ i.natAbs < 2 ^ 64 then some (.val (.int (i ^ j.toNat))) else none := by
  by_cases h : 0 ≤ j ∧ j ≤ 1000000 ∧ i.natAbs < 2 ^ 64
  · simp only [gPowI, gI, decide_eq_true h, if_pos h, if_true]
  · simp only [gPowI, gI, decide_eq_false h, if_neg h, Bool.false_eq_true, if_false]
@[simp] theorem gSub_ti : gSub (.val (.tuple a)) (.val (.int i)) = (atI a i).map .val := by
  exact gOr_right rfl
@[simp] theorem gSub_li : gSub (.val (.list a)) (.val (.int i)) = (atI a i).map .val := by
  exact gOr_right rfl
@[simp] theorem gSub_si : gSub (.val (.str x)) (.val (.int i)) = if x.length ≤ sizeLine then (atI x.cps.toList i).map fun c => .val (.str ⟨#[c]⟩) else none := by
  exact gOr_right rfl
@[simp] theorem gSub_dk (kvs : List (Key × PyData)) : gSub (.dic kvs) (.val d) = (keyD d).bind fun k => (lookD kvs k).map .val := rfl
@[simp] theorem gEq_vv : gEq neg (.val d) (.val e) = if SeqAt.shaped d && SeqAt.shaped e then some (.val (.bool (if neg then !PyData.eqv d e else PyData.eqv d e))) else none := rfl
@[simp] theorem gIn_l : gIn neg (.val d) (.val (.list b)) = if SeqAt.shaped d && SeqAt.shaped (.list b) then some (.val (.bool (if neg then !(b.any fun z => PyData.eqv z d) else b.any fun z => PyData.eqv z d))) else none := by
  have h3 : gInS neg (.val d) (.val (.list b)) = none := by unfold gInS; cases d <;> rfl
  exact (gOr_right ((gOr_none h3).trans rfl)).trans (gOr_right rfl)
@[simp] theorem gIn_t : gIn neg (.val d) (.val (.tuple b)) = if SeqAt.shaped d && SeqAt.shaped (.tuple b) then some (.val (.bool (if neg then !(b.any fun z => PyData.eqv z d) else b.any fun z => PyData.eqv z d))) else none := by
  have h3 : gInS neg (.val d) (.val (.tuple b)) = none := by unfold gInS; cases d <;> rfl
  exact (gOr_right ((gOr_none h3).trans rfl)).trans (gOr_none rfl)
@[simp] theorem gIn_s (c : Nat) : gIn neg (.val (.str ⟨#[c]⟩)) (.val (.str y)) = some (.val (.bool (if neg then !decide (c ∈ y.cps.toList) else decide (c ∈ y.cps.toList)))) := rfl
@[simp] theorem gIn_d (kvs : List (Key × PyData)) : gIn neg (.val d) (.dic kvs) = (keyD d).map fun k => .val (.bool (if neg then !(lookD kvs k).isSome else (lookD kvs k).isSome)) := by
  have h3 : gInS neg (.val d) (.dic kvs) = none := by unfold gInS; cases d <;> rfl
  exact (gOr_none (gOr_none rfl)).trans ((gOr_none h3).trans rfl)
@[simp] theorem gLt_ii : gLt (.val (.int i)) (.val (.int j)) = some (.val (.bool (decide (i < j)))) := rfl
@[simp] theorem gLe_ii : gLe (.val (.int i)) (.val (.int j)) = some (.val (.bool (decide (i ≤ j)))) := rfl
@[simp] theorem gGt_ii : gGt (.val (.int i)) (.val (.int j)) = some (.val (.bool (decide (j < i)))) := rfl
@[simp] theorem gGe_ii : gGe (.val (.int i)) (.val (.int j)) = some (.val (.bool (decide (j ≤ i)))) := rfl
@[simp] theorem gLt_ss : gLt (.val (.str x)) (.val (.str y)) = some (.val (.bool (decide (x.cps.toList < y.cps.toList)))) := rfl
@[simp] theorem gIsN_v : gIsN neg (.val d) = some (.val (.bool (if neg then !isNone d else isNone d))) := by cases d <;> cases neg <;> rfl
@[simp] theorem gLen_l : gLen (.val (.list a)) = some (.val (.int a.length)) := rfl
@[simp] theorem gLen_t : gLen (.val (.tuple a)) = some (.val (.int a.length)) := rfl
@[simp] theorem gLen_s : gLen (.val (.str x)) = if x.length ≤ sizeLine then some (.val (.int x.length)) else none := by
  by_cases h : x.length ≤ sizeLine <;> simp [gLen, gOr1, gLenQ, gLenS, gLenD, h]
@[simp] theorem gTupleOf_l : gTupleOf (.val (.list a)) = some (.val (.tuple a)) := rfl
@[simp] theorem gTupleOf_t : gTupleOf (.val (.tuple a)) = some (.val (.tuple a)) := rfl
@[simp] theorem gList_l : gList (.val (.list a)) = some (.ownL a) := rfl
@[simp] theorem gList_t : gList (.val (.tuple a)) = some (.ownL a) := rfl
@[simp] theorem gList_d (kvs : List (Key × PyData)) : gList (.dic kvs) = some (.ownL (kvs.map fun kv => kD kv.1)) := rfl
@[simp] theorem gIsi_v (n : String) : gIsi n (.val d) = some (.val (.bool (isi n d))) := rfl
@[simp] theorem gInt1_i : gInt1 (.val (.int i)) = some (.val (.int i)) := rfl
@[simp] theorem gBools_b (g : List Bool → Bool) (bs : List Bool) : gBools g (.val (.list (bs.map PyData.bool))) = some (.val (.bool (g bs))) := by
  have e : gBools g (.val (.list (bs.map PyData.bool))) = (boolsOf (bs.map PyData.bool)).map fun bs => .val (.bool (g bs)) := rfl
  rw [e, boolsOf_bools]
  rfl
theorem gExtL_i (g : List Int → Option Int) (ns : List Int) : gExtL g (.val (.list (ns.map PyData.int))) = (g ns).map fun m => .val (.int m) := by
  have e : gExtL g (.val (.list (ns.map PyData.int))) = (intsOf (ns.map PyData.int)).bind fun ns => (g ns).map fun m => .val (.int m) := rfl
  rw [e, intsOf_ints]
  rfl
theorem gExtT_i (g : List Int → Option Int) (ns : List Int) : gExtT g (.val (.tuple (ns.map PyData.int))) = (g ns).map fun m => .val (.int m) := by
  have e : gExtT g (.val (.tuple (ns.map PyData.int))) = (intsOf (ns.map PyData.int)).bind fun ns => (g ns).map fun m => .val (.int m) := rfl
  rw [e, intsOf_ints]
  rfl
theorem gOr1_right {g g' : Pl → Option Pl} {a : Pl} (h : g' a = none) : gOr1 g g' a = g a := by
  unfold gOr1
  rw [h]
  cases g a <;> rfl
theorem gOr1_none {g g' : Pl → Option Pl} {a : Pl} (h : g a = none) : gOr1 g g' a = g' a := by unfold gOr1; rw [h]
@[simp] theorem gMax_l (ns : List Int) : gMax (.val (.list (ns.map PyData.int))) = (maxI ns).map fun m => .val (.int m) := (gOr1_right rfl).trans (gExtL_i _ _)
@[simp] theorem gMax_t (ns : List Int) : gMax (.val (.tuple (ns.map PyData.int))) = (maxI ns).map fun m => .val (.int m) := (gOr1_none rfl).trans (gExtT_i _ _)
@[simp] theorem gMin_l (ns : List Int) : gExtL minI (.val (.list (ns.map PyData.int))) = (minI ns).map fun m => .val (.int m) := gExtL_i _ _
theorem gSorted_i {ns : List Int} (h : ns.length < 64) : gSorted (.val (.list (ns.map PyData.int))) = some (.ownL ((sortI ns).map .int)) := by
  have e : gSortI (.val (.list (ns.map PyData.int))) = (intsOf (ns.map PyData.int)).bind fun ns => if ns.length < 64 then some (.ownL ((sortI ns).map .int)) else none := rfl
  have e2 : gSortI (.val (.list (ns.map PyData.int))) = some (.ownL ((sortI ns).map .int)) := by rw [e, intsOf_ints, Option.bind_some, if_pos h]
  unfold gSorted gOr1
  rw [e2]
theorem gSorted_s {ns : List Str} (h : ns.length < 64) (h0 : ns ≠ []) : gSorted (.val (.list (ns.map PyData.str))) = some (.ownL ((sortS ns).map .str)) := by
  have e : gSortS (.val (.list (ns.map PyData.str))) = (strsOf (ns.map PyData.str)).bind fun ns => if ns.length < 64 then some (.ownL ((sortS ns).map .str)) else none := rfl
  have e2 : gSortS (.val (.list (ns.map PyData.str))) = some (.ownL ((sortS ns).map .str)) := by rw [e, strsOf_strs, Option.bind_some, if_pos h]
  have e1 : gSortI (.val (.list (ns.map PyData.str))) = none := by
    cases ns with
    | nil => exact absurd rfl h0
    | cons a r => rfl
  unfold gSorted
  rw [gOr1_none e1]
  unfold gOr1
  rw [e2]
theorem keysI_ints : ∀ kvs : List (Int × PyData), keysI (kvs.map fun p => (Sum.inl p.1, p.2)) = some (kvs.map (·.1))
  | [] => rfl
  | p :: r => by
    show (keysI (r.map fun p => ((Sum.inl p.1 : Key), p.2))).map (p.1 :: ·) = _
    rw [keysI_ints r]
    rfl
theorem gSorted_d {kvs : List (Int × PyData)} (h : kvs.length < 64) : gSorted (.dic (kvs.map fun p => (Sum.inl p.1, p.2))) = some (.ownL ((sortI (kvs.map (·.1))).map .int)) := by
  have e : gSortD (.dic (kvs.map fun p => ((Sum.inl p.1 : Key), p.2))) = (keysI (kvs.map fun p => (Sum.inl p.1, p.2))).bind fun ns => if ns.length < 64 then some (.ownL ((sortI ns).map .int)) else none := rfl
  unfold gSorted
  rw [gOr1_none rfl, gOr1_none rfl, e, keysI_ints, Option.bind_some, if_pos (by simpa using h)]
theorem gIdx_t (ds : List Str) (z : Str) : gIdx (.val (.tuple (ds.map PyData.str))) (.val (.str z)) = (ds.findIdx? fun y => decide (y = z)).map fun j => .val (.int (j : Nat)) := by
  have e : gIdx (.val (.tuple (ds.map PyData.str))) (.val (.str z)) = (strsOf (ds.map PyData.str)).bind fun ys => (ys.findIdx? fun y => decide (y = z)).map fun j => .val (.int (j : Nat)) := rfl
  rw [e, strsOf_strs]
  rfl
/-! ### shapes -/
theorem shaped_int (i : Int) : SeqAt.shaped (.int i) = true := rfl
theorem shaped_bool (i : Bool) : SeqAt.shaped (.bool i) = true := rfl
theorem shaped_none : SeqAt.shaped .none = true := rfl
/-- all signs are code points -/
def okS (x : Str) : Bool := PyData.strOk x
theorem canLayAll_iff : ∀ ds : List PyData, PyData.canLayAll0 ds = ds.all PyData.canLay0
  | [] => rfl
  | d :: r => by simp [PyData.canLayAll0, canLayAll_iff r]
end
end PD

set_option Elab.async false
set_option linter.all false
set_option maxRecDepth 100000
set_option maxHeartbeats 1000000
/-! PDs: each word applied; loops; parts. -/
namespace PD
open PySem PySem.Spec PyProof.Rows L2
@[simp] theorem fPeek_ap (i : Nat) (s : DS) : fPeek i s = match s.env[i]? with
  | some (some sl) => some (fz sl, s)
  | _ => none := rfl
@[simp] theorem fVar_ap (i : Nat) (s : DS) : fVar i s = match s.env[i]? with
  | some (some (.ownL xs)) => some (.val (.list xs), ⟨s.env.set i (some (.val (.list xs))), s.fs⟩)
  | some (some (.ownK k)) => some (.dic k, ⟨s.env.set i (some (.dic k)), s.fs⟩)
  | some (some sl) => some (sl, s)
  | _ => none := rfl
@[simp] theorem fFz_ap (f : Ef) (s : DS) : fFz f s = (f s).map fun (r, s') => (fz r, s') := rfl
@[simp] theorem f2_ap (f g : Ef) (s : DS) : f2 f g s = (f s).bind fun (a, s1) => (g s1).bind fun (b, s2) => some (fz a, fz b, s2) := rfl
@[simp] theorem f2n_ap (i : Nat) (g : Ef) (s : DS) : f2n i g s = (fPeek i s).bind fun _ => (g s).bind fun (b, s2) => (fPeek i s2).bind fun (a, _) => some (a, fz b, s2) := rfl
@[simp] theorem f2e_ap (f : Ef) (j : Nat) (s : DS) : f2e f j s = (f s).bind fun (a, s1) => (fPeek j s1).bind fun (b, _) => some (fz a, b, s1) := rfl
@[simp] theorem f2nn_ap (i j : Nat) (s : DS) : f2nn i j s = (fPeek i s).bind fun (a, _) => (fPeek j s).bind fun (b, _) => some (a, b, s) := rfl
@[simp] theorem fBin_ap (f : DS → Option (Pl × Pl × DS)) (g : Pl → Pl → Option Pl) (s : DS) : fBin f g s = (f s).bind fun (a, b, s') => (g a b).map fun c => (c, s') := rfl
@[simp] theorem fC_ap (r : Pl) (s : DS) : fC r s = some (r, s) := rfl
@[simp] theorem aNil_ap (s : DS) : aNil  s = some ([], s) := rfl
@[simp] theorem aCons_ap (f : Ef) (g : Af) (s : DS) : aCons f g s = (f s).bind fun (a, s1) => (g s1).bind fun (as, s2) => some (fz a :: as, s2) := rfl
@[simp] theorem fTup_ap (g : Af) (s : DS) : fTup g s = (g s).bind fun (as, s') => (valsOf as).bind fun ds => if ds.length ≤ sizeLine then some (.val (.tuple ds), s') else none := rfl
@[simp] theorem fLst_ap (g : Af) (s : DS) : fLst g s = (g s).bind fun (as, s') => (valsOf as).bind fun ds => if ds.length ≤ sizeLine then some (.ownL ds, s') else none := rfl
@[simp] theorem fUn_ap (f : Ef) (g : Pl → Option Pl) (s : DS) : fUn f g s = (f s).bind fun (a, s') => (g a).map fun c => (c, s') := rfl
@[simp] theorem fB_ap (f : Ef) (s : DS) : fB f s = match f s with
  | some (.val (.bool b), s') => some (b, s')
  | _ => none := rfl
@[simp] theorem fTru_ap (f : Ef) (s : DS) : fTru f s = (f s).bind fun (a, s') => (gTru a).map fun b => (b, s') := rfl
@[simp] theorem bAnd_ap (f g : Bf) (s : DS) : bAnd f g s = (f s).bind fun (x, s1) => if x = true then g s1 else some (false, s1) := rfl
@[simp] theorem bOr_ap (f g : Bf) (s : DS) : bOr f g s = (f s).bind fun (x, s1) => if x = true then some (true, s1) else g s1 := rfl
@[simp] theorem bNot_ap (f : Bf) (s : DS) : bNot f s = (f s).map fun (x, s1) => (!x, s1) := rfl
@[simp] theorem fAnd_ap (f g : Ef) (s : DS) : fAnd f g s = (fB f s).bind fun (x, s1) => if x = true then g s1 else some (.val (.bool false), s1) := rfl
@[simp] theorem fOr_ap (f g : Ef) (s : DS) : fOr f g s = (fB f s).bind fun (x, s1) => if x = true then some (.val (.bool true), s1) else g s1 := rfl
@[simp] theorem fNot_ap (f : Ef) (s : DS) : fNot f s = (fB f s).map fun (x, s1) => (.val (.bool (!x)), s1) := rfl
@[simp] theorem fIf_ap (c : Bf) (f g : Ef) (s : DS) : fIf c f g s = (c s).bind fun (x, s1) => if x = true then f s1 else g s1 := rfl
@[simp] theorem fI_ap (f : Ef) (s : DS) : fI f s = match f s with
  | some (.val (.int b), s') => some (b, s')
  | _ => none := rfl
@[simp] theorem bChain_ap (p q : Int → Int → Bool) (fa fb fc : Ef) (s : DS) : bChain p q fa fb fc s = (fI fa s).bind fun (i, s1) => (fI fb s1).bind fun (j, s2) => if p i j = true then (fI fc s2).map fun (k, s3) => (q j k, s3) else some (false, s2) := rfl
@[simp] theorem oNone_ap (s : DS) : oNone  s = some (none, s) := rfl
@[simp] theorem oSome_ap (f : Ef) (s : DS) : oSome f s = (fI f s).map fun (i, s') => (some i, s') := rfl
@[simp] theorem fCut_ap (f : Ef) (l h : Of) (s : DS) : fCut f l h s = (f s).bind fun (x, s1) => (l s1).bind fun (lo, s2) => (h s2).bind fun (hi, s3) => (gCut (fz x) lo hi).map fun r => (r, s3) := rfl
@[simp] theorem fCutN_ap (i : Nat) (l h : Of) (s : DS) : fCutN i l h s = (fPeek i s).bind fun _ => (l s).bind fun (lo, s2) => (h s2).bind fun (hi, s3) => (fPeek i s3).bind fun (x, _) => (gCut x lo hi).map fun r => (r, s3) := rfl
@[simp] theorem fIdx_ap (f g : Ef) (s : DS) : fIdx f g s = (f s).bind fun (x, s1) => (g s1).bind fun (y, s2) => (gIdx (fz x) (fz y)).map fun r => (r, s2) := rfl
@[simp] theorem sNil_ap (s : DS) : sNil  s = some (.nx s) := rfl
@[simp] theorem sSeq_ap (f g : Sf) (s : DS) : sSeq f g s = (f s).bind fun o => match o with
  | .nx s1 => g s1
  | o => some o := rfl
@[simp] theorem sPass_ap (s : DS) : sPass  s = some (.nx s) := rfl
@[simp] theorem sBreak_ap (s : DS) : sBreak  s = some (.bk s) := rfl
@[simp] theorem sCont_ap (s : DS) : sCont  s = some (.ct s) := rfl
@[simp] theorem sExpr_ap (f : Ef) (s : DS) : sExpr f s = (f s).map fun (_, s') => .nx s' := rfl
@[simp] theorem sRet_ap (f : Ef) (s : DS) : sRet f s = (f s).map fun (r, s') => .rt r s' := rfl
@[simp] theorem sRetN_ap (s : DS) : sRetN  s = some (.rt (.val .none) s) := rfl
@[simp] theorem sIf_ap (c : Bf) (f g : Sf) (s : DS) : sIf c f g s = (c s).bind fun (b, s1) => if b = true then f s1 else g s1 := rfl
@[simp] theorem sAsg_ap (f : Ef) (t : Tg) (s : DS) : sAsg f t s = (f s).bind fun (r, s1) => (t.put r s1).map .nx := rfl
@[simp] theorem sPar_ap (f g : Ef) (i j : Nat) (s : DS) : sPar f g i j s = (f s).bind fun (r1, s1) => (g s1).bind fun (r2, s2) => some (.nx ⟨(s2.env.set i (some r1)).set j (some r2), s2.fs⟩) := rfl
@[simp] theorem wVal_ap (f : Ef) (s : DS) : wVal f s = match f s with
  | some (.val (.list ds), s') => some (ds, s')
  | some (.val (.tuple ds), s') => some (ds, s')
  | some (.ownL ds, s') => some (ds, s')
  | _ => none := rfl
@[simp] theorem wRange1_ap (f : Ef) (s : DS) : wRange1 f s = (fI f s).bind fun (n, s') => if rOk n = true then some (rangeD 0 n.toNat, s') else none := rfl
@[simp] theorem wStr_ap (f : Ef) (s : DS) : wStr f s = match f s with
  | some (.val (.str z), s') => some (z.cps.toList.map fun c => .str ⟨#[c]⟩, s')
  | _ => none := rfl
@[simp] theorem wRev_ap (f : Ef) (s : DS) : wRev f s = match f s with
  | some (.val (.list ds), s') => some (ds.reverse, s')
  | some (.ownL ds, s') => some (ds.reverse, s')
  | _ => none := rfl
@[simp] theorem wZip_ap (f g : Ef) (s : DS) : wZip f g s = (f s).bind fun (a, s1) => (g s1).bind fun (b, s2) => match fz a, fz b with
  | .val (.list xs), .val (.list ys) => some (zipD xs ys, s2)
  | .val (.tuple xs), .val (.tuple ys) => some (zipD xs ys, s2)
  | _, _ => none := rfl
@[simp] theorem sForW_ap (w : Wf) (t : Tg) (f : Sf) (s : DS) : sForW w t f s = (w s).bind fun (ds, s1) => sFor t f ds s1 := rfl
@[simp] theorem fLc_ap (vs : List Nat) (w : Wf) (t : Tg) (ft : Bf) (fe : Ef) (s : DS) : fLc vs w t ft fe s = (w s).bind fun (ds, s1) => if plainAt s1.env vs = true then
    (lcLoop vs t ft fe ds [] ⟨wipeE s1.env vs, s1.fs⟩).map fun (xs, s2) => (.ownL xs, ⟨restE s1.env s2.env vs, s2.fs⟩) else none := rfl
@[simp] theorem bYes_ap (s : DS) : bYes  s = some (true, s) := rfl
@[simp] theorem fCall_ap (g : Df) (fa : Af) (s : DS) : fCall g fa s = (fa s).bind fun (as, s1) => (g as s1.fs).map fun (r, fs') => (r, ⟨s1.env, fs'⟩) := rfl
@[simp] theorem aPick_ap (π : List Nat) (f : Af) (s : DS) : aPick π f s = (f s).bind fun (as, s') => if as.length = π.length then some (pick π as, s') else none := rfl
@[simp] theorem fNeg_ap (f : Ef) (s : DS) : fNeg f s = (fI f s).map fun (i, s') => (.val (.int (-i)), s') := rfl
@[simp] theorem fRevS_ap (f : Ef) (s : DS) : fRevS f s = match f s with
  | some (.val (.str z), s') => if z.length ≤ sizeLine then some (.val (.str (revS z)), s') else none
  | _ => none := rfl
@[simp] theorem fApp_ap (i : Nat) (f : Ef) (s : DS) : fApp i f s = match s.env[i]? with
  | some (some (.ownL _)) => (f s).bind fun (r, s1) => match fz r, s1.env[i]? with
    | .val d, some (some (.ownL xs)) => if xs.length < sizeLine then some (.val .none, ⟨s1.env.set i (some (.ownL (xs ++ [d]))), s1.fs⟩) else none
    | _, _ => none
  | _ => none := rfl
@[simp] theorem sSetL_ap (i : Nat) (f g : Ef) (s : DS) : sSetL i f g s = (f s).bind fun (r, s1) => match fz r, s1.env[i]? with
  | .val d, some (some (.ownL _)) => (fI g s1).bind fun (k, s2) => match s2.env[i]? with
    | some (some (.ownL xs)) => (ixN xs.length k).map fun j => .nx ⟨s2.env.set i (some (.ownL (xs.set j d))), s2.fs⟩
    | _ => none
  | _, _ => none := rfl
@[simp] theorem sSetK_ap (i : Nat) (f g : Ef) (s : DS) : sSetK i f g s = (f s).bind fun (r, s1) => match fz r, s1.env[i]? with
  | .val d, some (some (.ownK _)) => (g s1).bind fun (q, s2) => match q, s2.env[i]? with
    | .val kd, some (some (.ownK kvs)) => (keyD kd).bind fun k => if kvs.length < sizeLine then some (.nx ⟨s2.env.set i (some (.ownK (putD kvs k d))), s2.fs⟩) else none
    | _, _ => none
  | _, _ => none := rfl
@[simp] theorem sRetV_ap (i : Nat) (s : DS) : sRetV i s = match s.env[i]? with
  | some (some a) => some (.rt a s)
  | _ => none := rfl
@[simp] theorem wKeys_ap (f : Ef) (s : DS) : wKeys f s = match f s with
  | some (.ownK kvs, s') => some (kvs.map fun kv => kD kv.1, s')
  | _ => none := rfl
@[simp] theorem wItems_ap (f : Ef) (s : DS) : wItems f s = match f s with
  | some (.ownK kvs, s') => some (kvs.map fun kv => .tuple [kD kv.1, kv.2], s')
  | _ => none := rfl
@[simp] theorem fDic_ap (fk fv : Ef) (s : DS) : fDic fk fv s = (fk s).bind fun (q, s1) => (fv s1).bind fun (r, s2) => match q, fz r with
  | .val kd, .val d => (keyD kd).map fun k => (.ownK [(k, d)], s2)
  | _, _ => none := rfl
@[simp] theorem fIdxL_ap (f g : Ef) (s : DS) : fIdxL f g s = (f s).bind fun (x, s1) => (g s1).bind fun (y, s2) => (gIdxL (fz x) (fz y)).map fun r => (r, s2) := rfl
@[simp] theorem wEnum_ap (f : Ef) (s : DS) : wEnum f s = (f s).bind fun (a, s1) => match fz a with
  | .val (.list ds) => some (enumD 0 ds, s1)
  | .val (.tuple ds) => some (enumD 0 ds, s1)
  | _ => none := rfl
@[simp] theorem fFget_ap (i : Nat) (x : Str) (s : DS) : fFget i x s = match s.env[i]? with
  | some (some .fd) => (s.fs.get x).map fun d => (.val d, s)
  | _ => none := rfl
@[simp] theorem sFset_ap (i : Nat) (x : Str) (f : Ef) (s : DS) : sFset i x f s = (fI f s).bind fun (k, s1) => match s1.env[i]? with
  | some (some .fd) => (s1.fs.set x k).map fun fs' => .nx ⟨s1.env, fs'⟩
  | _ => none := rfl

@[simp] theorem runDef_ap (np n : Nat) (f : Sf) (as : List Pl) (fs : FS) : runDef np n f as fs = if as.length = np then match f ⟨startD n as, fs⟩ with
  | some (.nx s') => some (.val .none, s'.fs)
  | some (.rt r s') => some (r, s'.fs)
  | _ => none else none := rfl
@[simp] theorem startD_nil (n : Nat) : startD n [] = List.replicate n none := by simp [startD]
@[simp] theorem startD_cons (n : Nat) (a : Pl) (as : List Pl) : startD (n + 1) (a :: as) = some a :: startD n as := by simp [startD]
@[simp] theorem valsOf_nil : valsOf [] = some [] := rfl
@[simp] theorem valsOf_cons (d : PyData) (r : List Pl) : valsOf (.val d :: r) = (valsOf r).map (d :: ·) := rfl
@[simp] theorem put_nm (i : Nat) (r : Pl) (s : DS) : (Tg.nm i).put r s = some ⟨s.env.set i (some r), s.fs⟩ := by simp [Tg.put]
@[simp] theorem put_tp (l : List Tg) (ds : List PyData) (s : DS) : (Tg.tp l).put (.val (.tuple ds)) s = Tg.putAll l ds s := by simp [Tg.put]
@[simp] theorem putAll_nil (s : DS) : Tg.putAll [] [] s = some s := by simp [Tg.putAll]
@[simp] theorem putAll_cons (t : Tg) (r : List Tg) (d : PyData) (ds : List PyData) (s : DS) : Tg.putAll (t :: r) (d :: ds) s = (t.put (.val d) s).bind fun s1 => Tg.putAll r ds s1 := by simp [Tg.putAll]
@[simp] theorem wipeE_nil (env : List (Option Pl)) : wipeE env [] = env := rfl
@[simp] theorem wipeE_cons (env : List (Option Pl)) (v : Nat) (vs : List Nat) : wipeE env (v :: vs) = (wipeE env vs).set v none := rfl
@[simp] theorem restE_nil (old new : List (Option Pl)) : restE old new [] = new := rfl
@[simp] theorem restE_cons (old new : List (Option Pl)) (v : Nat) (vs : List Nat) : restE old new (v :: vs) = (restE old new vs).set v ((old[v]?).getD none) := rfl
@[simp] theorem gTru_b (b : Bool) : gTru (.val (.bool b)) = some b := rfl
@[simp] theorem gTru_t (ds : List PyData) : gTru (.val (.tuple ds)) = some (!ds.isEmpty) := rfl
@[simp] theorem gTru_l (ds : List PyData) : gTru (.val (.list ds)) = some (!ds.isEmpty) := rfl
/-! ### the feed -/
@[simp] theorem get_turn (f : FS) : f.get "turn" = some (.int f.turn) := by rw [FS.get, if_pos rfl]
@[simp] theorem get_rest (f : FS) : f.get "rest" = some (.int f.rest) := by rw [FS.get, if_neg (by decide), if_pos rfl]
@[simp] theorem get_spot (f : FS) : f.get "spot" = some (.int f.spot) := by rw [FS.get, if_neg (by decide), if_neg (by decide), if_pos rfl]
@[simp] theorem get_cells (f : FS) : f.get "cells" = some (.list (f.cells.map PyData.int)) := by rw [FS.get, if_neg (by decide), if_neg (by decide), if_neg (by decide), if_pos rfl]
@[simp] theorem set_turn (f : FS) (i : Int) : f.set "turn" i = some { f with turn := i } := by rw [FS.set, if_pos rfl]
@[simp] theorem set_rest (f : FS) (i : Int) : f.set "rest" i = some { f with rest := i } := by rw [FS.set, if_neg (by decide), if_pos rfl]
@[simp] theorem set_spot (f : FS) (i : Int) : f.set "spot" i = some { f with spot := i } := by rw [FS.set, if_neg (by decide), if_neg (by decide), if_pos rfl]
/-! ### parts -/
@[simp] theorem gCut_l (ds : List PyData) (lo hi : Option Int) : gCut (.val (.list ds)) lo hi = some (.ownL (cutD ds lo hi)) := rfl
@[simp] theorem gCut_t (ds : List PyData) (lo hi : Option Int) : gCut (.val (.tuple ds)) lo hi = some (.val (.tuple (cutD ds lo hi))) := rfl
@[simp] theorem gCut_s (z : Str) (lo hi : Option Int) : gCut (.val (.str z)) lo hi = if z.length ≤ sizeLine then some (.val (.str (cutS z lo hi))) else none := rfl
theorem cutD_from {α : Type} (xs : List α) (n : Nat) : cutD xs (some (n : Int)) none = xs.drop n := by
  unfold cutD
  rw [HT.sIx_nat, HT.sIx_none]
  by_cases h : n ≤ xs.length
  · rw [Nat.min_eq_left h, List.take_of_length_le (by simp)]
  · rw [Nat.min_eq_right (by omega), List.drop_of_length_le (by omega), List.drop_of_length_le (by omega)]
    simp
theorem cutD_to {α : Type} (xs : List α) (n : Nat) : cutD xs none (some (n : Int)) = xs.take n := by
  unfold cutD
  rw [HT.sIx_nat, HT.sIx_none]
  simp
theorem sIx_m1 (n d : Nat) : HT.sIx n d (some (-1)) = n - 1 := by
  show (if (-1 : Int) < 0 then ((-1 : Int) + (n : Int)).toNat else min (-1 : Int).toNat n) = n - 1
  rw [if_pos (by decide)]
  omega
theorem cutD_front {α : Type} (xs : List α) : cutD xs none (some (-1)) = xs.dropLast := by
  unfold cutD
  rw [HT.sIx_none, List.drop_zero, Nat.sub_zero, List.dropLast_eq_take, sIx_m1]
theorem cutD_last {α : Type} (xs : List α) : cutD xs (some (-1)) none = xs.drop (xs.length - 1) := by
  unfold cutD
  rw [HT.sIx_none, sIx_m1, List.take_of_length_le (by simp)]
@[simp] theorem cutD_1 {α : Type} (xs : List α) : cutD xs (some 1) none = xs.drop 1 := cutD_from xs 1
@[simp] theorem cutD_to1 {α : Type} (xs : List α) : cutD xs none (some 1) = xs.take 1 := cutD_to xs 1
/-! ### loops -/
section
variable {t : Tg} {f : Sf}
theorem sFor_cons (d : PyData) (ds : List PyData) (s : DS) : sFor t f (d :: ds) s = (t.put (.val d) s).bind fun s1 => (f s1).bind fun o => match o with
    | .nx s2 => sFor t f ds s2
    | .ct s2 => sFor t f ds s2
    | .bk s2 => some (.nx s2)
    | .rt r s2 => some (.rt r s2) := rfl
theorem sFor_nil (s : DS) : sFor t f [] s = some (.nx s) := rfl
theorem sFor_typed {α β : Type} (enc : α → PyData) (St : β → DS) (step : β → α → β) : ∀ (xs : List α) (a : β), (∀ a x, x ∈ xs → (t.put (.val (enc x)) (St a)).bind f = some (.nx (St (step a x)))) → sFor t f (xs.map enc) (St a) = some (.nx (St (xs.foldl step a)))
  | [], _, _ => rfl
  | x :: xs, a, h => by
    rw [List.map_cons, sFor_cons]
    have h1 := h a x List.mem_cons_self
    cases e : t.put (.val (enc x)) (St a) with
    | none => rw [e] at h1; cases h1
    | some s1 =>
      rw [e, Option.bind_some] at h1
      rw [Option.bind_some, h1, Option.bind_some]
      exact sFor_typed enc St step xs (step a x) fun a y hy => h a y (List.mem_cons_of_mem _ hy)
theorem sFor_inv {α : Type} (enc : α → PyData) (I : Nat → DS → Prop) : ∀ (xs : List α) (i : Nat) (s : DS), (∀ j x s, xs[j]? = some x → I (i + j) s → ∃ s', (t.put (.val (enc x)) s).bind f = some (.nx s') ∧ I (i + j + 1) s') → I i s →
    ∃ s', sFor t f (xs.map enc) s = some (.nx s') ∧ I (i + xs.length) s'
  | [], i, s, _, h0 => ⟨s, rfl, h0⟩
  | x :: xs, i, s, h, h0 => by
    rw [List.map_cons, sFor_cons]
    obtain ⟨s', h1, h2⟩ := h 0 x s rfl h0
    cases e : t.put (.val (enc x)) s with
    | none => rw [e] at h1; cases h1
    | some s1 =>
      rw [e, Option.bind_some] at h1
      rw [Option.bind_some, h1, Option.bind_some]
      obtain ⟨s'', h3, h4⟩ := sFor_inv enc I xs (i + 1) s' (fun j y s hy hI => by
        have := h (j + 1) y s (by simpa using hy) (by rw [show i + (j + 1) = i + 1 + j by omega]; exact hI)
        rw [show i + 1 + j + 1 = i + (j + 1) + 1 by omega]
        exact this) h2
      exact ⟨s'', h3, by rw [List.length_cons, show i + (xs.length + 1) = i + 1 + xs.length by omega]; exact h4⟩
end
theorem sFor_fold {t : Tg} {f : Sf} {α β γ : Type} (enc : α → PyData) (St : β → γ → DS) (P : β → Prop) (step : β → α → β) : ∀ (xs : List α) (a : β) (q : γ), P a → (∀ a x q, x ∈ xs → P a → (∃ q', (t.put (.val (enc x)) (St a q)).bind f = some (.nx (St (step a x) q'))) ∧ P (step a x)) →
    (∃ q', sFor t f (xs.map enc) (St a q) = some (.nx (St (xs.foldl step a) q'))) ∧ P (xs.foldl step a)
  | [], a, q, hP, _ => ⟨⟨q, rfl⟩, hP⟩
  | x :: xs, a, q, hP, h => by
    obtain ⟨⟨q1, h1⟩, h2⟩ := h a x q List.mem_cons_self hP
    obtain ⟨⟨q2, h3⟩, h4⟩ := sFor_fold enc St P step xs (step a x) q1 h2 fun a y q hy => h a y q (List.mem_cons_of_mem _ hy)
    refine ⟨⟨q2, ?_⟩, h4⟩
    rw [List.map_cons, sFor_cons]
    cases e : t.put (.val (enc x)) (St a q) with
    | none => rw [e] at h1; cases h1
    | some s1 =>
      rw [e, Option.bind_some] at h1
      rw [Option.bind_some, h1, Option.bind_some]
      exact h3
theorem sWhile_true {c : Bf} {f : Sf} {n : Nat} {s s1 s2 : DS} (h1 : c s = some (true, s1)) (h2 : f s1 = some (.nx s2)) : sWhile c f (n + 1) s = sWhile c f n s2 := by
  show (c s).bind _ = _
  rw [h1, Option.bind_some]
  show (f s1).bind _ = _
  rw [h2]
  rfl
theorem sWhile_false {c : Bf} {f : Sf} {n : Nat} {s s1 : DS} (h1 : c s = some (false, s1)) : sWhile c f (n + 1) s = some (.nx s1) := by
  show (c s).bind _ = _
  rw [h1]
  rfl
theorem sWhile_rt {c : Bf} {f : Sf} {n : Nat} {s s1 s2 : DS} {r : Pl} (h1 : c s = some (true, s1)) (h2 : f s1 = some (.rt r s2)) : sWhile c f (n + 1) s = some (.rt r s2) := by
  show (c s).bind _ = _
  rw [h1, Option.bind_some]
  show (f s1).bind _ = _
  rw [h2]
  rfl
section
variable {vs : List Nat} {t : Tg} {ft : Bf} {fe : Ef}
theorem lc_gen {α : Type} (enc : α → PyData) (I : DS → Prop) (R : α → PyData → Prop) (b : α → Bool) : ∀ (xs : List α) (acc : List PyData) (s : DS),
    (∀ x ∈ xs, ∀ s, I s → ∃ s1 s2, t.put (.val (enc x)) s = some s1 ∧ ft s1 = some (b x, s2) ∧ (b x = false → I ⟨wipeE s2.env vs, s2.fs⟩) ∧ (b x = true → ∃ r s3 d, fe s2 = some (r, s3) ∧ fz r = .val d ∧ R x d ∧ I ⟨wipeE s3.env vs, s3.fs⟩)) →
    I s → acc.length + xs.length ≤ sizeLine → ∃ ds s', lcLoop vs t ft fe (xs.map enc) acc s = some (acc ++ ds, s') ∧ I s' ∧ Paired R (xs.filter b) ds
  | [], acc, s, _, hI, _ => ⟨[], s, by rw [List.append_nil]; rfl, hI, .nil⟩
  | x :: xs, acc, s, h, hI, hl => by
    have hl' : acc.length + (xs.length + 1) ≤ sizeLine := hl
    obtain ⟨s1, s2, h1, h2, h3, h4⟩ := h x List.mem_cons_self s hI
    rw [List.map_cons]
    unfold lcLoop
    simp only [h1, h2, Option.bind_some]
    cases hb : b x with
    | false =>
      rw [if_neg Bool.false_ne_true, List.filter_cons_of_neg (by rw [hb]; exact Bool.false_ne_true)]
      exact lc_gen enc I R b xs acc _ (fun y hy => h y (List.mem_cons_of_mem _ hy)) (h3 hb) (by omega)
    | true =>
      obtain ⟨r, s3, d, g1, g2, g3, g4⟩ := h4 hb
      rw [if_pos rfl, List.filter_cons_of_pos hb]
      simp only [g1, g2, Option.bind_some]
      rw [if_pos (by omega)]
      obtain ⟨ds, s', e1, e2, e3⟩ := lc_gen enc I R b xs (acc ++ [d]) _ (fun y hy => h y (List.mem_cons_of_mem _ hy)) g4 (by simp; omega)
      exact ⟨d :: ds, s', by rw [e1, List.append_assoc]; rfl, e2, .cons g3 e3⟩
theorem paired_map {α : Type} {g : α → PyData} : ∀ {xs : List α} {ds : List PyData}, Paired (fun x d => d = g x) xs ds → ds = xs.map g
  | _, _, .nil => rfl
  | _, _, .cons h r => by rw [h, paired_map r]; rfl
/-- a comprehension that leaves the places as they are -/
theorem lc_typed {α : Type} (enc : α → PyData) (b : α → Bool) (g : α → PyData) (xs : List α) (s : DS) (hl : xs.length ≤ sizeLine)
    (h : ∀ x ∈ xs, ∃ s1 s2, t.put (.val (enc x)) s = some s1 ∧ ft s1 = some (b x, s2) ∧ (b x = false → (⟨wipeE s2.env vs, s2.fs⟩ : DS) = s) ∧ (b x = true → ∃ r s3, fe s2 = some (r, s3) ∧ fz r = .val (g x) ∧ (⟨wipeE s3.env vs, s3.fs⟩ : DS) = s)) :
    lcLoop vs t ft fe (xs.map enc) [] s = some ((xs.filter b).map g, s) := by
  obtain ⟨ds, s', e1, rfl, e3⟩ := lc_gen enc (fun s' => s' = s) (fun x d => d = g x) b xs [] s (fun x hx s' hs => by
    subst hs
    obtain ⟨s1, s2, h1, h2, h3, h4⟩ := h x hx
    refine ⟨s1, s2, h1, h2, h3, fun hb => ?_⟩
    obtain ⟨r, s3, g1, g2, g3⟩ := h4 hb
    exact ⟨r, s3, _, g1, g2, rfl, g3⟩) rfl (by simpa using hl)
  rw [e1, paired_map e3]
  rfl
/-- .. without a test -/
theorem lc_all {α : Type} (enc : α → PyData) (g : α → PyData) (xs : List α) (s : DS) (hl : xs.length ≤ sizeLine)
    (h : ∀ x ∈ xs, ∃ s1 r s3, t.put (.val (enc x)) s = some s1 ∧ fe s1 = some (r, s3) ∧ fz r = .val (g x) ∧ (⟨wipeE s3.env vs, s3.fs⟩ : DS) = s) :
    lcLoop vs t bYes fe (xs.map enc) [] s = some (xs.map g, s) := by
  have := lc_typed (ft := bYes) enc (fun _ => true) g xs s hl (fun x hx => by
    obtain ⟨s1, r, s3, h1, h2, h3, h4⟩ := h x hx
    exact ⟨s1, s1, h1, rfl, nofun, fun _ => ⟨r, s3, h2, h3, h4⟩⟩)
  rw [this, List.filter_eq_self.mpr (fun _ _ => rfl)]
/-- one turn of a comprehension -/
def turnE (vs : List Nat) (t : Tg) (fe : Ef) (d : PyData) (s : DS) : Option (Pl × DS) := (t.put (.val d) s).bind fun s1 => (fe s1).map fun (r, s3) => (fz r, ⟨wipeE s3.env vs, s3.fs⟩)
def turnT (vs : List Nat) (t : Tg) (ft : Bf) (fe : Ef) (d : PyData) (s : DS) : Option (Option Pl × DS) := (t.put (.val d) s).bind fun s1 => (ft s1).bind fun (b, s2) =>
  if b = true then (fe s2).map fun (r, s3) => (some (fz r), ⟨wipeE s3.env vs, s3.fs⟩) else some (none, ⟨wipeE s2.env vs, s2.fs⟩)
@[simp] theorem turnE_ap (vs : List Nat) (t : Tg) (fe : Ef) (d : PyData) (s : DS) : turnE vs t fe d s = (t.put (.val d) s).bind fun s1 => (fe s1).map fun (r, s3) => (fz r, ⟨wipeE s3.env vs, s3.fs⟩) := rfl
@[simp] theorem turnT_ap (vs : List Nat) (t : Tg) (ft : Bf) (fe : Ef) (d : PyData) (s : DS) : turnT vs t ft fe d s = (t.put (.val d) s).bind fun s1 => (ft s1).bind fun (b, s2) =>
  if b = true then (fe s2).map fun (r, s3) => (some (fz r), ⟨wipeE s3.env vs, s3.fs⟩) else some (none, ⟨wipeE s2.env vs, s2.fs⟩) := rfl
theorem lc_turn {α : Type} (enc : α → PyData) (g : α → PyData) (xs : List α) (s : DS) (hl : xs.length ≤ sizeLine)
    (h : ∀ x ∈ xs, turnE vs t fe (enc x) s = some (.val (g x), s)) : lcLoop vs t bYes fe (xs.map enc) [] s = some (xs.map g, s) := by
  refine lc_all enc g xs s hl fun x hx => ?_
  have e := h x hx
  unfold turnE at e
  cases e1 : t.put (.val (enc x)) s with
  | none => rw [e1] at e; cases e
  | some s1 =>
    rw [e1, Option.bind_some] at e
    cases e2 : fe s1 with
    | none => rw [e2] at e; cases e
    | some q =>
      obtain ⟨r, s3⟩ := q
      rw [e2] at e
      simp only [Option.map_some, Option.some.injEq, Prod.mk.injEq] at e
      exact ⟨s1, r, s3, rfl, e2, e.1, e.2⟩
theorem lc_turnT {α : Type} (enc : α → PyData) (b : α → Bool) (g : α → PyData) (xs : List α) (s : DS) (hl : xs.length ≤ sizeLine)
    (h : ∀ x ∈ xs, turnT vs t ft fe (enc x) s = some (if b x = true then some (.val (g x)) else none, s)) : lcLoop vs t ft fe (xs.map enc) [] s = some ((xs.filter b).map g, s) := by
  refine lc_typed enc b g xs s hl fun x hx => ?_
  have e := h x hx
  unfold turnT at e
  cases e1 : t.put (.val (enc x)) s with
  | none => rw [e1] at e; cases e
  | some s1 =>
    rw [e1, Option.bind_some] at e
    cases e2 : ft s1 with
    | none => rw [e2] at e; cases e
    | some q =>
      obtain ⟨c, s2⟩ := q
      simp only [e2, Option.bind_some] at e
      cases c with
      | false =>
        simp only [Bool.false_eq_true, if_false, Option.some.injEq, Prod.mk.injEq] at e
        cases hb : b x with
        | true => rw [hb] at e; cases e.1
        | false => exact ⟨s1, s2, rfl, e2, fun _ => e.2, nofun⟩
      | true =>
        simp only [if_true] at e
        cases e3 : fe s2 with
        | none => rw [e3] at e; cases e
        | some q3 =>
          obtain ⟨r, s3⟩ := q3
          rw [e3] at e
          simp only [Option.map_some, Option.some.injEq, Prod.mk.injEq] at e
          cases hb : b x with
          | false => rw [hb] at e; cases e.1
          | true =>
            rw [hb] at e
            simp only [if_true, Option.some.injEq] at e
            exact ⟨s1, s2, rfl, e2, nofun, fun _ => ⟨r, s3, e3, e.1, e.2⟩⟩
/-- .. that may change places, in a way that is known -/
theorem lc_turnI {α : Type} (enc : α → PyData) (I : DS → Prop) (b : α → Bool) (g : α → PyData) (xs : List α) (s : DS) (hl : xs.length ≤ sizeLine)
    (h : ∀ x ∈ xs, ∀ s, I s → ∃ s', turnT vs t ft fe (enc x) s = some (if b x = true then some (.val (g x)) else none, s') ∧ I s') (hI : I s) : ∃ s', lcLoop vs t ft fe (xs.map enc) [] s = some ((xs.filter b).map g, s') ∧ I s' := by
  obtain ⟨ds, s', e1, hI', e3⟩ := lc_gen (ft := ft) (fe := fe) (t := t) (vs := vs) enc I (fun x d => d = g x) b xs [] s (fun x hx s hs => by
    obtain ⟨s', e, hI'⟩ := h x hx s hs
    unfold turnT at e
    cases e1 : t.put (.val (enc x)) s with
    | none => rw [e1] at e; cases e
    | some s1 =>
      rw [e1, Option.bind_some] at e
      cases e2 : ft s1 with
      | none => rw [e2] at e; cases e
      | some q =>
        obtain ⟨c, s2⟩ := q
        simp only [e2, Option.bind_some] at e
        cases c with
        | false =>
          simp only [Bool.false_eq_true, if_false, Option.some.injEq, Prod.mk.injEq] at e
          cases hb : b x with
          | true => rw [hb] at e; cases e.1
          | false => exact ⟨s1, s2, rfl, e2, fun _ => by rw [e.2]; exact hI', nofun⟩
        | true =>
          simp only [if_true] at e
          cases e3 : fe s2 with
          | none => rw [e3] at e; cases e
          | some q3 =>
            obtain ⟨r, s3⟩ := q3
            rw [e3] at e
            simp only [Option.map_some, Option.some.injEq, Prod.mk.injEq] at e
            cases hb : b x with
            | false => rw [hb] at e; cases e.1
            | true =>
              rw [hb] at e
              simp only [if_true, Option.some.injEq] at e
              exact ⟨s1, s2, rfl, e2, nofun, fun _ => ⟨r, s3, _, e3, e.1, rfl, by rw [e.2]; exact hI'⟩⟩) hI (by simpa using hl)
  exact ⟨s', by rw [e1, paired_map e3]; rfl, hI'⟩
/-- .. whose items are known by what holds of them -/
theorem lc_turnR {α : Type} (enc : α → PyData) (I : DS → Prop) (R : α → PyData → Prop) (xs : List α) (s : DS) (hl : xs.length ≤ sizeLine)
    (h : ∀ x ∈ xs, ∀ s, I s → ∃ d s', turnE vs t fe (enc x) s = some (.val d, s') ∧ R x d ∧ I s') (hI : I s) : ∃ ds s', lcLoop vs t bYes fe (xs.map enc) [] s = some (ds, s') ∧ I s' ∧ Paired R xs ds := by
  obtain ⟨ds, s', e1, hI', e3⟩ := lc_gen (ft := bYes) (fe := fe) (t := t) (vs := vs) enc I R (fun _ => true) xs [] s (fun x hx s hs => by
    obtain ⟨d, s', e, hR, hI'⟩ := h x hx s hs
    unfold turnE at e
    cases e1 : t.put (.val (enc x)) s with
    | none => rw [e1] at e; cases e
    | some s1 =>
      rw [e1, Option.bind_some] at e
      cases e2 : fe s1 with
      | none => rw [e2] at e; cases e
      | some q =>
        obtain ⟨r, s3⟩ := q
        rw [e2] at e
        simp only [Option.map_some, Option.some.injEq, Prod.mk.injEq] at e
        exact ⟨s1, s1, rfl, rfl, nofun, fun _ => ⟨r, s3, d, e2, e.1, hR, by rw [e.2]; exact hI'⟩⟩) hI (by simpa using hl)
  rw [List.filter_eq_self.mpr (fun _ _ => rfl)] at e3
  exact ⟨ds, s', e1, hI', e3⟩
/-- .. of truths, of ints, kept apart from simp -/
theorem lc_bools {α : Type} (enc : α → PyData) (p : α → Bool) (xs : List α) (s : DS) (hl : xs.length ≤ sizeLine) (h : ∀ x ∈ xs, turnE vs t fe (enc x) s = some (.val (.bool (p x)), s)) :
    ∃ bs, lcLoop vs t bYes fe (xs.map enc) [] s = some (bs.map .bool, s) ∧ bs = xs.map p :=
  ⟨xs.map p, by rw [lc_turn enc (fun x => .bool (p x)) xs s hl h, List.map_map]; rfl, rfl⟩
theorem lc_ints {α : Type} (enc : α → PyData) (p : α → Int) (xs : List α) (s : DS) (hl : xs.length ≤ sizeLine) (h : ∀ x ∈ xs, turnE vs t fe (enc x) s = some (.val (.int (p x)), s)) :
    ∃ bs, lcLoop vs t bYes fe (xs.map enc) [] s = some (bs.map .int, s) ∧ bs = xs.map p :=
  ⟨xs.map p, by rw [lc_turn enc (fun x => .int (p x)) xs s hl h, List.map_map]; rfl, rfl⟩
theorem lc_intsT {α : Type} (enc : α → PyData) (b : α → Bool) (p : α → Int) (xs : List α) (s : DS) (hl : xs.length ≤ sizeLine) (h : ∀ x ∈ xs, turnT vs t ft fe (enc x) s = some (if b x = true then some (.val (.int (p x))) else none, s)) :
    ∃ bs, lcLoop vs t ft fe (xs.map enc) [] s = some (bs.map .int, s) ∧ bs = (xs.filter b).map p :=
  ⟨(xs.filter b).map p, by rw [lc_turnT enc b (fun x => .int (p x)) xs s hl h, List.map_map]; rfl, rfl⟩
end
/-! ### shapes -/
theorem depthAll_le {n : Nat} : ∀ {ds : List PyData}, (∀ d ∈ ds, d.depth ≤ n) → PyData.depthAll ds ≤ n
  | [], _ => Nat.zero_le _
  | d :: r, h => by
    show max d.depth (PyData.depthAll r) ≤ n
    have h1 := h d List.mem_cons_self
    have h2 := depthAll_le (ds := r) fun e he => h e (List.mem_cons_of_mem _ he)
    omega
theorem shaped_tupleI {ds : List PyData} (h : ∀ d ∈ ds, d.canLay0 = true ∧ d.depth ≤ 60) : SeqAt.shaped (.tuple ds) = true := by
  have h1 : PyData.canLayAll0 ds = true := by
    rw [canLayAll_iff, List.all_eq_true]
    exact fun d hd => (h d hd).1
  have h2 := depthAll_le fun d hd => (h d hd).2
  unfold SeqAt.shaped
  rw [show PyData.canLay0 (.tuple ds) = PyData.canLayAll0 ds by simp [PyData.canLay0], h1, show PyData.depth (.tuple ds) = PyData.depthAll ds + 1 by simp [PyData.depth]]
  simp
  omega
theorem shaped_listI {ds : List PyData} (h : ∀ d ∈ ds, d.canLay0 = true ∧ d.depth ≤ 60) : SeqAt.shaped (.list ds) = true := by
  have h1 : PyData.canLayAll0 ds = true := by
    rw [canLayAll_iff, List.all_eq_true]
    exact fun d hd => (h d hd).1
  have h2 := depthAll_le fun d hd => (h d hd).2
  unfold SeqAt.shaped
  rw [show PyData.canLay0 (.list ds) = PyData.canLayAll0 ds by simp [PyData.canLay0], h1, show PyData.depth (.list ds) = PyData.depthAll ds + 1 by simp [PyData.depth]]
  simp
  omega
theorem lay_str {x : Str} (h : okS x = true) : (PyData.str x).canLay0 = true := by
  show PyData.canLay0 (.str x) = true
  unfold okS at h
  simpa [PyData.canLay0] using h
theorem shaped_str {x : Str} (h : okS x = true) : SeqAt.shaped (.str x) = true := by
  unfold SeqAt.shaped
  rw [lay_str h]
  rfl
end PD

set_option Elab.async false
set_option linter.all false
set_option maxRecDepth 100000
set_option maxHeartbeats 1000000
/-! K8m: machines; the program's functions on them: kinds. -/
namespace K8
open PySem PySem.Spec PyProof.Rows L2 PD
theorem d_is_integer (d : PyData) (fs : FS) : D_is_integer [.val d] fs = some (.val (.bool (isi "int" d && !isi "bool" d)), fs) := by
  simp [D_is_integer, B_is_integer]
  cases isi "int" d <;> simp
theorem d_is_number (i : Int) (fs : FS) : D_is_number [.val (.int i)] fs = some (.val (.bool (decide (0 ≤ i))), fs) := by
  simp [D_is_number, B_is_number, d_is_integer, isi, tyName]
theorem d_is_tuple_t (ds : List PyData) (n : Nat) (fs : FS) : D_is_tuple [.val (.tuple ds), .val (.int n)] fs = some (.val (.bool (decide (ds.length = n))), fs) := by
  have e : ((ds.length : Int) == (n : Int)) = decide (ds.length = n) := by
    rw [Bool.eq_iff_iff]
    simp
    omega
  simp [D_is_tuple, B_is_tuple, isi, tyName, shaped_int, PyData.eqv, e]
theorem d_is_tuple_n {d : PyData} (h : isi "tuple" d = false) (n : Nat) (fs : FS) : D_is_tuple [.val d, .val (.int n)] fs = some (.val (.bool false), fs) := by
  simp [D_is_tuple, B_is_tuple, h]
abbrev lowerS : Str := "abcdefghijklmnopqrstuvwxyz"
structure NameOk (x : Str) : Prop where
  na : x ≠ "any"
  l1 : 1 ≤ x.length
  l8 : x.length ≤ 8
  low : ∀ c ∈ x.cps.toList, c ∈ lowerS.cps.toList
theorem lower_lt : ∀ c ∈ lowerS.cps.toList, c < 0x110000 := by decide +kernel
theorem NameOk.ok {x : Str} (h : NameOk x) : okS x = true := by
  show x.cps.all (· < 0x110000) = true
  rw [← Array.all_toList, List.all_eq_true]
  exact fun c hc => decide_eq_true (lower_lt c (h.low c hc))
theorem eqv_str (x y : Str) : PyData.eqv (.str x) (.str y) = decide (x = y) := by
  unfold PyData.eqv
  rfl
theorem all_true {l : List Bool} (h : ∀ b ∈ l, b = true) : l.all id = true := List.all_eq_true.mpr h
theorem d_is_name {x : Str} (h : NameOk x) (fs : FS) : D_is_name [.val (.str x)] fs = some (.val (.bool true), fs) := by
  have hs := shaped_str h.ok
  have ha : SeqAt.shaped (.str "any") = true := shaped_str (by decide +kernel)
  have hz : x.length ≤ sizeLine := by rw [sizeLine_eq]; have := h.l8; omega
  have h1 := h.na
  have h2 : (1 : Int) ≤ x.length := by have := h.l1; omega
  have h3 : (x.length : Int) ≤ 8 := by have := h.l8; omega
  obtain ⟨bs, e, hb⟩ := lc_bools (vs := [1]) (t := .nm 1) (fe := Ce0_is_name) (fun c => .str ⟨#[c]⟩) (fun _ => true) x.cps.toList ⟨[some (.val (.str x)), none], fs⟩ (by rw [Array.length_toList]; exact hz) fun c hc => by
    have := h.low c hc
    simp [Ce0_is_name, this]
  simp [D_is_name, B_is_name, isi, tyName, hs, ha, eqv_str, h1, h2, h3, hz, plainAt, e]
  simp [hb]
/-! ### tuples of texts -/
abbrev tS (xs : List Str) : PyData := .tuple (xs.map .str)
abbrev tI (xs : List Int) : PyData := .tuple (xs.map .int)
def castL (xs : List Nat) : List Int := xs.map Int.ofNat
abbrev tN (xs : List Nat) : PyData := tI (castL xs)
structure NamesOk (xs : List Str) : Prop where
  all : ∀ x ∈ xs, NameOk x
  asc : xs.Pairwise (fun x y => x.cps.toList < y.cps.toList)
  len : xs.length ≤ 1000
theorem zipD_str : ∀ (xs ys : List Str), zipD (xs.map PyData.str) (ys.map PyData.str) = (xs.zip ys).map fun p => .tuple [.str p.1, .str p.2]
  | [], _ => by simp [zipD]
  | _ :: _, [] => by simp [zipD]
  | a :: r, b :: t => by simp [zipD, zipD_str r t]
theorem asc_zip {xs : List Str} (h : xs.Pairwise (fun x y => x.cps.toList < y.cps.toList)) : ∀ p ∈ xs.zip xs.tail, p.1.cps.toList < p.2.cps.toList := by
  induction h with
  | nil => intro p hp; simp at hp
  | @cons a l h1 h2 ih =>
    intro p hp
    cases l with
    | nil => simp at hp
    | cons b r =>
      simp only [List.tail_cons, List.zip_cons_cons, List.mem_cons] at hp
      rcases hp with rfl | hp
      · exact h1 b List.mem_cons_self
      · exact ih p (by simpa using hp)
theorem d_ascends {xs : List Str} (h : NamesOk xs) (fs : FS) : D_ascends [.val (tS xs)] fs = some (.val (.bool true), fs) := by
  obtain ⟨bs, e, hb⟩ := lc_bools (vs := [1, 2]) (t := .tp [.nm 1, .nm 2]) (fe := Ce0_ascends) (fun p : Str × Str => .tuple [.str p.1, .str p.2]) (fun _ => true) (xs.zip xs.tail) ⟨[some (.val (tS xs)), none, none], fs⟩
    (by rw [sizeLine_eq]; have := h.len; simp; omega) fun p hp => by
      have := asc_zip h.asc p hp
      simp [Ce0_ascends, this]
  have ez : zipD (xs.map PyData.str) (xs.map PyData.str).tail = (xs.zip xs.tail).map fun p => .tuple [.str p.1, .str p.2] := by rw [← List.map_tail, zipD_str]
  simp [D_ascends, B_ascends, plainAt, ez, e]
  simp [hb]
theorem d_are_names {xs : List Str} (h : NamesOk xs) {n : Nat} (hn : n ≤ xs.length) (fs : FS) : D_are_names [.val (tS xs), .val (.int n)] fs = some (.val (.bool true), fs) := by
  obtain ⟨bs, e, hb⟩ := lc_bools (vs := [2]) (t := .nm 2) (fe := Ce0_are_names) PyData.str (fun _ => true) xs ⟨[some (.val (tS xs)), some (.val (.int n)), none], fs⟩
    (by rw [sizeLine_eq]; have := h.len; omega) fun x hx => by
      simp [Ce0_are_names, d_is_name (h.all x hx)]
  have hn' : ¬ ((xs.length : Int) < (n : Int)) := by omega
  have eb : bs.all id = true := by simp [hb]
  simp [D_are_names, B_are_names, plainAt, e, hn', isi, tyName, d_ascends h, eb]
theorem d_are_numbers {xs : List Int} (h : ∀ i ∈ xs, 0 ≤ i) (hl : xs.length ≤ 1000) {n : Nat} (hn : xs.length = n) (fs : FS) : D_are_numbers [.val (tI xs), .val (.int n)] fs = some (.val (.bool true), fs) := by
  obtain ⟨bs, e, hb⟩ := lc_bools (vs := [2]) (t := .nm 2) (fe := Ce0_are_numbers) PyData.int (fun _ => true) xs ⟨[some (.val (tI xs)), some (.val (.int n)), none], fs⟩
    (by rw [sizeLine_eq]; omega) fun x hx => by
      simp [Ce0_are_numbers, d_is_number, h x hx]
  have eb : bs.all id = true := by simp [hb]
  have et := d_is_tuple_t (xs.map .int) n fs
  simp [D_are_numbers, B_are_numbers, plainAt, e, et, hn, eb]
/-! ### machines -/
structure Mach where
  ls : List Str
  ks : List Str
  mv : List (List Nat)
  an : List (List Int)
abbrev mvD (M : Mach) : PyData := .tuple (M.mv.map tN)
abbrev anD (M : Mach) : PyData := .tuple (M.an.map tI)
abbrev mD (M : Mach) : PyData := .tuple [tS M.ls, tS M.ks, mvD M, anD M]
structure Mach.Ok (M : Mach) : Prop where
  ln : NamesOk M.ls
  kn : NamesOk M.ks
  l2 : 2 ≤ M.ls.length
  l9 : M.ls.length ≤ 9
  k1 : 1 ≤ M.ks.length
  k9 : M.ks.length ≤ 9
  n1 : 1 ≤ M.mv.length
  n9 : M.mv.length ≤ 9
  row : ∀ r ∈ M.mv, r.length = M.ls.length ∧ ∀ t ∈ r, t < M.mv.length
  al : M.an.length = M.mv.length
  ar : ∀ r ∈ M.an, r.length = M.ks.length ∧ ∀ i ∈ r, 0 ≤ i
theorem maxI_lt {ns : List Int} {b : Int} (h0 : ns ≠ []) (h : ∀ i ∈ ns, i < b) : ∃ m, maxI ns = some m ∧ m < b := by
  cases ns with
  | nil => exact absurd rfl h0
  | cons a r =>
    refine ⟨_, rfl, ?_⟩
    rcases foldl_max_mem r a with e | e
    · rw [e]; exact h a List.mem_cons_self
    · exact h _ (List.mem_cons_of_mem _ e)
theorem enumD_typed {α : Type} (enc : α → PyData) : ∀ (n : Nat) (xs : List α), enumD n (xs.map enc) = (xs.zipIdx n).map fun p => .tuple [.int (p.2 : Nat), enc p.1]
  | _, [] => rfl
  | n, x :: r => by simp [enumD, enumD_typed enc (n + 1) r]
theorem castL_len (r : List Nat) : (castL r).length = r.length := by simp [castL]
theorem castL_nn {r : List Nat} : ∀ i ∈ castL r, 0 ≤ i := by simp [castL]
theorem castL_lt {r : List Nat} {n : Nat} (h : ∀ t ∈ r, t < n) : ∀ i ∈ castL r, i < n := by
  simp [castL]
  exact fun t ht => by have := h t ht; omega
theorem mem_zipIdx' {α : Type} {xs : List α} {p : α × Nat} (h : p ∈ xs.zipIdx) : p.1 ∈ xs := by
  exact List.mem_of_getElem? (List.mem_zipIdx_iff_getElem?.mp h)
theorem d_machine_fault {M : Mach} (h : M.Ok) (fs : FS) : D_machine_fault [.val (mD M)] fs = some (.val .none, fs) := by
  have et : D_is_tuple [.val (mD M), .val (.int 4)] fs = some (.val (.bool true), fs) := d_is_tuple_t _ 4 fs
  have el : D_are_names [.val (tS M.ls), .val (.int 2)] fs = some (.val (.bool true), fs) := d_are_names h.ln (n := 2) h.l2 fs
  have ek : D_are_names [.val (tS M.ks), .val (.int 1)] fs = some (.val (.bool true), fs) := d_are_names h.kn (n := 1) h.k1 fs
  have ea : D_is_tuple [.val (anD M), .val (.int M.mv.length)] fs = some (.val (.bool true), fs) := by
    rw [d_is_tuple_t]
    simp [h.al]
  have hne : M.mv ≠ [] := fun z => by have := h.n1; rw [z] at this; simp at this
  have f1 := sFor_typed (t := .tp [.nm 5, .nm 6]) (f := L0_machine_fault)
    (fun p : List Nat × Nat => .tuple [.int (p.2 : Nat), tN p.1]) (fun a : Option Pl × Option Pl => ⟨[some (.val (mD M)), some (.val (tS M.ls)), some (.val (tS M.ks)), some (.val (mvD M)), some (.val (anD M)), a.1, a.2], fs⟩)
    (fun a p => (some (.val (.int (p.2 : Nat))), some (.val (tN p.1)))) M.mv.zipIdx (none, none) fun a p hp => by
      have hr := h.row p.1 (mem_zipIdx' hp)
      have e1 := d_are_numbers (xs := castL p.1) castL_nn (by rw [castL_len, hr.1]; have := h.l9; omega) (n := M.ls.length) (by rw [castL_len, hr.1]) fs
      obtain ⟨m, hm, hm2⟩ := maxI_lt (ns := castL p.1) (b := M.mv.length) (fun z => by have e := congrArg List.length z; rw [castL_len, hr.1] at e; have := h.l2; simp at e; rw [e] at this; simp at this) (castL_lt hr.2)
      have hm3 : ¬ ((M.mv.length : Int) ≤ m) := by omega
      simp [L0_machine_fault, e1, hm, hm3]
  rw [← enumD_typed] at f1
  generalize (List.foldl (fun (a : Option Pl × Option Pl) (p : List Nat × Nat) => (some (Pl.val (.int (p.2 : Nat))), some (Pl.val (tN p.1)))) (none, none) M.mv.zipIdx) = q at f1
  have f2 := sFor_typed (t := .tp [.nm 5, .nm 6]) (f := L1_machine_fault)
    (fun p : List Int × Nat => .tuple [.int (p.2 : Nat), tI p.1]) (fun a : Option Pl × Option Pl => ⟨[some (.val (mD M)), some (.val (tS M.ls)), some (.val (tS M.ks)), some (.val (mvD M)), some (.val (anD M)), a.1, a.2], fs⟩)
    (fun a p => (some (.val (.int (p.2 : Nat))), some (.val (tI p.1)))) M.an.zipIdx q fun a p hp => by
      have hr := h.ar p.1 (mem_zipIdx' hp)
      have e1 := d_are_numbers (xs := p.1) hr.2 (by rw [hr.1]; have := h.k9; omega) (n := M.ks.length) hr.1 fs
      simp [L1_machine_fault, e1]
  rw [← enumD_typed] at f2
  simp (maxSteps := 10000000) [D_machine_fault, B_machine_fault, et, el, ek, ea, f1, f2, isi, tyName, hne]
theorem d_is_machine {M : Mach} (h : M.Ok) (fs : FS) : D_is_machine [.val (mD M)] fs = some (.val (.bool true), fs) := by
  simp [D_is_machine, B_is_machine, d_machine_fault h, isNone]
theorem d_need (w : Str) (fs : FS) : D_need [.val (.bool true), .val (.str w)] fs = some (.val .none, fs) := by
  simp [D_need, B_need]
theorem d_need_machine {M : Mach} (h : M.Ok) (fs : FS) : D_need_machine [.val (mD M)] fs = some (.val .none, fs) := by
  simp [D_need_machine, B_need_machine, d_is_machine h, d_need]
theorem lay_tS {xs : List Str} (h : NamesOk xs) : SeqAt.shaped (tS xs) = true := by
  refine shaped_tupleI fun d hd => ?_
  obtain ⟨x, hx, rfl⟩ := List.mem_map.mp hd
  exact ⟨lay_str (h.all x hx).ok, Nat.zero_le _⟩
theorem any_eqv_str (xs : List Str) (x : Str) : ((xs.map PyData.str).any fun z => PyData.eqv z (.str x)) = decide (x ∈ xs) := by
  induction xs with
  | nil => rfl
  | cons a r ih =>
    rw [List.map_cons, List.any_cons, ih, eqv_str, Bool.eq_iff_iff]
    simp [@eq_comm _ a x]
theorem d_need_look {M : Mach} (h : M.Ok) {l : Str} (hl : l ∈ M.ks) (fs : FS) : D_need_look [.val (mD M), .val (.str l)] fs = some (.val .none, fs) := by
  have hs : SeqAt.shaped (.str l) = true := shaped_str (h.kn.all l hl).ok
  have ht := lay_tS h.kn
  have e := any_eqv_str M.ks l
  simp [D_need_look, B_need_look, d_need_machine h, d_need, hs, ht, e, hl]
end K8

set_option Elab.async false
set_option linter.all false
set_option maxRecDepth 100000
set_option maxHeartbeats 1000000
/-! K8n: answers, walks by letters. -/
namespace K8
open PySem PySem.Spec PyProof.Rows L2 PD
def lN (xs : List Nat) : List PyData := (castL xs).map .int
theorem lN_len (xs : List Nat) : (lN xs).length = xs.length := by simp [lN, castL]
theorem lN_app (xs ys : List Nat) : lN (xs ++ ys) = lN xs ++ lN ys := by simp [lN, castL]
theorem lN_get (xs : List Nat) (i : Nat) : (lN xs)[i]? = (xs[i]?).map fun n => .int (n : Int) := by simp [lN, castL, List.getElem?_map]; rfl
theorem lN_one (n : Nat) : lN [n] = [.int (n : Int)] := rfl
theorem lN_nil : lN [] = [] := rfl
theorem lN_cons (n : Nat) (xs : List Nat) : lN (n :: xs) = .int (n : Int) :: lN xs := rfl
theorem lN_last (xs : List Nat) : (lN xs).getLast? = xs.getLast?.map fun n => .int (n : Int) := by simp [lN, castL, List.getLast?_map]; rfl
theorem lN_map (xs : List Nat) : lN xs = xs.map fun n => .int (n : Int) := by simp [lN, castL]
theorem tN_eq (r : List Nat) : tN r = .tuple (lN r) := rfl
def Mach.nx (M : Mach) (s : Nat) : List Nat := M.mv.getD s []
def Mach.as (M : Mach) (s k : Nat) : Int := (M.an.getD s []).getD k 0
def Mach.lx (M : Mach) (l : Str) : Nat := (M.ls.findIdx? fun y => decide (y = l)).getD 0
def Mach.st (M : Mach) (s : Nat) (l : Str) : Nat := (M.nx s).getD (M.lx l) 0
/-- the states behind each letter -/
def Mach.run (M : Mach) (s : Nat) : List Str → List Nat
  | [] => []
  | l :: r => M.st s l :: M.run (M.st s l) r
def Mach.fin (M : Mach) (s : Nat) (r : List Str) : Nat := r.foldl M.st s
section
variable {M : Mach}
theorem Mach.Ok.mv_at (h : M.Ok) {s : Nat} (hs : s < M.mv.length) : M.mv[s]? = some (M.nx s) ∧ (M.nx s).length = M.ls.length ∧ ∀ t ∈ M.nx s, t < M.mv.length := by
  have e : M.mv[s]? = some M.mv[s] := List.getElem?_eq_getElem hs
  have e2 : M.nx s = M.mv[s] := by simp [Mach.nx, hs]
  rw [e2]
  exact ⟨e, h.row _ (List.getElem_mem hs)⟩
theorem Mach.Ok.an_at (h : M.Ok) {s k : Nat} (hs : s < M.mv.length) (hk : k < M.ks.length) : ∃ r, M.an[s]? = some r ∧ r[k]? = some (M.as s k) := by
  have hs' : s < M.an.length := by rw [h.al]; exact hs
  refine ⟨M.an[s], List.getElem?_eq_getElem hs', ?_⟩
  have hr := h.ar _ (List.getElem_mem hs')
  have hk' : k < (M.an[s]).length := by rw [hr.1]; exact hk
  rw [List.getElem?_eq_getElem hk']
  simp [Mach.as, hs', hk']
theorem idx_of {xs : List Str} (h : xs.Pairwise (fun x y => x.cps.toList < y.cps.toList)) {k : Nat} {l : Str} (hk : xs[k]? = some l) : (xs.findIdx? fun y => decide (y = l)) = some k := by
  rw [List.findIdx?_eq_some_iff_getElem]
  obtain ⟨hl, e⟩ := List.getElem?_eq_some_iff.mp hk
  refine ⟨hl, by simp [e], fun j hj => ?_⟩
  have := List.pairwise_iff_getElem.mp h j k (by omega) hl hj
  rw [e] at this
  simp
  intro z
  rw [z] at this
  exact List.lt_irrefl _ this
theorem idx_mem {xs : List Str} {l : Str} (h : l ∈ xs) : ∃ j, (xs.findIdx? fun y => decide (y = l)) = some j ∧ j < xs.length := by
  cases e : xs.findIdx? fun y => decide (y = l) with
  | none =>
    rw [List.findIdx?_eq_none_iff] at e
    have := e l h
    simp at this
  | some j =>
    obtain ⟨h1, _⟩ := List.findIdx?_eq_some_iff_getElem.mp e
    exact ⟨j, rfl, h1⟩
theorem Mach.st_lt (h : M.Ok) {s : Nat} (hs : s < M.mv.length) {l : Str} (hl : l ∈ M.ls) : M.st s l < M.mv.length ∧ (M.nx s)[M.lx l]? = some (M.st s l) ∧ (M.ls.findIdx? fun y => decide (y = l)) = some (M.lx l) := by
  obtain ⟨j, e, hj⟩ := idx_mem hl
  obtain ⟨_, e2, h3⟩ := h.mv_at hs
  have hj' : j < (M.nx s).length := by rw [e2]; exact hj
  have e3 : M.lx l = j := by simp [Mach.lx, e]
  have e4 : M.st s l = (M.nx s)[j] := by simp [Mach.st, e3, hj']
  rw [e3, e4]
  exact ⟨h3 _ (List.getElem_mem hj'), List.getElem?_eq_getElem hj', e⟩
theorem d_answer_at (h : M.Ok) {s k : Nat} {l : Str} (hs : s < M.mv.length) (hk : M.ks[k]? = some l) (fs : FS) : D_answer_at [.val (mD M), .val (.int s), .val (.str l)] fs = some (.val (.int (M.as s k)), fs) := by
  obtain ⟨r, e1, e2⟩ := h.an_at hs (List.getElem?_eq_some_iff.mp hk).1
  have e3 := idx_of h.kn.asc hk
  simp [D_answer_at, B_answer_at, e1, e2, gIdx_t, e3]
theorem Mach.run_app (s : Nat) (a b : List Str) : M.run s (a ++ b) = M.run s a ++ M.run (M.fin s a) b := by
  induction a generalizing s with
  | nil => rfl
  | cons l r ih => simp [Mach.run, ih, Mach.fin]
theorem Mach.run_len (s : Nat) (a : List Str) : (M.run s a).length = a.length := by
  induction a generalizing s with
  | nil => rfl
  | cons l r ih => simp [Mach.run, ih]
theorem Mach.run_last (s : Nat) (a : List Str) : (s :: M.run s a).getLast? = some (M.fin s a) := by
  induction a generalizing s with
  | nil => rfl
  | cons l r ih =>
    show (s :: M.st s l :: M.run (M.st s l) r).getLast? = _
    rw [List.getLast?_cons_cons]
    exact ih _
theorem Mach.fin_app (s : Nat) (a b : List Str) : M.fin s (a ++ b) = M.fin (M.fin s a) b := by simp [Mach.fin]
theorem Mach.fin_lt (h : M.Ok) {s : Nat} (hs : s < M.mv.length) {a : List Str} (ha : ∀ l ∈ a, l ∈ M.ls) : M.fin s a < M.mv.length := by
  induction a generalizing s with
  | nil => exact hs
  | cons l r ih => exact ih (M.st_lt h hs (ha l List.mem_cons_self)).1 fun x hx => ha x (List.mem_cons_of_mem _ hx)
theorem d_come_to (h : M.Ok) {s : Nat} {a : List Str} (hs : s < M.mv.length) (ha : ∀ l ∈ a, l ∈ M.ls) (hl : a.length < 100000) (fs : FS) :
    D_come_to [.val (mD M), .val (.int s), .val (tS a)] fs = some (.val (.tuple (lN (s :: M.run s a))), fs) := by
  have hz := sizeLine_eq
  obtain ⟨s', e, q, rfl⟩ := sFor_inv (t := .nm 4) (f := L0_come_to) PyData.str (fun i st => ∃ q : Option Pl, st = ⟨[some (.val (mD M)), some (.val (.int s)), some (.val (tS a)), some (.ownL (lN (s :: M.run s (a.take i)))), q], fs⟩) a 0
    ⟨[some (.val (mD M)), some (.val (.int s)), some (.val (tS a)), some (.ownL (lN [s])), none], fs⟩ (fun j x st hj hI => by
      obtain ⟨q, rfl⟩ := hI
      have hx : x ∈ a := List.mem_of_getElem? hj
      have hjl := (List.getElem?_eq_some_iff.mp hj).1
      have ht : ∀ l ∈ a.take j, l ∈ M.ls := fun l hl => ha l (List.mem_of_mem_take hl)
      have hf := Mach.fin_lt h hs ht
      obtain ⟨h1, h2, h3⟩ := M.st_lt h hf (ha x hx)
      obtain ⟨g1, _⟩ := h.mv_at hf
      have e1 : a.take (j + 1) = a.take j ++ [x] := by rw [List.take_add_one, hj]; rfl
      have e2 : s :: M.run s (a.take (j + 1)) = (s :: M.run s (a.take j)) ++ [M.st (M.fin s (a.take j)) x] := by rw [e1, M.run_app]; rfl
      refine ⟨_, ?_, some (.val (.str x)), rfl⟩
      have e3 := M.run_last s (a.take j)
      have hlen : (s :: M.run s (a.take j)).length < sizeLine := by rw [List.length_cons, M.run_len, List.length_take]; omega
      simp only [Nat.zero_add, e2, lN_app, lN_one] at hlen ⊢
      generalize s :: M.run s (a.take j) = us at e3 hlen ⊢
      simp [L0_come_to, lN_last, e3, g1, gIdx_t, h3, tN_eq, lN_get, h2, lN_len, hlen]) ⟨none, rfl⟩
  simp only [Nat.zero_add, List.take_length] at e
  have e0 : [PyData.int (s : Int)] = lN [s] := rfl
  have hz1 : 1 ≤ sizeLine := by omega
  simp [D_come_to, B_come_to, hz1, e0, e, lN_len]
end
end K8

set_option Elab.async false
set_option linter.all false
set_option maxRecDepth 100000
set_option maxHeartbeats 1000000
/-! K8o: least_rows. -/
namespace K8
open PySem PySem.Spec PyProof.Rows L2 PD
abbrev RowsL := List (Nat × List Str)
def keysR (L : RowsL) : List Nat := L.map (·.1)
def encR (L : RowsL) : List (Key × PyData) := L.map fun p => (.inl (p.1 : Int), tS p.2)
def rowOf (L : RowsL) (t : Nat) : Option (List Str) := (L.find? fun p => p.1 == t).map (·.2)
def addP (row : List Str) (L : RowsL) (p : Str × Nat) : RowsL := if (rowOf L p.2).isSome then L else L ++ [(p.2, row ++ [p.1])]
theorem lookD_enc (L : RowsL) (t : Nat) : lookD (encR L) (.inl (t : Int)) = (rowOf L t).map tS := by
  induction L with
  | nil => rfl
  | cons p r ih =>
    by_cases e : p.1 = t
    · simp [lookD, encR, rowOf, List.find?_cons, e]
    · have e' : ¬ ((p.1 : Int) = (t : Int)) := by omega
      have e2 : (p.1 == t) = false := by simp [e]
      have : lookD (encR (p :: r)) (.inl (t : Int)) = lookD (encR r) (.inl (t : Int)) := by simp [lookD, encR, List.find?_cons, e']
      rw [this, ih]
      simp [rowOf, List.find?_cons, e2]
theorem rowOf_none {L : RowsL} {t : Nat} (h : rowOf L t = none) : ∀ p ∈ L, p.1 ≠ t := fun p hp e => by
  unfold rowOf at h
  rw [Option.map_eq_none_iff, List.find?_eq_none] at h
  exact h p hp (by simp [e])
theorem putD_enc {L : RowsL} {t : Nat} {r : List Str} (h : rowOf L t = none) : putD (encR L) (.inl (t : Int)) (tS r) = encR (L ++ [(t, r)]) := by
  have hn := rowOf_none h
  have e : (encR L).any (fun kv => decide (kv.1 = (.inl (t : Int) : Key))) = false := by
    rw [List.any_eq_false]
    intro kv hkv
    obtain ⟨p, hp, rfl⟩ := List.mem_map.mp hkv
    have := hn p hp
    simp
    omega
  unfold putD
  rw [e]
  simp [encR]
theorem rowOf_mem {L : RowsL} (nd : (keysR L).Nodup) {p : Nat × List Str} (hp : p ∈ L) : rowOf L p.1 = some p.2 := by
  induction L with
  | nil => cases hp
  | cons q r ih =>
    have nd' : q.1 ∉ keysR r ∧ (keysR r).Nodup := by simpa [keysR] using nd
    rcases List.mem_cons.mp hp with rfl | hp
    · simp [rowOf, List.find?_cons]
    · have hne : (q.1 == p.1) = false := by
        simp
        intro e
        exact nd'.1 (e ▸ List.mem_map.mpr ⟨p, hp, rfl⟩)
      have := ih nd'.2 hp
      simpa [rowOf, List.find?_cons, hne] using this
theorem rowOf_some {L : RowsL} {t : Nat} {r : List Str} (h : rowOf L t = some r) : (t, r) ∈ L := by
  unfold rowOf at h
  cases e : L.find? fun p => p.1 == t with
  | none => rw [e] at h; cases h
  | some p =>
    rw [e] at h
    cases h
    have h1 := List.mem_of_find?_eq_some e
    have h2 := List.find?_some e
    have : p.1 = t := by simpa using h2
    rw [← this]
    exact h1
theorem rowOf_isSome {L : RowsL} {t : Nat} : (rowOf L t).isSome = true ↔ t ∈ keysR L := by
  constructor
  · intro h
    obtain ⟨r, hr⟩ := Option.isSome_iff_exists.mp h
    exact List.mem_map.mpr ⟨_, rowOf_some hr, rfl⟩
  · intro h
    cases e : rowOf L t with
    | some r => rfl
    | none =>
      obtain ⟨p, hp, e2⟩ := List.mem_map.mp h
      exact absurd e2 (rowOf_none e p hp)
theorem rowOf_app {L : RowsL} {t : Nat} {r : List Str} (h : rowOf L t = some r) (M : RowsL) : rowOf (L ++ M) t = some r := by
  unfold rowOf at h ⊢
  rw [List.find?_append]
  cases e : L.find? fun p => p.1 == t with
  | none => rw [e] at h; cases h
  | some p => rw [e] at h; exact h
theorem zipD_strN : ∀ (xs : List Str) (ys : List Nat), zipD (xs.map PyData.str) (lN ys) = (xs.zip ys).map fun p => .tuple [.str p.1, .int (p.2 : Int)]
  | [], _ => by simp [zipD]
  | _ :: _, [] => by simp [zipD, lN_nil]
  | a :: r, b :: t => by simp [zipD, lN_cons, zipD_strN r t]
/-- what holds of the rows at all times -/
structure JR (M : Mach) (b : Nat) (L : RowsL) : Prop where
  hd : L[0]? = some (b, [])
  nd : (keysR L).Nodup
  row : ∀ (i : Nat) (p : Nat × List Str), L[i]? = some p → p.1 < M.mv.length ∧ (∀ l ∈ p.2, l ∈ M.ls) ∧ M.fin b p.2 = p.1 ∧ p.2.length ≤ i
theorem nodup_len : ∀ (n : Nat) (xs : List Nat), xs.Nodup → (∀ x ∈ xs, x < n) → xs.length ≤ n
  | 0, xs, _, h => by
    cases xs with
    | nil => exact Nat.le_refl _
    | cons x r => exact absurd (h x List.mem_cons_self) (Nat.not_lt_zero _)
  | n + 1, xs, nd, h => by
    have h1 : (xs.filter (· != n)).length ≤ n := nodup_len n _ (nd.filter _) fun x hx => by
      obtain ⟨a, b⟩ := List.mem_filter.mp hx
      have := h x a
      have : x ≠ n := by simpa using b
      omega
    have h2 : xs.length ≤ (xs.filter (· != n)).length + 1 := by
      clear h h1
      induction xs with
      | nil => simp
      | cons x r ih =>
        obtain ⟨n1, n2⟩ := List.nodup_cons.mp nd
        by_cases e : x = n
        · subst e
          rw [List.filter_cons_of_neg (by simp), List.filter_eq_self.mpr (fun y hy => by simp; rintro rfl; exact n1 hy)]
          simp
        · rw [List.filter_cons_of_pos (by simpa using e)]
          have := ih n2
          simp only [List.length_cons]
          omega
    omega
theorem JR.len {M : Mach} {b : Nat} {L : RowsL} (h : JR M b L) : L.length ≤ M.mv.length := by
  have := nodup_len M.mv.length (keysR L) h.nd fun x hx => by
    obtain ⟨p, hp, rfl⟩ := List.mem_map.mp hx
    obtain ⟨i, hi, e⟩ := List.getElem_of_mem hp
    exact (h.row i p (by rw [List.getElem?_eq_getElem hi, e])).1
  simpa [keysR] using this
theorem JR.add {M : Mach} {b : Nat} {L : RowsL} (h : JR M b L) {t : Nat} {r : List Str} (h0 : rowOf L t = none) (h1 : t < M.mv.length) (h2 : ∀ l ∈ r, l ∈ M.ls) (h3 : M.fin b r = t) (h4 : r.length ≤ L.length) : JR M b (L ++ [(t, r)]) := by
  refine ⟨?_, ?_, fun i p hp => ?_⟩
  · have : 0 < L.length := (List.getElem?_eq_some_iff.mp h.hd).1
    rw [List.getElem?_append_left this]
    exact h.hd
  · show ((L ++ [(t, r)]).map (·.1)).Nodup
    rw [List.map_append, List.nodup_append]
    refine ⟨h.nd, by simp, fun x hx y hy => ?_⟩
    have hy' : y = t := by simpa using hy
    rw [hy']
    obtain ⟨p, hp, rfl⟩ := List.mem_map.mp hx
    exact rowOf_none h0 p hp
  · by_cases hi : i < L.length
    · rw [List.getElem?_append_left hi] at hp
      exact h.row i p hp
    · rw [List.getElem?_append_right (by omega)] at hp
      have hi' : i - L.length = 0 := by
        have := (List.getElem?_eq_some_iff.mp hp).1
        simp at this
        omega
      rw [hi'] at hp
      cases hp
      exact ⟨h1, h2, h3, by show r.length ≤ i; omega⟩
end K8

set_option Elab.async false
set_option linter.all false
set_option maxRecDepth 100000
set_option maxHeartbeats 1000000
/-! K8p: least_rows, run. -/
namespace K8
open PySem PySem.Spec PyProof.Rows L2 PD
section
variable {M : Mach} {b s k : Nat} {fs : FS}
abbrev StR (M : Mach) (b : Nat) (L : RowsL) (k : Nat) (q5 q6 q7 : Option Pl) (fs : FS) : DS := ⟨[some (.val (mD M)), some (.val (.int b)), some (.ownK (encR L)), some (.ownL (lN (keysR L))), some (.val (.int k)), q5, q6, q7], fs⟩
theorem encR_len (L : RowsL) : (encR L).length = L.length := by simp [encR]
theorem keysR_len (L : RowsL) : (keysR L).length = L.length := by simp [keysR]
theorem inner_rows (h : M.Ok) {row : List Str} (hs : s < M.mv.length) : ∀ (ps : List (Str × Nat)) (L : RowsL), JR M b L → rowOf L s = some row → row.length + 1 ≤ L.length → (∀ l ∈ row, l ∈ M.ls) → M.fin b row = s →
    (∀ p ∈ ps, p.1 ∈ M.ls ∧ p.2 < M.mv.length ∧ M.st s p.1 = p.2) →
    (∀ fs q6 q7, ∃ q6' q7', sFor (.tp [.nm 6, .nm 7]) L0_least_rows (ps.map fun p => .tuple [.str p.1, .int (p.2 : Int)]) (StR M b L k (some (.val (.int s))) q6 q7 fs) = some (.nx (StR M b (ps.foldl (addP row) L) k (some (.val (.int s))) q6' q7' fs))) ∧
    JR M b (ps.foldl (addP row) L) ∧ (∃ T, ps.foldl (addP row) L = L ++ T) ∧ ∀ p ∈ ps, p.2 ∈ keysR (ps.foldl (addP row) L)
  | [], L, J, _, _, _, _, _ => ⟨fun fs q6 q7 => ⟨q6, q7, rfl⟩, J, ⟨[], by simp⟩, fun _ h => nomatch h⟩
  | p :: ps, L, J, hr, hl, hm, hf, hp => by
    obtain ⟨p1, p2, p3⟩ := hp p List.mem_cons_self
    have hn := J.len
    have h9 := h.n9
    have hz := sizeLine_eq
    have key : (∀ fs q6 q7, ∃ q6' q7', ((Tg.tp [.nm 6, .nm 7]).put (.val (.tuple [.str p.1, .int (p.2 : Int)])) (StR M b L k (some (.val (.int s))) q6 q7 fs)).bind L0_least_rows = some (.nx (StR M b (addP row L p) k (some (.val (.int s))) q6' q7' fs))) ∧
        JR M b (addP row L p) ∧ (∃ T, addP row L p = L ++ T) ∧ p.2 ∈ keysR (addP row L p) := by
      cases e : rowOf L p.2 with
      | some r =>
        have ea : addP row L p = L := by simp [addP, e]
        rw [ea]
        refine ⟨fun fs q6 q7 => ⟨some (.val (.str p.1)), some (.val (.int p.2)), ?_⟩, J, ⟨[], by simp⟩, rowOf_isSome.mp (by rw [e]; rfl)⟩
        simp [L0_least_rows, keyD, lookD_enc, e]
      | none =>
        have ea : addP row L p = L ++ [(p.2, row ++ [p.1])] := by simp [addP, e]
        rw [ea]
        have hlen : (tS (row ++ [p.1])) = .tuple (row.map .str ++ [.str p.1]) := by simp
        refine ⟨fun fs q6 q7 => ⟨some (.val (.str p.1)), some (.val (.int p.2)), ?_⟩, J.add e p2 (fun l hl' => ?_) ?_ ?_, ⟨_, rfl⟩, ?_⟩
        · have e2 := putD_enc (r := row ++ [p.1]) e
          rw [hlen] at e2
          have z1 : row.length + 1 ≤ sizeLine := by omega
          have z2 : L.length < sizeLine := by omega
          have z3 : 1 ≤ sizeLine := by omega
          simp [L0_least_rows, keyD, lookD_enc, e, hr, z1, z2, z3, e2, encR_len, lN_len, keysR_len]
          simp [keysR, lN_app, lN_one]
        · rcases List.mem_append.mp hl' with h1 | h1
          · exact hm l h1
          · rw [List.mem_singleton.mp h1]; exact p1
        · rw [Mach.fin_app, hf]; exact p3
        · simp; omega
        · simp [keysR]
    obtain ⟨k1, k2, ⟨T, k3⟩, k4⟩ := key
    obtain ⟨i1, i2, ⟨T', i3⟩, i4⟩ := inner_rows h hs ps (addP row L p) k2 (by rw [k3]; exact rowOf_app hr T) (by rw [k3, List.length_append]; omega) hm hf fun q hq => hp q (List.mem_cons_of_mem _ hq)
    refine ⟨fun fs q6 q7 => ?_, i2, ⟨T ++ T', by rw [List.foldl_cons, i3, k3, List.append_assoc]⟩, fun q hq => ?_⟩
    · obtain ⟨q6', q7', e1⟩ := k1 fs q6 q7
      obtain ⟨q6'', q7'', e2⟩ := i1 fs q6' q7'
      refine ⟨q6'', q7'', ?_⟩
      rw [List.map_cons, sFor_cons]
      cases ep : (Tg.tp [.nm 6, .nm 7]).put (.val (.tuple [.str p.1, .int (p.2 : Int)])) (StR M b L k (some (.val (.int s))) q6 q7 fs) with
      | none => rw [ep] at e1; cases e1
      | some s1 =>
        rw [ep, Option.bind_some] at e1
        rw [Option.bind_some, e1, Option.bind_some]
        exact e2
    · rcases List.mem_cons.mp hq with rfl | hq
      · show q.2 ∈ keysR (ps.foldl (addP row) (addP row L q))
        rw [i3]
        simp only [keysR, List.map_append, List.mem_append]
        exact .inl k4
      · exact i4 q hq
theorem while_rows (h : M.Ok) : ∀ (m k : Nat) (L : RowsL), JR M b L → (∀ (i : Nat) (p : Nat × List Str), i < k → L[i]? = some p → ∀ l ∈ M.ls, M.st p.1 l ∈ keysR L) → k ≤ L.length → M.mv.length + 1 ≤ k + m →
    ∃ L', JR M b L' ∧ (∀ p ∈ L', ∀ l ∈ M.ls, M.st p.1 l ∈ keysR L') ∧ ∀ fs q5 q6 q7, ∃ q5' q6' q7', sWhile Wc0_least_rows Wb0_least_rows m (StR M b L k q5 q6 q7 fs) = some (.nx (StR M b L' L'.length q5' q6' q7' fs))
  | 0, k, L, J, _, hk, hm => by
    have := J.len
    omega
  | m + 1, k, L, J, hc, hk, hm => by
    have hn := J.len
    have h9 := h.n9
    have hz := sizeLine_eq
    by_cases hlt : k < L.length
    · have hp : L[k]? = some L[k] := List.getElem?_eq_getElem hlt
      obtain ⟨r1, r2, r3, r4⟩ := J.row k _ hp
      generalize hq : L[k] = p at hp r1 r2 r3 r4
      obtain ⟨s, row⟩ := p
      simp only at r1 r2 r3 r4
      have hro : rowOf L s = some row := rowOf_mem J.nd (List.mem_of_getElem? hp)
      obtain ⟨g1, g2, g3⟩ := h.mv_at r1
      obtain ⟨i1, i2, ⟨T, i3⟩, i4⟩ := inner_rows (k := k) h (b := b) r1 (M.ls.zip (M.nx s)) L J hro (by omega) r2 r3 fun q hq => by
        obtain ⟨j, hj, e⟩ := List.getElem_of_mem hq
        have hj1 : j < M.ls.length := by simp at hj; omega
        have hj2 : j < (M.nx s).length := by omega
        rw [List.getElem_zip] at e
        subst e
        have hx : M.ls[j]? = some M.ls[j] := List.getElem?_eq_getElem hj1
        have e3 : M.lx M.ls[j] = j := by simp [Mach.lx, idx_of h.ln.asc hx]
        exact ⟨List.getElem_mem hj1, g3 _ (List.getElem_mem hj2), by simp [Mach.st, e3, hj2]⟩
      generalize hL1 : (M.ls.zip (M.nx s)).foldl (addP row) L = L1 at i1 i2 i3 i4
      have hk1 : keysR L1 = keysR L ++ keysR T := by rw [i3]; simp [keysR]
      obtain ⟨L', w1, w2, w3⟩ := while_rows h m (k + 1) L1 i2 (fun i p hi hp' l hl => by
        by_cases hik : i < k
        · have hp2 : L[i]? = some p := by
            rw [i3, List.getElem?_append_left (by omega)] at hp'
            exact hp'
          rw [hk1]
          exact List.mem_append_left _ (hc i p hik hp2 l hl)
        · have hik' : i = k := by omega
          subst hik'
          rw [i3, List.getElem?_append_left hlt, hp] at hp'
          cases hp'
          obtain ⟨h1, h2, h3⟩ := M.st_lt h r1 hl
          obtain ⟨j, e, hj⟩ := idx_mem hl
          have ej : M.lx l = j := by rw [e] at h3; exact (Option.some.inj h3).symm
          obtain ⟨hj', e2, _⟩ := List.findIdx?_eq_some_iff_getElem.mp e
          have e2 : M.ls[j] = l := by simpa using e2
          have hj2 : j < (M.nx s).length := by omega
          have : (M.ls[j], (M.nx s)[j]) ∈ M.ls.zip (M.nx s) := List.mem_iff_getElem.mpr ⟨j, by simp; omega, by rw [List.getElem_zip]⟩
          have := i4 _ this
          rw [ej, List.getElem?_eq_getElem hj2] at h2
          rw [← Option.some.inj h2]
          exact this) (by rw [i3, List.length_append]; omega) (by omega)
      refine ⟨L', w1, w2, fun fs q5 q6 q7 => ?_⟩
      obtain ⟨q6', q7', e1⟩ := i1 fs q6 q7
      obtain ⟨a, b', c, e2⟩ := w3 fs (some (.val (.int s))) q6' q7'
      refine ⟨a, b', c, ?_⟩
      rw [← e2]
      have c1 : Wc0_least_rows (StR M b L k q5 q6 q7 fs) = some (true, StR M b L k q5 q6 q7 fs) := by
        have hlt' : (k : Int) < (L.length : Int) := by omega
        simp [Wc0_least_rows, lN_len, keysR_len, hlt']
      have e0 : (keysR L)[k]? = some s := by simp [keysR, hp]
      have c2 : Wb0_least_rows (StR M b L k q5 q6 q7 fs) = some (.nx (StR M b L1 (k + 1) (some (.val (.int s))) q6' q7' fs)) := by
        simp [Wb0_least_rows, lN_get, e0, g1, tN_eq, zipD_strN, e1]
      exact sWhile_true c1 c2
    · have hk' : k = L.length := by omega
      subst hk'
      refine ⟨L, J, fun p hp l hl => ?_, fun fs q5 q6 q7 => ⟨q5, q6, q7, ?_⟩⟩
      · obtain ⟨i, hi, e⟩ := List.getElem_of_mem hp
        exact hc i p hi (by rw [List.getElem?_eq_getElem hi, e]) l hl
      · have c1 : Wc0_least_rows (StR M b L L.length q5 q6 q7 fs) = some (false, StR M b L L.length q5 q6 q7 fs) := by
          simp [Wc0_least_rows, lN_len, keysR_len]
        exact sWhile_false c1
/-- least_rows: the states that can be reached, each with a way -/
theorem least_rows_ex (h : M.Ok) (hb : b < M.mv.length) : ∃ L, JR M b L ∧ (∀ p ∈ L, ∀ l ∈ M.ls, M.st p.1 l ∈ keysR L) ∧ ∀ fs, D_least_rows [.val (mD M), .val (.int b)] fs = some (.ownK (encR L), fs) := by
  have J0 : JR M b [(b, [])] := ⟨rfl, by simp [keysR], fun i p hp => by
    have hi : i = 0 := by
      have := (List.getElem?_eq_some_iff.mp hp).1
      simp at this
      exact this
    subst hi
    cases hp
    exact ⟨hb, (fun l hl => by cases hl), rfl, Nat.le_refl _⟩⟩
  obtain ⟨L, w1, w2, w3⟩ := while_rows h 64 0 [(b, [])] J0 (fun i p hi => absurd hi (Nat.not_lt_zero _)) (by simp) (by have := h.n9; omega)
  refine ⟨L, w1, w2, fun fs => ?_⟩
  obtain ⟨a, b', c, e⟩ := w3 fs none none none
  have hz := sizeLine_eq
  have z1 : 1 ≤ sizeLine := by omega
  have e' : sWhile Wc0_least_rows Wb0_least_rows 64 ⟨[some (.val (mD M)), some (.val (.int b)), some (.ownK [(.inl (b : Int), .tuple [])]), some (.ownL [.int b]), some (.val (.int 0)), none, none, none], fs⟩ = _ := e
  simp [D_least_rows, B_least_rows, keyD, z1, e']
end
end K8

set_option Elab.async false
set_option linter.all false
set_option maxRecDepth 100000
set_option maxHeartbeats 1000000
/-! K8q: other states, how long a walk stays among them. -/
namespace K8
open PySem PySem.Spec PyProof.Rows L2 PD
open Classical in
noncomputable def rowsM (M : Mach) (b : Nat) : RowsL := if h : M.Ok ∧ b < M.mv.length then (least_rows_ex h.1 h.2).choose else []
noncomputable def keysM (M : Mach) (b : Nat) : List Nat := keysR (rowsM M b)
noncomputable def others (M : Mach) (s k : Nat) : List Nat := (keysM M s).filter fun t => !decide (M.as t k = M.as s k)
def leadB (M : Mach) (xs : List Nat) (s : Nat) : Bool := (M.nx s).any fun t => decide (t ∈ xs)
def lead (M : Mach) (xs : List Nat) : List Nat := xs.filter (leadB M xs)
def ld (M : Mach) (xs : List Nat) : Nat → List Nat
  | 0 => xs
  | i + 1 => lead M (ld M xs i)
section
variable {M : Mach} {b s k : Nat} {l : Str} {fs : FS}
theorem rowsM_spec (h : M.Ok) (hb : b < M.mv.length) : JR M b (rowsM M b) ∧ (∀ p ∈ rowsM M b, ∀ l ∈ M.ls, M.st p.1 l ∈ keysM M b) ∧ ∀ fs, D_least_rows [.val (mD M), .val (.int b)] fs = some (.ownK (encR (rowsM M b)), fs) := by
  unfold keysM rowsM
  rw [dif_pos ⟨h, hb⟩]
  exact (least_rows_ex h hb).choose_spec
theorem d_least_rows (h : M.Ok) (hb : b < M.mv.length) (fs : FS) : D_least_rows [.val (mD M), .val (.int b)] fs = some (.ownK (encR (rowsM M b)), fs) := (rowsM_spec h hb).2.2 fs
theorem keysM_lt (h : M.Ok) (hb : b < M.mv.length) : ∀ t ∈ keysM M b, t < M.mv.length := fun t ht => by
  obtain ⟨p, hp, rfl⟩ := List.mem_map.mp ht
  obtain ⟨i, hi, e⟩ := List.getElem_of_mem hp
  exact ((rowsM_spec h hb).1.row i p (by rw [List.getElem?_eq_getElem hi, e])).1
theorem keysM_len (h : M.Ok) (hb : b < M.mv.length) : (keysM M b).length ≤ M.mv.length := by
  unfold keysM
  rw [keysR_len]
  exact (rowsM_spec h hb).1.len
/-- exactly the states that can be reached -/
theorem keysM_iff (h : M.Ok) (hb : b < M.mv.length) {t : Nat} : t ∈ keysM M b ↔ ∃ r : List Str, (∀ l ∈ r, l ∈ M.ls) ∧ M.fin b r = t := by
  obtain ⟨J, hc, _⟩ := rowsM_spec h hb
  constructor
  · intro ht
    obtain ⟨p, hp, rfl⟩ := List.mem_map.mp ht
    obtain ⟨i, hi, e⟩ := List.getElem_of_mem hp
    obtain ⟨_, r2, r3, _⟩ := J.row i p (by rw [List.getElem?_eq_getElem hi, e])
    exact ⟨p.2, r2, r3⟩
  · rintro ⟨r, hr, rfl⟩
    have base : b ∈ keysM M b := List.mem_map.mpr ⟨(b, []), List.mem_of_getElem? J.hd, rfl⟩
    have aux : ∀ (r : List Str) (u : Nat), u ∈ keysM M b → (∀ l ∈ r, l ∈ M.ls) → M.fin u r ∈ keysM M b := by
      intro r
      induction r with
      | nil => intro u hu _; exact hu
      | cons l r ih =>
        intro u hu hr
        obtain ⟨p, hp, rfl⟩ := List.mem_map.mp hu
        exact ih _ (hc p hp l (hr l List.mem_cons_self)) fun x hx => hr x (List.mem_cons_of_mem _ hx)
    exact aux r b base hr
theorem keysM_self (h : M.Ok) (hb : b < M.mv.length) : b ∈ keysM M b := (keysM_iff h hb).mpr ⟨[], fun _ h => (by cases h), rfl⟩
theorem encR_keys (L : RowsL) : (encR L).map (fun kv => kD kv.1) = (keysR L).map fun n => .int (n : Int) := by
  simp [encR, keysR, kD]
/-- a comprehension over states that keeps the states themselves -/
theorem lc_states {vs : List Nat} {t : Tg} {ft : Bf} {fe : Ef} (p : Nat → Bool) (xs : List Nat) (s : DS) (hl : xs.length ≤ sizeLine) (h : ∀ x ∈ xs, turnT vs t ft fe (.int (x : Int)) s = some (if p x = true then some (.val (.int (x : Int))) else none, s)) :
    lcLoop vs t ft fe (lN xs) [] s = some (lN (xs.filter p), s) := by
  rw [lN_map, lc_turnT (fun n : Nat => .int (n : Int)) p (fun n => .int (n : Int)) xs s hl h, lN_map]
theorem shaped_lN (xs : List Nat) : SeqAt.shaped (.list (lN xs)) = true := by
  refine shaped_listI fun d hd => ?_
  rw [lN_map] at hd
  obtain ⟨n, _, rfl⟩ := List.mem_map.mp hd
  exact ⟨rfl, Nat.zero_le _⟩
theorem d_other_states (h : M.Ok) (hs : s < M.mv.length) (hk : M.ks[k]? = some l) (fs : FS) : D_other_states [.val (mD M), .val (.str l), .val (.int s)] fs = some (.ownL (lN (others M s k)), fs) := by
  have hz := sizeLine_eq
  have h9 := h.n9
  have hn := keysM_len h hs
  have e := lc_states (vs := [4]) (t := .nm 4) (ft := Ct0_other_states) (fe := Ce0_other_states) (fun t => !decide (M.as t k = M.as s k)) (keysM M s) ⟨[some (.val (mD M)), some (.val (.str l)), some (.val (.int s)), some (.val (.int (M.as s k))), none], fs⟩ (by omega) fun t ht => by
    have ha := d_answer_at h (keysM_lt h hs t ht) hk fs
    by_cases c : M.as t k = M.as s k
    · simp [Ct0_other_states, Ce0_other_states, ha, shaped_int, PyData.eqv, c]
    · simp [Ct0_other_states, Ce0_other_states, ha, shaped_int, PyData.eqv, c]
  have ha := d_answer_at h hs hk fs
  have hr := d_least_rows h hs fs
  have ek : (encR (rowsM M s)).map (fun kv => kD kv.1) = lN (keysM M s) := by rw [encR_keys, lN_map]; rfl
  simp [D_other_states, B_other_states, ha, hr, ek, plainAt, e]
  rfl
theorem any_eqv_lN (xs : List Nat) (t : Nat) : ((lN xs).any fun z => PyData.eqv z (.int (t : Int))) = decide (t ∈ xs) := by
  rw [lN_map]
  induction xs with
  | nil => rfl
  | cons a r ih =>
    have e : PyData.eqv (.int (a : Int)) (.int (t : Int)) = decide (t = a) := by
      unfold PyData.eqv
      rw [Bool.eq_iff_iff]
      simp
      omega
    rw [List.map_cons, List.any_cons, ih, e, Bool.eq_iff_iff]
    simp
theorem d_leading_on (h : M.Ok) {xs : List Nat} (hx : ∀ x ∈ xs, x < M.mv.length) (hl : xs.length ≤ 1000) (fs : FS) : D_leading_on [.val (mD M), .val (.list (lN xs))] fs = some (.ownL (lN (lead M xs)), fs) := by
  have hz := sizeLine_eq
  have e := lc_states (vs := [2]) (t := .nm 2) (ft := Ct0_leading_on) (fe := Ce1_leading_on) (leadB M xs) xs ⟨[some (.val (mD M)), some (.val (.list (lN xs))), none, none], fs⟩ (by omega) fun s hs => by
    obtain ⟨g1, g2, g3⟩ := h.mv_at (hx s hs)
    obtain ⟨bs, e, hb⟩ := lc_bools (vs := [3]) (t := .nm 3) (fe := Ce0_leading_on) (fun n : Nat => .int (n : Int)) (fun t => decide (t ∈ xs)) (M.nx s) ⟨[some (.val (mD M)), some (.val (.list (lN xs))), some (.val (.int (s : Int))), none], fs⟩ (by rw [g2]; have := h.l9; omega) fun t ht => by
      simp [Ce0_leading_on, shaped_int, shaped_lN, any_eqv_lN]
    rw [← lN_map] at e
    have eb : bs.any id = leadB M xs s := by rw [hb]; simp [leadB]
    by_cases c : leadB M xs s = true
    · simp [Ct0_leading_on, Ce1_leading_on, g1, tN_eq, plainAt, e, eb, c]
    · simp [Ct0_leading_on, Ce1_leading_on, g1, tN_eq, plainAt, e, eb, c]
  simp [D_leading_on, B_leading_on, plainAt, e]
  rfl
end
end K8

set_option Elab.async false
set_option linter.all false
set_option maxRecDepth 100000
set_option maxHeartbeats 1000000
/-! K8r: the longest stay, the least age. -/
namespace K8
open PySem PySem.Spec PyProof.Rows L2 PD
def longest (M : Mach) (xs : List Nat) : Option Nat := (List.range (M.mv.length + 1)).find? fun i => (ld M xs i).isEmpty
def encO : Option Nat → PyData
  | some q => .int (q : Int)
  | none => .none
section
variable {M : Mach} {b s k : Nat} {l : Str} {fs : FS} {xs : List Nat}
theorem longest_some {q : Nat} (h : longest M xs = some q) : ld M xs q = [] ∧ q ≤ M.mv.length ∧ ∀ j, j < q → ld M xs j ≠ [] := by
  unfold longest at h
  rw [List.find?_range_eq_some] at h
  obtain ⟨h1, h2, h3⟩ := h
  refine ⟨by simpa using h1, by have := List.mem_range.mp h2; omega, fun j hj e => ?_⟩
  have := h3 j hj
  rw [e] at this
  simp at this
theorem longest_eq {q : Nat} (h1 : ld M xs q = []) (h2 : q ≤ M.mv.length) (h3 : ∀ j, j < q → ld M xs j ≠ []) : longest M xs = some q := by
  unfold longest
  rw [List.find?_range_eq_some]
  refine ⟨by simp [h1], List.mem_range.mpr (by omega), fun j hj => ?_⟩
  have := h3 j hj
  simp [this]
theorem longest_none : longest M xs = none ↔ ∀ j, j ≤ M.mv.length → ld M xs j ≠ [] := by
  unfold longest
  rw [List.find?_range_eq_none]
  constructor
  · intro h j hj e
    have := h j (by omega)
    rw [e] at this
    simp at this
  · intro h j hj
    have := h j (by omega)
    simp [this]
theorem lead_sub (xs : List Nat) : ∀ x ∈ lead M xs, x ∈ xs := fun x hx => (List.mem_filter.mp hx).1
theorem ld_sub (xs : List Nat) : ∀ (i : Nat), ∀ x ∈ ld M xs i, x ∈ xs
  | 0, x, hx => hx
  | i + 1, x, hx => ld_sub xs i x (lead_sub _ x hx)
theorem ld_len (xs : List Nat) : ∀ i : Nat, (ld M xs i).length ≤ xs.length
  | 0 => Nat.le_refl _
  | i + 1 => Nat.le_trans (List.length_filter_le _ _) (ld_len xs i)
theorem others_lt (h : M.Ok) (hs : s < M.mv.length) : ∀ t ∈ others M s k, t < M.mv.length := fun t ht => keysM_lt h hs t (List.mem_filter.mp ht).1
theorem others_len (h : M.Ok) (hs : s < M.mv.length) : (others M s k).length ≤ M.mv.length := Nat.le_trans (List.length_filter_le _ _) (keysM_len h hs)
theorem eqvAll_nil (xs : List PyData) : PyData.eqvAll xs [] = xs.isEmpty := by cases xs <;> rfl
theorem while_stay (h : M.Ok) (hx : ∀ x ∈ xs, x < M.mv.length) (hl : xs.length ≤ M.mv.length) (q1 q2 : Pl) : ∀ (m i : Nat), (∀ j, j < i → ld M xs j ≠ []) → i ≤ M.mv.length → M.mv.length + 2 ≤ i + m →
    (∃ q, longest M xs = some q ∧ ∀ fs, sWhile Wc0_longest_stay Wb0_longest_stay m ⟨[some (.val (mD M)), some q1, some q2, some (.ownL (lN (ld M xs i))), some (.val (.int (i : Int)))], fs⟩ = some (.nx ⟨[some (.val (mD M)), some q1, some q2, some (.ownL (lN (ld M xs q))), some (.val (.int (q : Int)))], fs⟩)) ∨
    (longest M xs = none ∧ ∀ fs, ∃ e', sWhile Wc0_longest_stay Wb0_longest_stay m ⟨[some (.val (mD M)), some q1, some q2, some (.ownL (lN (ld M xs i))), some (.val (.int (i : Int)))], fs⟩ = some (.rt (.val .none) ⟨e', fs⟩))
  | 0, i, _, hi, hm => by omega
  | m + 1, i, hj, hi, hm => by
    have h9 := h.n9
    have hz := sizeLine_eq
    by_cases e : ld M xs i = []
    · refine .inl ⟨i, longest_eq e hi hj, fun fs => sWhile_false ?_⟩
      rw [e]
      simp [Wc0_longest_stay, lN_nil, show SeqAt.shaped (.list []) = true from rfl, PyData.eqv, eqvAll_nil]
    · have c1 : ∀ fs, Wc0_longest_stay ⟨[some (.val (mD M)), some q1, some q2, some (.ownL (lN (ld M xs i))), some (.val (.int (i : Int)))], fs⟩ = some (true, ⟨[some (.val (mD M)), some q1, some q2, some (.ownL (lN (ld M xs i))), some (.val (.int (i : Int)))], fs⟩) := fun fs => by
        have e1 : (lN (ld M xs i)).isEmpty = false := by
          cases e2 : ld M xs i with
          | nil => exact absurd e2 e
          | cons a r => rfl
        simp [Wc0_longest_stay, shaped_lN, show SeqAt.shaped (.list []) = true from rfl, PyData.eqv, eqvAll_nil]
        simpa using e1
      by_cases hn : i = M.mv.length
      · refine .inr ⟨longest_none.mpr fun j hj' => ?_, fun fs => ⟨[some (.val (mD M)), some q1, some q2, some (.ownL (lN (ld M xs i))), some (.val (.int ((i : Int) + 1)))], sWhile_rt (c1 fs) ?_⟩⟩
        · by_cases hji : j = i
          · rw [hji]; exact e
          · exact hj j (by omega)
        · have : (M.mv.length : Int) < (i : Int) + 1 := by omega
          simp [Wb0_longest_stay, this]
      · have c2 : ∀ fs, Wb0_longest_stay ⟨[some (.val (mD M)), some q1, some q2, some (.ownL (lN (ld M xs i))), some (.val (.int (i : Int)))], fs⟩ = some (.nx ⟨[some (.val (mD M)), some q1, some q2, some (.ownL (lN (ld M xs (i + 1)))), some (.val (.int ((i + 1 : Nat) : Int)))], fs⟩) := fun fs => by
          have h1 : ¬ ((M.mv.length : Int) < (i : Int) + 1) := by omega
          have h2 := d_leading_on h (xs := ld M xs i) (fun x hx' => hx x (ld_sub xs i x hx')) (by have := ld_len (M := M) xs i; omega) fs
          simp [Wb0_longest_stay, h1, h2, ld]
        rcases while_stay h hx hl q1 q2 m (i + 1) (fun j hj' => by
          by_cases hji : j = i
          · rw [hji]; exact e
          · exact hj j (by omega)) (by omega) (by omega) with ⟨q, w1, w2⟩ | ⟨w1, w2⟩
        · exact .inl ⟨q, w1, fun fs => (sWhile_true (c1 fs) (c2 fs)).trans (w2 fs)⟩
        · refine .inr ⟨w1, fun fs => ?_⟩
          obtain ⟨e', w3⟩ := w2 fs
          exact ⟨e', (sWhile_true (c1 fs) (c2 fs)).trans w3⟩
theorem d_longest_stay (h : M.Ok) (hs : s < M.mv.length) (hk : M.ks[k]? = some l) (fs : FS) : D_longest_stay [.val (mD M), .val (.str l), .val (.int s)] fs = some (.val (encO (longest M (others M s k))), fs) := by
  have h9 := h.n9
  have ho := d_other_states h hs hk fs
  rcases while_stay h (xs := others M s k) (others_lt h hs) (others_len h hs) (.val (.str l)) (.val (.int s)) 64 0 (fun j hj => absurd hj (Nat.not_lt_zero _)) (by omega) (by omega) with ⟨q, w1, w2⟩ | ⟨w1, w2⟩
  · have w3 := w2 fs
    simp only [ld, Int.natCast_zero] at w3
    simp [D_longest_stay, B_longest_stay, ho, w1, encO, w3]
  · obtain ⟨e', w3⟩ := w2 fs
    simp only [ld, Int.natCast_zero] at w3
    simp [D_longest_stay, B_longest_stay, ho, w1, encO, w3]
/-- the greatest of the stays, none if one has no end -/
noncomputable def stays (M : Mach) (k : Nat) : List (Option Nat) := (keysM M 0).map fun s => longest M (others M s k)
noncomputable def leastAge (M : Mach) (k : Nat) : Option Nat := if (stays M k).all Option.isSome then some (((stays M k).map fun o => o.getD 0).foldl max 0) else none
theorem encO_lay (o : Option Nat) : (encO o).canLay0 = true ∧ (encO o).depth ≤ 60 := by cases o <;> exact ⟨rfl, Nat.zero_le _⟩
theorem foldl_max_cast : ∀ (xs : List Nat) (a : Nat), ((castL xs).foldl max (a : Int)) = ((xs.foldl max a : Nat) : Int)
  | [], _ => rfl
  | x :: r, a => by
    show (castL r).foldl max (max (a : Int) (Int.ofNat x)) = _
    have e : max (a : Int) (Int.ofNat x) = ((max a x : Nat) : Int) := by
      show max (a : Int) (x : Int) = _
      omega
    rw [e, foldl_max_cast r (max a x)]
    rfl
theorem maxI_cast {xs : List Nat} (h : xs ≠ []) : maxI (castL xs) = some ((xs.foldl max 0 : Nat) : Int) := by
  cases xs with
  | nil => exact absurd rfl h
  | cons x r =>
    show some ((castL r).foldl max (Int.ofNat x)) = _
    have := foldl_max_cast r x
    show some ((castL r).foldl max (x : Int)) = _
    rw [this]
    simp
theorem encO_all : ∀ {os : List (Option Nat)}, os.all Option.isSome = true → os.map encO = (castL (os.map fun o => o.getD 0)).map .int
  | [], _ => rfl
  | o :: os, h => by
    rw [List.all_cons, Bool.and_eq_true] at h
    cases o with
    | none => cases h.1
    | some q =>
      rw [List.map_cons, encO_all h.2]
      rfl
theorem any_none (os : List (Option Nat)) : ((os.map encO).any fun z => PyData.eqv z .none) = !os.all Option.isSome := by
  induction os with
  | nil => rfl
  | cons o r ih =>
    rw [List.map_cons, List.any_cons, ih, List.all_cons]
    cases o <;> simp [encO, PyData.eqv]
theorem d_least_age_of (h : M.Ok) (hk : M.ks[k]? = some l) (fs : FS) : D_least_age_of [.val (mD M), .val (.str l)] fs = some (.val (encO (leastAge M k)), fs) := by
  have hz := sizeLine_eq
  have h9 := h.n9
  have h0 : 0 < M.mv.length := h.n1
  have hn := keysM_len h h0
  have e := lc_turn (vs := [3]) (t := .nm 3) (fe := Ce0_least_age_of) (fun n : Nat => .int (n : Int)) (fun s => encO (longest M (others M s k))) (keysM M 0) ⟨[some (.val (mD M)), some (.val (.str l)), none, none], fs⟩ (by omega) fun s hs => by
    have := d_longest_stay h (keysM_lt h h0 s hs) hk fs
    simp [Ce0_least_age_of, this]
  have e1 : (keysM M 0).map (fun s => encO (longest M (others M s k))) = (stays M k).map encO := by rw [stays, List.map_map]; rfl
  rw [e1] at e
  have hr : D_least_rows [.val (mD M), .val (.int 0)] fs = some (.ownK (encR (rowsM M 0)), fs) := d_least_rows h h0 fs
  have ek : (encR (rowsM M 0)).map (fun kv => kD kv.1) = (keysM M 0).map fun n => .int (n : Int) := encR_keys _
  have hsh : SeqAt.shaped (.list ((stays M k).map encO)) = true := shaped_listI fun d hd => by
    obtain ⟨o, _, rfl⟩ := List.mem_map.mp hd
    exact encO_lay o
  have han := any_none (stays M k)
  have hne : (stays M k).map (fun o => o.getD 0) ≠ [] := fun z => by
    have : keysM M 0 = [] := by simpa [stays] using z
    have := keysM_self h h0
    simp_all
  generalize hg : (stays M k).map encO = ds at e hsh han
  by_cases c : (stays M k).all Option.isSome = true
  · have e2 : ds = (castL ((stays M k).map fun o => o.getD 0)).map .int := by rw [← hg, encO_all c]
    have e3 := maxI_cast hne
    have e4 : gMax (.val (.list ds)) = some (.val (.int (((stays M k).map (fun o => o.getD 0)).foldl max 0 : Nat))) := by
      rw [e2, gMax_l, e3]
      rfl
    have el : leastAge M k = some (((stays M k).map fun o => o.getD 0).foldl max 0) := by rw [leastAge, if_pos c]
    rw [c] at han
    simp only [Bool.not_true] at han
    simp [D_least_age_of, B_least_age_of, hr, ek, plainAt, e, shaped_none, hsh, han, e4, el, encO]
  · have c' : (stays M k).all Option.isSome = false := by simpa using c
    have el : leastAge M k = none := by rw [leastAge, if_neg c]
    rw [c'] at han
    simp only [Bool.not_false] at han
    simp [D_least_age_of, B_least_age_of, hr, ek, plainAt, e, shaped_none, hsh, han, el, encO]
def pastB (o : Option Nat) (age : Int) : Bool := match o with
  | some q => decide (age < (q : Int))
  | none => true
theorem d_is_past (o : Option Nat) (age : Int) (fs : FS) : D_is_past [.val (encO o), .val (.int age)] fs = some (.val (.bool (pastB o age)), fs) := by
  cases o <;> simp [D_is_past, B_is_past, encO, pastB, isNone]
theorem d_moves_past (h : M.Ok) (hk : M.ks[k]? = some l) {age : Int} (ha : 0 ≤ age) (fs : FS) : D_moves_past [.val (mD M), .val (.str l), .val (.int age)] fs = some (.val (.bool (pastB (leastAge M k) age)), fs) := by
  have hl : l ∈ M.ks := List.mem_of_getElem? hk
  simp [D_moves_past, B_moves_past, d_need_look h hl, d_is_number, ha, d_need, d_least_age_of h hk, d_is_past]
theorem d_least_look_age (h : M.Ok) (hk : M.ks[k]? = some l) (fs : FS) : D_least_look_age [.val (mD M), .val (.str l)] fs = some (.val (encO (leastAge M k)), fs) := by
  have hl : l ∈ M.ks := List.mem_of_getElem? hk
  simp [D_least_look_age, B_least_look_age, d_need_look h hl, d_least_age_of h hk]
end
end K8

set_option Elab.async false
set_option linter.all false
set_option maxRecDepth 100000
set_option maxHeartbeats 1000000
/-! K8s: what the law comes to. -/
namespace K8
open PySem PySem.Spec PyProof.Rows L2 PD
def encF (F : List Nat) : List (Key × PyData) := F.map fun t : Nat => (.inl (t : Int), .bool true)
def addF (F : List Nat) (t : Nat) : List Nat := if t ∈ F then F else F ++ [t]
def sweepU (M : Mach) (F : List Nat) (u : Nat) : List Nat := (M.nx u).foldl addF F
def sweep (M : Mach) (F : List Nat) (_ : Nat) : List Nat := F.foldl (sweepU M) F
def laps (M : Mach) (s : Nat) (m : Nat) : List Nat := (List.range m).foldl (sweep M) [s]
def SetOk (M : Mach) (F : List Nat) : Prop := F.Nodup ∧ ∀ t ∈ F, t < M.mv.length
section
variable {M : Mach} {b s k : Nat} {l : Str} {fs : FS} {F : List Nat}
theorem putD_F (F : List Nat) (t : Nat) : putD (encF F) (.inl (t : Int)) (.bool true) = encF (addF F t) := by
  have e : (encF F).any (fun kv => decide (kv.1 = (.inl (t : Int) : Key))) = decide (t ∈ F) := by
    rw [Bool.eq_iff_iff]
    simp [encF]
    constructor
    · rintro ⟨x, hx, e⟩
      have : x = t := by omega
      exact this ▸ hx
    · intro h
      exact ⟨t, h, rfl⟩
  unfold putD addF
  rw [e]
  by_cases h : t ∈ F
  · rw [decide_eq_true h, if_pos rfl, if_pos h]
    show (encF F).map _ = encF F
    unfold encF
    rw [List.map_map]
    refine List.map_congr_left fun x hx => ?_
    simp
  · rw [decide_eq_false h, if_neg Bool.false_ne_true, if_neg h]
    simp [encF]
theorem addF_ok {t : Nat} (h : SetOk M F) (ht : t < M.mv.length) : SetOk M (addF F t) := by
  unfold addF
  by_cases c : t ∈ F
  · rw [if_pos c]; exact h
  · rw [if_neg c]
    refine ⟨List.nodup_append.mpr ⟨h.1, by simp, fun x hx y hy => ?_⟩, fun x hx => ?_⟩
    · have : y = t := by simpa using hy
      rw [this]
      rintro rfl
      exact c hx
    · rcases List.mem_append.mp hx with h1 | h1
      · exact h.2 x h1
      · rw [List.mem_singleton.mp h1]; exact ht
theorem SetOk.len (h : SetOk M F) : F.length ≤ M.mv.length := nodup_len _ _ h.1 h.2
theorem encF_len (F : List Nat) : (encF F).length = F.length := by simp [encF]
abbrev StF (M : Mach) (s : Nat) (F : List Nat) (q3 q4 q5 : Option Pl) (fs : FS) : DS := ⟨[some (.val (mD M)), some (.val (.int s)), some (.ownK (encF F)), q3, q4, q5], fs⟩
theorem in_inner (h : M.Ok) (q3 q4 : Option Pl) (xs : List Nat) (hx : ∀ x ∈ xs, x < M.mv.length) (F : List Nat) (q5 : Option Pl) (fs : FS) (hF : SetOk M F) :
    (∃ q', sFor (.nm 5) L0__law_come_from (lN xs) (StF M s F q3 q4 q5 fs) = some (.nx (StF M s (xs.foldl addF F) q3 q4 q' fs))) ∧ SetOk M (xs.foldl addF F) := by
  rw [lN_map]
  refine sFor_fold (fun n : Nat => .int (n : Int)) (fun F q => StF M s F q3 q4 q fs) (SetOk M) addF xs F q5 hF fun F x q hm hP => ⟨⟨some (.val (.int (x : Int))), ?_⟩, addF_ok hP (hx x hm)⟩
  have h1 := hP.len
  have h9 := h.n9
  have hz := sizeLine_eq
  have z : F.length < sizeLine := by omega
  simp [L0__law_come_from, keyD, encF_len, z, putD_F]
theorem in_mid (h : M.Ok) (q3 : Option Pl) (xs : List Nat) (hx : ∀ x ∈ xs, x < M.mv.length) (F : List Nat) (q4 q5 : Option Pl) (fs : FS) (hF : SetOk M F) :
    (∃ q' : Option Pl × Option Pl, sFor (.nm 4) L1__law_come_from (lN xs) (StF M s F q3 q4 q5 fs) = some (.nx (StF M s (xs.foldl (sweepU M) F) q3 q'.1 q'.2 fs))) ∧ SetOk M (xs.foldl (sweepU M) F) := by
  rw [lN_map]
  refine sFor_fold (γ := Option Pl × Option Pl) (fun n : Nat => .int (n : Int)) (fun F q => StF M s F q3 q.1 q.2 fs) (SetOk M) (sweepU M) xs F (q4, q5) hF fun F x q hm hP => ?_
  obtain ⟨g1, g2, g3⟩ := h.mv_at (hx x hm)
  obtain ⟨⟨q', e⟩, ok⟩ := in_inner (s := s) h q3 (some (.val (.int (x : Int)))) (M.nx x) g3 F q.2 fs hP
  refine ⟨⟨(some (.val (.int (x : Int))), q'), ?_⟩, ok⟩
  simp [L1__law_come_from, g1, tN_eq, e]
  rfl
theorem in_outer (h : M.Ok) (m : Nat) (F : List Nat) (q3 q4 q5 : Option Pl) (fs : FS) (hF : SetOk M F) :
    (∃ q' : Option Pl × Option Pl × Option Pl, sFor (.nm 3) L2__law_come_from (lN (List.range m)) (StF M s F q3 q4 q5 fs) = some (.nx (StF M s ((List.range m).foldl (sweep M) F) q'.1 q'.2.1 q'.2.2 fs))) ∧ SetOk M ((List.range m).foldl (sweep M) F) := by
  rw [lN_map]
  refine sFor_fold (γ := Option Pl × Option Pl × Option Pl) (fun n : Nat => .int (n : Int)) (fun F q => StF M s F q.1 q.2.1 q.2.2 fs) (SetOk M) (sweep M) (List.range m) F (q3, q4, q5) hF fun F x q hm hP => ?_
  obtain ⟨⟨q', e⟩, ok⟩ := in_mid (s := s) h (some (.val (.int (x : Int)))) F hP.2 F q.2.1 q.2.2 fs hP
  refine ⟨⟨(some (.val (.int (x : Int))), q'.1, q'.2), ?_⟩, ok⟩
  have ek : (encF F).map (fun kv => kD kv.1) = lN F := by rw [lN_map]; simp [encF]; intro x _; rfl
  simp [L2__law_come_from, ek, e]
  rfl
def comeFrom (M : Mach) (s : Nat) : List Nat := (sortI (castL (laps M s M.mv.length))).map Int.toNat
theorem rangeD_lN (m : Nat) : rangeD 0 m = lN (List.range m) := by rw [lN_map]; simp [rangeD]
theorem laps_ok (h : M.Ok) (hs : s < M.mv.length) (m : Nat) : SetOk M (laps M s m) := (in_outer (s := s) h m [s] none none none ⟨[], 0, 0, 0⟩ ⟨by simp, fun t ht => by rw [List.mem_singleton.mp ht]; exact hs⟩).2
theorem d_come_from (h : M.Ok) (hs : s < M.mv.length) (fs : FS) : D__law_come_from [.val (mD M), .val (.int s)] fs = some (.ownL (lN (comeFrom M s)), fs) := by
  have h9 := h.n9
  obtain ⟨⟨q', e⟩, ok⟩ := in_outer (s := s) h M.mv.length [s] none none none fs ⟨by simp, fun t ht => by rw [List.mem_singleton.mp ht]; exact hs⟩
  have e0 : [((Sum.inl (s : Int) : Key), PyData.bool true)] = encF [s] := rfl
  have hr : rOk (M.mv.length : Int) = true := rOk_nat (by omega)
  have hl := ok.len
  have hl2 : (laps M s M.mv.length).length < 64 := Nat.lt_of_le_of_lt hl (by omega)
  have es := gSorted_d (kvs := (laps M s M.mv.length).map fun t : Nat => ((t : Int), PyData.bool true)) (by simpa using hl2)
  have e1 : ((laps M s M.mv.length).map fun t : Nat => ((t : Int), PyData.bool true)).map (fun p => ((Sum.inl p.1 : Key), p.2)) = encF (laps M s M.mv.length) := by simp [encF]
  have e2 : ((laps M s M.mv.length).map fun t : Nat => ((t : Int), PyData.bool true)).map (·.1) = castL (laps M s M.mv.length) := by simp [castL]
  rw [e1, e2] at es
  have e3 : lN (comeFrom M s) = (sortI (castL (laps M s M.mv.length))).map .int := by
    unfold comeFrom lN castL
    rw [List.map_map, List.map_map]
    refine List.map_congr_left fun i hi => ?_
    have : i ∈ castL (laps M s M.mv.length) := (List.mergeSort_perm _ _).mem_iff.mp hi
    have := castL_nn i this
    simp
    omega
  rw [← e3] at es
  have e4 : sFor (.nm 3) L2__law_come_from (rangeD 0 M.mv.length) ⟨[some (.val (mD M)), some (.val (.int s)), some (.ownK [(.inl (s : Int), .bool true)]), none, none, none], fs⟩ = some (.nx (StF M s (laps M s M.mv.length) q'.1 q'.2.1 q'.2.2 fs)) := by rw [rangeD_lN]; exact e
  simp [D__law_come_from, B__law_come_from, keyD, hr, e4, es]
end
end K8

set_option Elab.async false
set_option linter.all false
set_option maxRecDepth 100000
set_option maxHeartbeats 1000000
/-! K8t: the states that the law comes to are those that can be reached; stays and fronts. -/
namespace K8
open PySem PySem.Spec PyProof.Rows L2 PD
section
variable {M : Mach} {b s k : Nat} {l : Str} {fs : FS} {F : List Nat}
theorem addF_pre (F : List Nat) (t : Nat) : (∃ T, addF F t = F ++ T) ∧ t ∈ addF F t ∧ ∀ x ∈ addF F t, x ∈ F ∨ x = t := by
  unfold addF
  by_cases c : t ∈ F
  · rw [if_pos c]; exact ⟨⟨[], by simp⟩, c, fun x hx => .inl hx⟩
  · rw [if_neg c]; exact ⟨⟨[t], rfl⟩, by simp, fun x hx => by simpa using hx⟩
theorem fold_addF : ∀ (xs F : List Nat), (∃ T, xs.foldl addF F = F ++ T) ∧ (∀ x ∈ xs, x ∈ xs.foldl addF F) ∧ ∀ x ∈ xs.foldl addF F, x ∈ F ∨ x ∈ xs
  | [], F => ⟨⟨[], by simp⟩, fun _ h => (by cases h), fun x hx => .inl hx⟩
  | x :: xs, F => by
    obtain ⟨⟨T1, e1⟩, h2, h3⟩ := addF_pre F x
    obtain ⟨⟨T2, e2⟩, h4, h5⟩ := fold_addF xs (addF F x)
    refine ⟨⟨T1 ++ T2, by rw [List.foldl_cons, e2, e1, List.append_assoc]⟩, fun y hy => ?_, fun y hy => ?_⟩
    · rcases List.mem_cons.mp hy with rfl | hy
      · rw [List.foldl_cons, e2]
        exact List.mem_append_left _ h2
      · exact h4 y hy
    · rcases h5 y hy with h | h
      · rcases h3 y h with h | h
        · exact .inl h
        · exact .inr (by rw [h]; exact List.mem_cons_self)
      · exact .inr (List.mem_cons_of_mem _ h)
theorem fold_sweep : ∀ (us F : List Nat), (∃ T, us.foldl (sweepU M) F = F ++ T) ∧ (∀ u ∈ us, ∀ x ∈ M.nx u, x ∈ us.foldl (sweepU M) F) ∧ ∀ x ∈ us.foldl (sweepU M) F, x ∈ F ∨ ∃ u ∈ us, x ∈ M.nx u
  | [], F => ⟨⟨[], by simp⟩, fun _ h => (by cases h), fun x hx => .inl hx⟩
  | u :: us, F => by
    obtain ⟨⟨T1, e1⟩, h2, h3⟩ := fold_addF (M.nx u) F
    obtain ⟨⟨T2, e2⟩, h4, h5⟩ := fold_sweep us (sweepU M F u)
    refine ⟨⟨T1 ++ T2, by rw [List.foldl_cons, e2]; unfold sweepU; rw [e1, List.append_assoc]⟩, fun y hy x hx => ?_, fun y hy => ?_⟩
    · rcases List.mem_cons.mp hy with rfl | hy
      · rw [List.foldl_cons, e2]
        exact List.mem_append_left _ (h2 x hx)
      · exact h4 y hy x hx
    · rcases h5 y hy with h | ⟨v, hv, h⟩
      · rcases h3 y h with h | h
        · exact .inl h
        · exact .inr ⟨u, List.mem_cons_self, h⟩
      · exact .inr ⟨v, List.mem_cons_of_mem _ hv, h⟩
theorem laps_succ (m : Nat) : laps M s (m + 1) = sweep M (laps M s m) 0 := by
  unfold laps
  rw [List.range_succ, List.foldl_append]
  rfl
theorem laps_pre (m : Nat) : ∃ T, laps M s (m + 1) = laps M s m ++ T := by
  rw [laps_succ]
  exact (fold_sweep _ _).1
theorem laps_fix (h : M.Ok) (hs : s < M.mv.length) : ∃ i, i < M.mv.length ∧ laps M s (i + 1) = laps M s i := by
  apply Classical.byContradiction
  intro hno
  have grow : ∀ i, i ≤ M.mv.length → i + 1 ≤ (laps M s i).length := by
    intro i
    induction i with
    | zero => intro _; simp [laps]
    | succ i ih =>
      intro hi
      have h1 := ih (by omega)
      obtain ⟨T, hT⟩ := laps_pre (M := M) (s := s) i
      have h2 : T ≠ [] := fun z => hno ⟨i, by omega, by rw [hT, z, List.append_nil]⟩
      have h3 : 0 < T.length := List.length_pos_iff.mpr h2
      rw [hT, List.length_append]
      omega
  have h1 := grow M.mv.length (Nat.le_refl _)
  have h2 := (laps_ok h hs M.mv.length).len
  omega
theorem laps_const {i : Nat} (e : laps M s (i + 1) = laps M s i) : ∀ j, laps M s (i + j) = laps M s i
  | 0 => rfl
  | j + 1 => by
    have ih := laps_const e j
    rw [← Nat.add_assoc, laps_succ, ih, ← laps_succ, e]
theorem nx_st (h : M.Ok) (hs : s < M.mv.length) {t : Nat} : t ∈ M.nx s ↔ ∃ l ∈ M.ls, M.st s l = t := by
  obtain ⟨_, g2, g3⟩ := h.mv_at hs
  constructor
  · intro ht
    obtain ⟨j, hj, e⟩ := List.getElem_of_mem ht
    have hj1 : j < M.ls.length := by omega
    have hx : M.ls[j]? = some M.ls[j] := List.getElem?_eq_getElem hj1
    have e3 : M.lx M.ls[j] = j := by simp [Mach.lx, idx_of h.ln.asc hx]
    exact ⟨M.ls[j], List.getElem_mem hj1, by simp [Mach.st, e3, hj, e]⟩
  · rintro ⟨l, hl, rfl⟩
    exact List.mem_of_getElem? (M.st_lt h hs hl).2.1
theorem mem_laps (h : M.Ok) (hs : s < M.mv.length) {t : Nat} : t ∈ laps M s M.mv.length ↔ t ∈ keysM M s := by
  rw [keysM_iff h hs]
  constructor
  · have aux : ∀ (m t : Nat), t ∈ laps M s m → ∃ r : List Str, (∀ l ∈ r, l ∈ M.ls) ∧ M.fin s r = t := by
      intro m
      induction m with
      | zero =>
        intro t ht
        have : t = s := by simpa [laps] using ht
        exact ⟨[], fun _ h => (by cases h), this.symm⟩
      | succ m ih =>
        intro t ht
        rw [laps_succ] at ht
        rcases (fold_sweep _ _).2.2 t ht with h1 | ⟨u, hu, h1⟩
        · exact ih t h1
        · obtain ⟨r, hr, e⟩ := ih u hu
          have hu' := (laps_ok h hs m).2 u hu
          obtain ⟨l, hl, e2⟩ := (nx_st h hu').mp h1
          refine ⟨r ++ [l], fun x hx => ?_, by rw [Mach.fin_app, e]; exact e2⟩
          rcases List.mem_append.mp hx with h2 | h2
          · exact hr x h2
          · rw [List.mem_singleton.mp h2]; exact hl
    exact aux _ t
  · rintro ⟨r, hr, rfl⟩
    obtain ⟨i, hi, e⟩ := laps_fix h hs
    have en : laps M s M.mv.length = laps M s i := by
      have := laps_const e (M.mv.length - i)
      rw [show i + (M.mv.length - i) = M.mv.length by omega] at this
      exact this
    have closed : ∀ u ∈ laps M s i, ∀ x ∈ M.nx u, x ∈ laps M s i := fun u hu x hx => by
      rw [← e, laps_succ]
      exact (fold_sweep _ _).2.1 u hu x hx
    have base : ∀ m, s ∈ laps M s m := by
      intro m
      induction m with
      | zero => simp [laps]
      | succ m ih =>
        obtain ⟨T, hT⟩ := laps_pre (M := M) (s := s) m
        rw [hT]
        exact List.mem_append_left _ ih
    rw [en]
    have aux : ∀ (r : List Str) (u : Nat), u ∈ laps M s i → (∀ l ∈ r, l ∈ M.ls) → M.fin u r ∈ laps M s i := by
      intro r
      induction r with
      | nil => intro u hu _; exact hu
      | cons l r ih =>
        intro u hu hr
        have hu' := (laps_ok h hs i).2 u hu
        exact ih _ (closed u hu _ ((nx_st h hu').mpr ⟨l, hr l List.mem_cons_self, rfl⟩)) fun x hx => hr x (List.mem_cons_of_mem _ hx)
    exact aux r s (base i) hr
theorem mem_comeFrom (h : M.Ok) (hs : s < M.mv.length) {t : Nat} : t ∈ comeFrom M s ↔ t ∈ keysM M s := by
  rw [← mem_laps h hs]
  unfold comeFrom
  rw [List.mem_map]
  constructor
  · rintro ⟨i, hi, rfl⟩
    have : i ∈ castL (laps M s M.mv.length) := (List.mergeSort_perm _ _).mem_iff.mp hi
    obtain ⟨n, hn, rfl⟩ := List.mem_map.mp this
    exact hn
  · intro ht
    exact ⟨(t : Int), (List.mergeSort_perm _ _).mem_iff.mpr (List.mem_map.mpr ⟨t, ht, rfl⟩), by simp⟩
theorem comeFrom_lt (h : M.Ok) (hs : s < M.mv.length) : ∀ t ∈ comeFrom M s, t < M.mv.length := fun t ht => keysM_lt h hs t ((mem_comeFrom h hs).mp ht)
theorem comeFrom_len (h : M.Ok) (hs : s < M.mv.length) : (comeFrom M s).length ≤ M.mv.length := by
  have := (laps_ok h hs M.mv.length).len
  unfold comeFrom
  rw [List.length_map]
  have e : (sortI (castL (laps M s M.mv.length))).length = (castL (laps M s M.mv.length)).length := (List.mergeSort_perm _ _).length_eq
  rw [e, castL_len]
  exact this
/-! ### stays and fronts -/
/-- a way of a steps more within O begins at t; one of a steps ends at t -/
def Bg (M : Mach) (O : Nat → Prop) : Nat → Nat → Prop
  | 0, t => O t
  | a + 1, t => O t ∧ ∃ u ∈ M.nx t, Bg M O a u
def En (M : Mach) (O : Nat → Prop) : Nat → Nat → Prop
  | 0, t => O t
  | a + 1, t => O t ∧ ∃ u, En M O a u ∧ t ∈ M.nx u
theorem Bg.o {O : Nat → Prop} : ∀ {a t : Nat}, Bg M O a t → O t
  | 0, _, h => h
  | _ + 1, _, h => h.1
theorem En.o {O : Nat → Prop} : ∀ {a t : Nat}, En M O a t → O t
  | 0, _, h => h
  | _ + 1, _, h => h.1
theorem Bg.down {O : Nat → Prop} : ∀ {a t : Nat}, Bg M O (a + 1) t → Bg M O a t
  | 0, _, h => h.1
  | a + 1, _, ⟨h1, u, h2, h3⟩ => ⟨h1, u, h2, Bg.down h3⟩
theorem bg_en {O : Nat → Prop} : ∀ (j i : Nat), (∃ t, En M O i t ∧ Bg M O j t) ↔ ∃ t, En M O (i + j) t
  | 0, i => ⟨fun ⟨t, h, _⟩ => ⟨t, h⟩, fun ⟨t, h⟩ => ⟨t, h, h.o⟩⟩
  | j + 1, i => by
    rw [show i + (j + 1) = i + 1 + j by omega, ← bg_en j (i + 1)]
    constructor
    · rintro ⟨t, h1, h2, u, hu, h3⟩
      exact ⟨u, ⟨h3.o, t, h1, hu⟩, h3⟩
    · rintro ⟨t, ⟨h1, u, h2, hu⟩, h3⟩
      exact ⟨u, h2, h2.o, t, hu, h3⟩
theorem mem_ld {xs : List Nat} {t : Nat} : ∀ {a : Nat}, t ∈ ld M xs a ↔ Bg M (· ∈ xs) a t := by
  intro a
  induction a generalizing t with
  | zero => exact Iff.rfl
  | succ a ih =>
    show t ∈ lead M (ld M xs a) ↔ _
    unfold lead
    rw [List.mem_filter]
    unfold leadB
    rw [List.any_eq_true, ih]
    constructor
    · rintro ⟨h1, u, hu, h2⟩
      exact ⟨h1.o, u, hu, ih.mp (of_decide_eq_true h2)⟩
    · rintro ⟨h1, u, hu, h2⟩
      exact ⟨Bg.down ⟨h1, u, hu, h2⟩, u, hu, decide_eq_true (ih.mpr h2)⟩
/-- the law's fronts -/
def frontN (M : Mach) (other : List Nat) (f0 : List Nat) : Nat → List Nat
  | 0 => f0
  | a + 1 => other.filter fun t => (frontN M other f0 a).any fun u => decide (t ∈ M.nx u)
def other (M : Mach) (s k : Nat) : List Nat := (List.range M.mv.length).filter fun t => !decide (M.as t k = M.as s k)
def front (M : Mach) (s k : Nat) (a : Nat) : List Nat := frontN M (other M s k) ((other M s k).filter fun t => decide (t ∈ comeFrom M s)) a
theorem mem_front (h : M.Ok) (hs : s < M.mv.length) {t : Nat} : ∀ {a : Nat}, t ∈ front M s k a ↔ En M (· ∈ others M s k) a t := by
  have hO : ∀ {t : Nat}, t ∈ others M s k ↔ t ∈ other M s k ∧ t ∈ keysM M s := fun {t} => by
    unfold others other
    rw [List.mem_filter, List.mem_filter, List.mem_range]
    exact ⟨fun ⟨a, b⟩ => ⟨⟨keysM_lt h hs t a, b⟩, a⟩, fun ⟨⟨a, b⟩, c⟩ => ⟨c, b⟩⟩
  intro a
  induction a generalizing t with
  | zero =>
    show t ∈ (other M s k).filter _ ↔ t ∈ others M s k
    rw [List.mem_filter, hO]
    simp [mem_comeFrom h hs]
  | succ a ih =>
    show t ∈ (other M s k).filter _ ↔ _
    rw [List.mem_filter, List.any_eq_true]
    constructor
    · rintro ⟨h1, u, hu, h2⟩
      have hu' := ih.mp hu
      have hku := (hO.mp hu'.o).2
      have h2 := of_decide_eq_true h2
      refine ⟨hO.mpr ⟨h1, ?_⟩, u, hu', h2⟩
      obtain ⟨r, hr, e⟩ := (keysM_iff h hs).mp hku
      obtain ⟨l, hl, e2⟩ := (nx_st h (keysM_lt h hs u hku)).mp h2
      refine (keysM_iff h hs).mpr ⟨r ++ [l], fun x hx => ?_, by rw [Mach.fin_app, e]; exact e2⟩
      rcases List.mem_append.mp hx with h3 | h3
      · exact hr x h3
      · rw [List.mem_singleton.mp h3]; exact hl
    · rintro ⟨h1, u, hu, h2⟩
      exact ⟨(hO.mp h1).1, u, ih.mpr hu, decide_eq_true h2⟩
theorem front_ld (h : M.Ok) (hs : s < M.mv.length) (a : Nat) : front M s k a = [] ↔ ld M (others M s k) a = [] := by
  rw [List.eq_nil_iff_forall_not_mem, List.eq_nil_iff_forall_not_mem]
  have key : (∃ t, t ∈ front M s k a) ↔ ∃ t, t ∈ ld M (others M s k) a := by
    have e := bg_en (M := M) (O := (· ∈ others M s k)) a 0
    rw [Nat.zero_add] at e
    constructor
    · rintro ⟨t, ht⟩
      obtain ⟨u, _, hu⟩ := e.mpr ⟨t, (mem_front h hs).mp ht⟩
      exact ⟨u, mem_ld.mpr hu⟩
    · rintro ⟨t, ht⟩
      have hb := mem_ld.mp ht
      obtain ⟨u, hu⟩ := e.mp ⟨t, hb.o, hb⟩
      exact ⟨u, (mem_front h hs).mpr hu⟩
  constructor
  · intro h1 t ht
    obtain ⟨u, hu⟩ := key.mpr ⟨t, ht⟩
    exact h1 u hu
  · intro h1 t ht
    obtain ⟨u, hu⟩ := key.mp ⟨t, ht⟩
    exact h1 u hu
end
end K8

set_option Elab.async false
set_option linter.all false
set_option maxRecDepth 100000
set_option maxHeartbeats 1000000
/-! K8u: the least age, by the stays. -/
namespace K8
open PySem PySem.Spec PyProof.Rows L2 PD
section
variable {M : Mach} {b s k : Nat} {l : Str} {fs : FS} {xs : List Nat}
theorem ld_const {i : Nat} (e : ld M xs (i + 1) = ld M xs i) : ∀ j, ld M xs (i + j) = ld M xs i
  | 0 => rfl
  | j + 1 => by
    have ih := ld_const e j
    show lead M (ld M xs (i + j)) = _
    rw [ih]
    exact e
theorem ld_mono : ∀ (i j : Nat), ∀ x ∈ ld M xs (i + j), x ∈ ld M xs i
  | i, 0, x, hx => hx
  | i, j + 1, x, hx => ld_mono i j x (lead_sub _ x hx)
theorem filter_fix {p : Nat → Bool} : ∀ {ys : List Nat}, ys.length ≤ (ys.filter p).length → ys.filter p = ys
  | [], _ => rfl
  | y :: ys, h => by
    have h0 := List.length_filter_le p ys
    cases hp : p y with
    | true =>
      rw [List.filter_cons_of_pos hp] at h ⊢
      rw [filter_fix (by simpa using h)]
    | false =>
      rw [List.filter_cons_of_neg (by rw [hp]; exact Bool.false_ne_true)] at h
      simp at h
      omega
/-- the stays grow shorter until they stand still -/
theorem ld_shrink (q : Nat) (h : ∀ j, j < q → ld M xs (j + 1) ≠ ld M xs j) : ∀ i, i ≤ q → (ld M xs i).length + i ≤ xs.length
  | 0, _ => Nat.le_refl _
  | i + 1, hi => by
    have ih := ld_shrink q h i (by omega)
    have h1 : ¬ (ld M xs i).length ≤ (ld M xs (i + 1)).length := fun z => h i (by omega) (filter_fix z)
    omega
theorem longest_le {q : Nat} (h : longest M xs = some q) : q ≤ xs.length := by
  obtain ⟨h1, _, h3⟩ := longest_some h
  have := ld_shrink (M := M) (xs := xs) q (fun j hj e => by
    have hc := ld_const e (q - j)
    rw [show j + (q - j) = q by omega, h1] at hc
    exact h3 j hj hc.symm) q (Nat.le_refl _)
  omega
theorem longest_past (hl : xs.length ≤ M.mv.length) (a : Nat) : pastB (longest M xs) (a : Int) = true ↔ ld M xs a ≠ [] := by
  cases e : longest M xs with
  | some q =>
    obtain ⟨h1, _, h3⟩ := longest_some e
    show decide ((a : Int) < (q : Int)) = true ↔ _
    rw [decide_eq_true_eq]
    constructor
    · intro h; exact h3 a (by omega)
    · intro h
      by_cases c : a < q
      · omega
      · exfalso
        apply h
        rw [List.eq_nil_iff_forall_not_mem]
        intro x hx
        have := ld_mono (M := M) (xs := xs) q (a - q) x (by rw [show q + (a - q) = a by omega]; exact hx)
        rw [h1] at this
        cases this
  | none =>
    have hn := longest_none.mp e
    refine ⟨fun _ => ?_, fun _ => rfl⟩
    have : ∃ i, i < M.mv.length + 1 ∧ ld M xs (i + 1) = ld M xs i := by
      apply Classical.byContradiction
      intro hno
      have := ld_shrink (M := M) (xs := xs) (M.mv.length + 1) (fun j hj e => hno ⟨j, hj, e⟩) (M.mv.length + 1) (Nat.le_refl _)
      omega
    obtain ⟨i, hi, e2⟩ := this
    by_cases c : a ≤ i
    · exact hn a (by omega)
    · have hc := ld_const e2 (a - i)
      rw [show i + (a - i) = a by omega] at hc
      rw [hc]
      exact hn i (by omega)
theorem foldl_max_lt : ∀ (ns : List Nat) (m a : Nat), a < ns.foldl max m ↔ a < m ∨ ∃ n ∈ ns, a < n
  | [], m, a => by simp
  | n :: ns, m, a => by
    rw [List.foldl_cons, foldl_max_lt ns (max m n) a]
    simp only [List.mem_cons, exists_eq_or_imp]
    constructor
    · rintro (h | h)
      · by_cases c : a < m
        · exact .inl c
        · exact .inr (.inl (by omega))
      · exact .inr (.inr h)
    · rintro (h | h | h)
      · exact .inl (by omega)
      · exact .inl (by omega)
      · exact .inr h
/-- the answers change later than the age: some state has a way that is long enough -/
theorem leastAge_past (h : M.Ok) (a : Nat) : pastB (leastAge M k) (a : Int) = true ↔ ∃ s ∈ keysM M 0, ld M (others M s k) a ≠ [] := by
  have h0 : 0 < M.mv.length := h.n1
  have hp : ∀ s ∈ keysM M 0, (pastB (longest M (others M s k)) (a : Int) = true ↔ ld M (others M s k) a ≠ []) := fun s hs => longest_past (others_len h (keysM_lt h h0 s hs)) a
  unfold leastAge
  by_cases c : (stays M k).all Option.isSome = true
  · rw [if_pos c]
    show decide ((a : Int) < ((_ : Nat) : Int)) = true ↔ _
    rw [decide_eq_true_eq, Int.ofNat_lt, foldl_max_lt]
    have c' := List.all_eq_true.mp c
    constructor
    · rintro (h | ⟨n, hn, hlt⟩)
      · omega
      · obtain ⟨o, ho, rfl⟩ := List.mem_map.mp hn
        obtain ⟨s, hs, rfl⟩ := List.mem_map.mp ho
        refine ⟨s, hs, (hp s hs).mp ?_⟩
        have := c' _ ho
        cases e : longest M (others M s k) with
        | none => rw [e] at this; cases this
        | some q =>
          rw [e] at hlt
          show decide ((a : Int) < (q : Int)) = true
          have : a < q := hlt
          exact decide_eq_true (by omega)
    · rintro ⟨s, hs, hl⟩
      have ho : longest M (others M s k) ∈ stays M k := List.mem_map.mpr ⟨s, hs, rfl⟩
      have := c' _ ho
      refine .inr ⟨(longest M (others M s k)).getD 0, List.mem_map.mpr ⟨_, ho, rfl⟩, ?_⟩
      have h2 := (hp s hs).mpr hl
      cases e : longest M (others M s k) with
      | none => rw [e] at this; cases this
      | some q =>
        rw [e] at h2
        have h3 : (a : Int) < (q : Int) := of_decide_eq_true h2
        show a < q
        omega
  · rw [if_neg c]
    refine ⟨fun _ => ?_, fun _ => rfl⟩
    have : ∃ o ∈ stays M k, o.isSome = false := by
      apply Classical.byContradiction
      intro hno
      apply c
      rw [List.all_eq_true]
      intro o ho
      cases e : o.isSome with
      | true => rfl
      | false => exact absurd ⟨o, ho, e⟩ hno
    obtain ⟨o, ho, e⟩ := this
    obtain ⟨s, hs, rfl⟩ := List.mem_map.mp ho
    refine ⟨s, hs, (hp s hs).mp ?_⟩
    cases e2 : longest M (others M s k) with
    | none => rfl
    | some q => rw [e2] at e; cases e
theorem others_len' (h : M.Ok) (hs : s < M.mv.length) : (others M s k).length + 1 ≤ M.mv.length := by
  have h1 : s ∉ others M s k := fun z => by
    have := (List.mem_filter.mp z).2
    simp at this
  have nd : (others M s k).Nodup := (rowsM_spec h hs).1.nd.filter _
  have := nodup_len M.mv.length (s :: others M s k) (List.nodup_cons.mpr ⟨h1, nd⟩) fun x hx => by
    rcases List.mem_cons.mp hx with rfl | hx
    · exact hs
    · exact others_lt h hs x hx
  simpa using this
theorem leastAge_le (h : M.Ok) {q : Nat} (e : leastAge M k = some q) : q ≤ 8 := by
  have h9 := h.n9
  have h0 : 0 < M.mv.length := h.n1
  apply Classical.byContradiction
  intro hq
  have h1 : pastB (leastAge M k) ((8 : Nat) : Int) = true := by
    rw [e]
    exact decide_eq_true (by omega)
  obtain ⟨s, hs, hl⟩ := (leastAge_past h 8).mp h1
  have h2 := (longest_past (others_len h (keysM_lt h h0 s hs)) 8).mpr hl
  have hs' := keysM_lt h h0 s hs
  have h3 := others_len' (k := k) h hs'
  unfold leastAge at e
  by_cases c : (stays M k).all Option.isSome = true
  · have ho : longest M (others M s k) ∈ stays M k := List.mem_map.mpr ⟨s, hs, rfl⟩
    have := List.all_eq_true.mp c _ ho
    cases e2 : longest M (others M s k) with
    | none => rw [e2] at this; cases this
    | some r =>
      have h4 := longest_le e2
      rw [e2] at h2
      have h5 : ((8 : Nat) : Int) < (r : Int) := of_decide_eq_true h2
      omega
  · rw [if_neg c] at e
    cases e
end
end K8

set_option Elab.async false
set_option linter.all false
set_option maxRecDepth 100000
set_option maxHeartbeats 1000000
/-! K8v: the law's ages. -/
namespace K8
open PySem PySem.Spec PyProof.Rows L2 PD
def runA (fr : Nat → List Nat) : Nat → Nat → List Bool → List Bool
  | 0, _, fnd => fnd
  | m + 1, i, fnd => if fr i = [] then fnd else runA fr m (i + 1) (fnd.set i true)
theorem runA_len (fr : Nat → List Nat) : ∀ (m i : Nat) (fnd : List Bool), (runA fr m i fnd).length = fnd.length
  | 0, _, _ => rfl
  | m + 1, i, fnd => by
    unfold runA
    by_cases c : fr i = []
    · rw [if_pos c]
    · rw [if_neg c, runA_len fr m]; simp
theorem runA_get (fr : Nat → List Nat) (mono : ∀ i, fr i = [] → fr (i + 1) = []) : ∀ (m i : Nat) (fnd : List Bool) (a : Nat), i + m ≤ fnd.length → a < fnd.length → (runA fr m i fnd)[a]? = some ((fnd[a]?.getD false) || (decide (i ≤ a ∧ a < i + m) && !decide (fr a = [])))
  | 0, i, fnd, a, _, ha => by
    have e : decide (i ≤ a ∧ a < i + 0) = false := decide_eq_false (by omega)
    rw [e]
    show fnd[a]? = _
    simp [ha]
  | m + 1, i, fnd, a, hi, ha => by
    unfold runA
    by_cases c : fr i = []
    · rw [if_pos c]
      have all : ∀ j, fr (i + j) = [] := by
        intro j
        induction j with
        | zero => exact c
        | succ j ih => exact mono _ ih
      by_cases h : i ≤ a
      · have := all (a - i)
        rw [show i + (a - i) = a by omega] at this
        simp [this, ha]
      · have e : decide (i ≤ a ∧ a < i + (m + 1)) = false := decide_eq_false (by omega)
        simp [e, ha]
    · rw [if_neg c, runA_get fr mono m (i + 1) (fnd.set i true) a (by simp; omega) (by simp; exact ha)]
      by_cases h : a = i
      · subst h
        have e1 : decide (a ≤ a ∧ a < a + (m + 1)) = true := decide_eq_true (by omega)
        rw [e1, List.getElem?_set_self ha]
        simp [c]
      · rw [List.getElem?_set_ne (by omega)]
        by_cases h2 : i ≤ a ∧ a < i + (m + 1)
        · have e1 : decide (i ≤ a ∧ a < i + (m + 1)) = true := decide_eq_true h2
          have e2 : decide (i + 1 ≤ a ∧ a < i + 1 + m) = true := decide_eq_true (by omega)
          rw [e1, e2]
        · have e1 : decide (i ≤ a ∧ a < i + (m + 1)) = false := decide_eq_false h2
          have e2 : decide (i + 1 ≤ a ∧ a < i + 1 + m) = false := decide_eq_false (by omega)
          rw [e1, e2]
section
variable {M : Mach} {b s k : Nat} {l : Str} {fs : FS} {xs : List Nat}
theorem shaped_tN (xs : List Nat) : SeqAt.shaped (.tuple (lN xs)) = true := by
  refine shaped_tupleI fun d hd => ?_
  rw [lN_map] at hd
  obtain ⟨n, _, rfl⟩ := List.mem_map.mp hd
  exact ⟨rfl, Nat.zero_le _⟩
abbrev StA (M : Mach) (k : Nat) (fnd : List Bool) (q3 q4 q5 q6 q7 : Option Pl) (fs : FS) : DS := ⟨[some (.val (mD M)), some (.val (.int k)), some (.ownL (fnd.map .bool)), q3, q4, q5, q6, q7, none, none], fs⟩
theorem front_turn (h : M.Ok) (fnd : List Bool) (q3 q5 q7 : Option Pl) (ot fr : List Nat) (ho : ∀ t ∈ ot, t < M.mv.length) (hf : ∀ t ∈ fr, t < M.mv.length) (hl : fr.length ≤ 1000) (hl2 : ot.length ≤ 1000) (fs : FS) (q6 : Pl) (hq : q6 = .ownL (lN fr) ∨ q6 = .val (.list (lN fr))) :
    ∃ q6' : Pl, lcLoop [8] (.nm 8) Ct3__law_ages Ce3__law_ages (lN ot) [] (StA M k fnd q3 (some (.val (.list (lN ot)))) q5 (some q6) q7 fs) = some (lN (ot.filter fun t => fr.any fun u => decide (t ∈ M.nx u)), StA M k fnd q3 (some (.val (.list (lN ot)))) q5 (some q6') q7 fs) := by
  have hz := sizeLine_eq
  have key : ∀ (t : Nat) (q6 : Pl), t ∈ ot → (q6 = .ownL (lN fr) ∨ q6 = .val (.list (lN fr))) → turnT [8] (.nm 8) Ct3__law_ages Ce3__law_ages (.int (t : Int)) (StA M k fnd q3 (some (.val (.list (lN ot)))) q5 (some q6) q7 fs) =
      some (if (fr.any fun u => decide (t ∈ M.nx u)) = true then some (.val (.int (t : Int))) else none, StA M k fnd q3 (some (.val (.list (lN ot)))) q5 (some (.val (.list (lN fr)))) q7 fs) := fun t q6 ht hq => by
    have e := lc_states (vs := [9]) (t := .nm 9) (ft := Ct2__law_ages) (fe := Ce2__law_ages) (fun u => decide (t ∈ M.nx u)) fr ⟨[some (.val (mD M)), some (.val (.int k)), some (.ownL (fnd.map .bool)), q3, some (.val (.list (lN ot))), q5, some (.val (.list (lN fr))), q7, some (.val (.int (t : Int))), none], fs⟩ (by omega) fun u hu => by
      obtain ⟨g1, g2, g3⟩ := h.mv_at (hf u hu)
      by_cases c : t ∈ M.nx u
      · simp [Ct2__law_ages, Ce2__law_ages, g1, tN_eq, shaped_int, shaped_tN, any_eqv_lN, c]
      · simp [Ct2__law_ages, Ce2__law_ages, g1, tN_eq, shaped_int, shaped_tN, any_eqv_lN, c]
    have e2 : (lN (fr.filter fun u => decide (t ∈ M.nx u))).isEmpty = !(fr.any fun u => decide (t ∈ M.nx u)) := by
      rw [Bool.eq_iff_iff]
      simp [lN_map]
    have en : SeqAt.shaped (.list []) = true := rfl
    cases c : (fr.any fun u => decide (t ∈ M.nx u)) with
    | true =>
      rw [c] at e2
      simp only [Bool.not_true] at e2
      rcases hq with rfl | rfl <;> simp [Ct3__law_ages, Ce3__law_ages, plainAt, e, shaped_lN, en, PyData.eqv, eqvAll_nil, e2]
    | false =>
      rw [c] at e2
      simp only [Bool.not_false] at e2
      rcases hq with rfl | rfl <;> simp [Ct3__law_ages, Ce3__law_ages, plainAt, e, shaped_lN, en, PyData.eqv, eqvAll_nil, e2]
  obtain ⟨s', e1, q6', _, rfl⟩ := lc_turnI (vs := [8]) (t := .nm 8) (ft := Ct3__law_ages) (fe := Ce3__law_ages) (fun n : Nat => .int (n : Int)) (fun s => ∃ q6 : Pl, (q6 = .ownL (lN fr) ∨ q6 = .val (.list (lN fr))) ∧ s = StA M k fnd q3 (some (.val (.list (lN ot)))) q5 (some q6) q7 fs)
    (fun t => fr.any fun u => decide (t ∈ M.nx u)) (fun n : Nat => .int (n : Int)) ot (StA M k fnd q3 (some (.val (.list (lN ot)))) q5 (some q6) q7 fs) (by omega) (fun t ht s hs => by
      obtain ⟨q6, hq6, rfl⟩ := hs
      exact ⟨_, key t q6 ht hq6, _, .inr rfl, rfl⟩) ⟨q6, hq, rfl⟩
  refine ⟨q6', ?_⟩
  rw [← lN_map, ← lN_map] at e1
  exact e1
theorem front_mono (ot f0 : List Nat) (i : Nat) (h : frontN M ot f0 i = []) : frontN M ot f0 (i + 1) = [] := by
  show ot.filter _ = []
  rw [h]
  simp
theorem front_sub (ot f0 : List Nat) (h0 : ∀ t ∈ f0, t ∈ ot) (hl : f0.length ≤ ot.length) : ∀ i, (∀ t ∈ frontN M ot f0 i, t ∈ ot) ∧ (frontN M ot f0 i).length ≤ ot.length
  | 0 => ⟨h0, hl⟩
  | i + 1 => ⟨fun t ht => (List.mem_filter.mp ht).1, List.length_filter_le _ _⟩
/-- the ages, from the i-th on -/
theorem ages_loop (h : M.Ok) (q3 q5 : Option Pl) (ot f0 : List Nat) (ho : ∀ t ∈ ot, t < M.mv.length) (hol : ot.length ≤ 1000) (h0 : ∀ t ∈ f0, t ∈ ot) (hl : f0.length ≤ ot.length) (fs : FS) : ∀ (m i : Nat) (fnd : List Bool) (q7 : Option Pl), i + m = 9 → fnd.length = 9 →
    ∃ q6' q7', sFor (.nm 7) L0__law_ages ((List.range' i m).map fun n : Nat => .int (n : Int)) (StA M k fnd q3 (some (.val (.list (lN ot)))) q5 (some (.ownL (lN (frontN M ot f0 i)))) q7 fs) =
      some (.nx (StA M k (runA (frontN M ot f0) m i fnd) q3 (some (.val (.list (lN ot)))) q5 q6' q7' fs))
  | 0, i, fnd, q7, _, _ => ⟨_, _, rfl⟩
  | m + 1, i, fnd, q7, hi, hlen => by
    have en : SeqAt.shaped (.list []) = true := rfl
    obtain ⟨hs1, hs2⟩ := front_sub (M := M) ot f0 h0 hl i
    rw [List.range'_succ, List.map_cons, sFor_cons, put_nm, Option.bind_some]
    unfold runA
    by_cases c : frontN M ot f0 i = []
    · rw [if_pos c, c]
      refine ⟨some (.ownL (lN [])), some (.val (.int (i : Int))), ?_⟩
      simp [L0__law_ages, lN_nil, en, PyData.eqv, eqvAll_nil]
    · rw [if_neg c]
      have e1 : (lN (frontN M ot f0 i)).isEmpty = false := by
        cases e2 : frontN M ot f0 i with
        | nil => exact absurd e2 c
        | cons a r => rfl
      have hfi : ∀ t ∈ frontN M ot f0 i, t < M.mv.length := fun t ht => ho t (hs1 t ht)
      obtain ⟨f2, hf2⟩ : ∃ f2, f2 = fnd.set i true := ⟨_, rfl⟩
      have hlen2 : f2.length = 9 := by rw [hf2]; simpa using hlen
      have es : (fnd.map PyData.bool).set i (.bool true) = f2.map .bool := by rw [hf2, List.map_set]
      rw [← hf2]
      obtain ⟨q6', e3⟩ := front_turn (k := k) h f2 q3 q5 (some (.val (.int (i : Int)))) ot (frontN M ot f0 i) ho hfi (by omega) hol fs (.ownL (lN (frontN M ot f0 i))) (.inl rfl)
      obtain ⟨q6'', q7'', e4⟩ := ages_loop h q3 q5 ot f0 ho hol h0 hl fs m (i + 1) f2 (some (.val (.int (i : Int)))) (by omega) hlen2
      refine ⟨q6'', q7'', ?_⟩
      have ei : ixN fnd.length (i : Int) = some i := by
        unfold ixN
        simp
        omega
      have c2 : L0__law_ages (StA M k fnd q3 (some (.val (.list (lN ot)))) q5 (some (.ownL (lN (frontN M ot f0 i)))) (some (.val (.int (i : Int)))) fs) = some (.nx (StA M k f2 q3 (some (.val (.list (lN ot)))) q5 (some (.ownL (lN (frontN M ot f0 (i + 1))))) (some (.val (.int (i : Int)))) fs)) := by
        show _ = some (Out.nx (StA M k f2 q3 (some (.val (.list (lN ot)))) q5 (some (.ownL (lN (ot.filter fun t => (frontN M ot f0 i).any fun u => decide (t ∈ M.nx u))))) (some (.val (.int (i : Int)))) fs))
        generalize frontN M ot f0 i = fr at e1 e3 ⊢
        simp [L0__law_ages, shaped_lN, en, PyData.eqv, eqvAll_nil, e1, ei, es, plainAt, e3]
      show (L0__law_ages (StA M k fnd q3 (some (.val (.list (lN ot)))) q5 (some (.ownL (lN (frontN M ot f0 i)))) (some (.val (.int (i : Int)))) fs)).bind _ = _
      rw [c2]
      exact e4
end
end K8

set_option Elab.async false
set_option linter.all false
set_option maxRecDepth 100000
set_option maxHeartbeats 1000000
/-! K8w: the law's ages are what the program answers. -/
namespace K8
open PySem PySem.Spec PyProof.Rows L2 PD
section
variable {M : Mach} {b s k : Nat} {l : Str} {fs : FS} {xs : List Nat}
theorem ages_turn (h : M.Ok) (hk : k < M.ks.length) (hs : s < M.mv.length) (fnd : List Bool) (hl : fnd.length = 9) (q4 q5 q6 q7 : Option Pl) (fs : FS) :
    ∃ q4' q5' q6' q7', L1__law_ages (StA M k fnd (some (.val (.int s))) q4 q5 q6 q7 fs) = some (.nx (StA M k (runA (front M s k) 9 0 fnd) (some (.val (.int s))) q4' q5' q6' q7' fs)) := by
  have hz := sizeLine_eq
  have h9 := h.n9
  have hr : rOk (M.mv.length : Int) = true := rOk_nat (by omega)
  have hr9 : rOk (9 : Int) = true := rfl
  obtain ⟨rs, a1, a2⟩ := h.an_at hs hk
  have e1 := lc_states (vs := [8]) (t := .nm 8) (ft := Ct0__law_ages) (fe := Ce0__law_ages) (fun t => !decide (M.as t k = M.as s k)) (List.range M.mv.length) (StA M k fnd (some (.val (.int s))) q4 q5 q6 q7 fs) (by simp; omega) fun t ht => by
    obtain ⟨rt, b1, b2⟩ := h.an_at (List.mem_range.mp ht) hk
    by_cases c : M.as t k = M.as s k
    · simp [Ct0__law_ages, Ce0__law_ages, a1, a2, b1, b2, shaped_int, PyData.eqv, c]
    · simp [Ct0__law_ages, Ce0__law_ages, a1, a2, b1, b2, shaped_int, PyData.eqv, c]
  have hol : (other M s k).length ≤ M.mv.length := by
    have := List.length_filter_le (fun t => !decide (M.as t k = M.as s k)) (List.range M.mv.length)
    rw [List.length_range] at this
    exact this
  have hot : ∀ t ∈ other M s k, t < M.mv.length := fun t ht => List.mem_range.mp (List.mem_filter.mp ht).1
  have e2 := d_come_from h hs fs
  have e3 := lc_states (vs := [8]) (t := .nm 8) (ft := Ct1__law_ages) (fe := Ce1__law_ages) (fun t => decide (t ∈ comeFrom M s)) (other M s k) (StA M k fnd (some (.val (.int s))) (some (.val (.list (lN (other M s k))))) (some (.ownL (lN (comeFrom M s)))) q6 q7 fs) (by omega) fun t ht => by
    by_cases c : t ∈ comeFrom M s
    · simp [Ct1__law_ages, Ce1__law_ages, shaped_int, shaped_lN, any_eqv_lN, c]
    · simp [Ct1__law_ages, Ce1__law_ages, shaped_int, shaped_lN, any_eqv_lN, c]
  obtain ⟨q6', q7', e4⟩ := ages_loop (k := k) h (some (.val (.int s))) (some (.ownL (lN (comeFrom M s)))) (other M s k) ((other M s k).filter fun t => decide (t ∈ comeFrom M s)) hot (by omega) (fun t ht => (List.mem_filter.mp ht).1) (List.length_filter_le _ _) fs 9 0 fnd q7 (by omega) hl
  have er : (List.range' 0 9).map (fun n : Nat => PyData.int (n : Int)) = rangeD 0 9 := rfl
  rw [er] at e4
  have eo : (List.range M.mv.length).filter (fun t => !decide (M.as t k = M.as s k)) = other M s k := rfl
  rw [eo, ← rangeD_lN] at e1
  have ef : runA (frontN M (other M s k) ((other M s k).filter fun t => decide (t ∈ comeFrom M s))) 9 0 fnd = runA (front M s k) 9 0 fnd := rfl
  rw [ef] at e4
  refine ⟨some (.val (.list (lN (other M s k)))), some (.ownL (lN (comeFrom M s))), q6', q7', ?_⟩
  have e4' : sFor (.nm 7) L0__law_ages (rangeD 0 9) (StA M k fnd (some (.val (.int s))) (some (.val (.list (lN (other M s k))))) (some (.ownL (lN (comeFrom M s)))) (some (.ownL (lN ((other M s k).filter fun t => decide (t ∈ comeFrom M s))))) q7 fs) = _ := e4
  generalize (other M s k).filter (fun t => decide (t ∈ comeFrom M s)) = f0 at e3 e4'
  generalize runA (front M s k) 9 0 fnd = f2 at e4' ⊢
  simp [L1__law_ages, hr, e1, e2, e3, plainAt, hr9]
  simpa using e4'
noncomputable def due (M : Mach) (k a : Nat) : Bool := pastB (leastAge M k) (a : Int)
noncomputable def dueL (M : Mach) (k : Nat) : List Bool := (List.range 9).map (due M k)
theorem fold_runA (M : Mach) (k : Nat) : ∀ (us : List Nat) (fnd : List Bool), fnd.length = 9 → (us.foldl (fun f s => runA (front M s k) 9 0 f) fnd).length = 9 ∧ ∀ a, a < 9 → (us.foldl (fun f s => runA (front M s k) 9 0 f) fnd)[a]? = some ((fnd[a]?.getD false) || us.any fun s => !decide (front M s k a = []))
  | [], fnd, hl => ⟨hl, fun a ha => by simp [List.getElem?_eq_getElem (show a < fnd.length by omega)]⟩
  | s :: us, fnd, hl => by
    have h1 : (runA (front M s k) 9 0 fnd).length = 9 := by rw [runA_len, hl]
    obtain ⟨h2, h3⟩ := fold_runA M k us _ h1
    refine ⟨h2, fun a ha => ?_⟩
    rw [List.foldl_cons, h3 a ha, runA_get (front M s k) (fun i => front_mono _ _ i) 9 0 fnd a (by omega) (by omega)]
    have e : decide (0 ≤ a ∧ a < 0 + 9) = true := decide_eq_true (by omega)
    rw [e]
    simp [Bool.or_assoc]
theorem d_ages (h : M.Ok) (hk : k < M.ks.length) (fs : FS) : D__law_ages [.val (mD M), .val (.int k)] fs = some (.ownL ((dueL M k).map .bool), fs) := by
  have hz := sizeLine_eq
  have h9 := h.n9
  have h0 : 0 < M.mv.length := h.n1
  have e0 : D__law_come_from [.val (mD M), .val (.int 0)] fs = some (.ownL (lN (comeFrom M 0)), fs) := d_come_from h h0 fs
  obtain ⟨⟨q', e1⟩, hP⟩ := sFor_fold (γ := Option Pl × Option Pl × Option Pl × Option Pl × Option Pl) (t := .nm 3) (f := L1__law_ages) (fun n : Nat => .int (n : Int)) (fun fnd q => StA M k fnd q.1 q.2.1 q.2.2.1 q.2.2.2.1 q.2.2.2.2 fs) (fun fnd => fnd.length = 9) (fun f s => runA (front M s k) 9 0 f) (comeFrom M 0) (List.replicate 9 false) (none, none, none, none, none) (by simp) fun fnd s q hs hP => by
    obtain ⟨q4, q5, q6, q7, e⟩ := ages_turn h hk (comeFrom_lt h h0 s hs) fnd hP q.2.1 q.2.2.1 q.2.2.2.1 q.2.2.2.2 fs
    exact ⟨⟨(some (.val (.int s)), q4, q5, q6, q7), e⟩, by rw [runA_len, hP]⟩
  have ed : (comeFrom M 0).foldl (fun f s => runA (front M s k) 9 0 f) (List.replicate 9 false) = dueL M k := by
    obtain ⟨h2, h3⟩ := fold_runA M k (comeFrom M 0) (List.replicate 9 false) (by simp)
    apply List.ext_getElem?
    intro a
    by_cases ha : a < 9
    · rw [h3 a ha]
      have e : (dueL M k)[a]? = some (due M k a) := by simp [dueL, ha]
      rw [e]
      congr 1
      have e2 : ((List.replicate 9 false)[a]?).getD false = false := by
        rw [List.getElem?_replicate]
        simp [ha]
      rw [e2, Bool.false_or, Bool.eq_iff_iff, List.any_eq_true]
      unfold due
      rw [leastAge_past h]
      constructor
      · rintro ⟨s, hs, hf⟩
        have hs' := (mem_comeFrom h h0).mp hs
        refine ⟨s, hs', fun z => ?_⟩
        have := (front_ld (k := k) h (keysM_lt h h0 s hs') a).mpr z
        simp [this] at hf
      · rintro ⟨s, hs', hf⟩
        refine ⟨s, (mem_comeFrom h h0).mpr hs', ?_⟩
        simp
        exact fun z => hf ((front_ld (k := k) h (keysM_lt h h0 s hs') a).mp z)
    · rw [List.getElem?_eq_none (by omega), List.getElem?_eq_none (by simp [dueL]; omega)]
  rw [ed, ← lN_map] at e1
  have z1 : 1 ≤ sizeLine := by omega
  have z9 : 9 ≤ sizeLine := by omega
  have hr9 : rOk (9 : Int) = true := rfl
  have ef : (List.replicate 9 false).map PyData.bool = [.bool false, .bool false, .bool false, .bool false, .bool false, .bool false, .bool false, .bool false, .bool false] := rfl
  have e1' : sFor (.nm 3) L1__law_ages (lN (comeFrom M 0)) ⟨[some (.val (mD M)), some (.val (.int k)), some (.ownL [.bool false, .bool false, .bool false, .bool false, .bool false, .bool false, .bool false, .bool false, .bool false]), none, none, none, none, none, none, none], fs⟩ = _ := e1
  generalize dueL M k = dl at e1' ⊢
  simp [D__law_ages, B__law_ages, z1, z9, hr9, e0, List.replicate, e1']
end
end K8

set_option Elab.async false
set_option linter.all false
set_option maxRecDepth 100000
set_option maxHeartbeats 1000000
/-! K8x: what moves: rows, walks, any thing. -/
namespace K8
open PySem PySem.Spec PyProof.Rows L2 PD
def inLet (M : Mach) : PyData → Bool
  | .str x => decide (x ∈ M.ls)
  | _ => false
def wayOf (M : Mach) : PyData → Option (List Str)
  | .tuple xs => (strsOf xs).bind fun a => if (a.all fun l => decide (l ∈ M.ls)) = true then some a else none
  | _ => none
/-- a thing whose parts can be looked at -/
def RowOk (d : PyData) : Prop := ∀ xs, d = .tuple xs → xs.length ≤ 10000 ∧ ∀ e ∈ xs, SeqAt.shaped e = true
def ThingOk (d : PyData) : Prop := ∀ x y, d = .tuple [x, y] → RowOk x ∧ RowOk y
def walkB (M : Mach) (k : Nat) (age : Int) (a w : List Str) : Bool := decide (age < (w.length : Int)) && ((M.run (M.fin 0 a) w).drop (w.length - 1 - age.toNat)).all fun t => !decide (M.as t k = M.as (M.fin 0 a) k)
def walkD (M : Mach) (k : Nat) (age : Int) : PyData → Bool
  | .tuple [x, y] => match wayOf M x, wayOf M y with
    | some a, some w => walkB M k age a w
    | _, _ => false
  | _ => false
section
variable {M : Mach} {b s k : Nat} {l : Str} {fs : FS} {xs : List Nat}
theorem any_eqv_let (xs : List Str) (e : PyData) : ((xs.map PyData.str).any fun z => PyData.eqv z e) = (match e with | .str x => decide (x ∈ xs) | _ => false) := by
  cases e with
  | str x => exact any_eqv_str xs x
  | none => induction xs with | nil => rfl | cons a r ih => rw [List.map_cons, List.any_cons, ih]; rfl
  | bool b => induction xs with | nil => rfl | cons a r ih => rw [List.map_cons, List.any_cons, ih]; rfl
  | int b => induction xs with | nil => rfl | cons a r ih => rw [List.map_cons, List.any_cons, ih]; rfl
  | list b => induction xs with | nil => rfl | cons a r ih => rw [List.map_cons, List.any_cons, ih]; rfl
  | tuple b => induction xs with | nil => rfl | cons a r ih => rw [List.map_cons, List.any_cons, ih]; rfl
  | dict b => induction xs with | nil => rfl | cons a r ih => rw [List.map_cons, List.any_cons, ih]; rfl
theorem inLet_eq (M : Mach) (e : PyData) : ((M.ls.map PyData.str).any fun z => PyData.eqv z e) = inLet M e := by
  rw [any_eqv_let]
  cases e <;> rfl
theorem wayOf_some {d : PyData} {a : List Str} (h : wayOf M d = some a) : d = tS a ∧ ∀ l ∈ a, l ∈ M.ls := by
  cases d with
  | tuple xs =>
    have h' : ((strsOf xs).bind fun a => if (a.all fun l => decide (l ∈ M.ls)) = true then some a else none) = some a := h
    cases e : strsOf xs with
    | none => rw [e] at h'; cases h'
    | some b =>
      rw [e, Option.bind_some] at h'
      by_cases c : (b.all fun l => decide (l ∈ M.ls)) = true
      · rw [if_pos c] at h'
        cases h'
        exact ⟨by rw [strsOf_map e], fun l hl => of_decide_eq_true (List.all_eq_true.mp c l hl)⟩
      · rw [if_neg c] at h'; cases h'
  | none => cases h
  | bool b => cases h
  | int b => cases h
  | str b => cases h
  | list b => cases h
  | dict b => cases h
theorem wayOf_tS {a : List Str} (h : ∀ l ∈ a, l ∈ M.ls) : wayOf M (tS a) = some a := by
  show ((strsOf (a.map PyData.str)).bind fun a => if (a.all fun l => decide (l ∈ M.ls)) = true then some a else none) = some a
  rw [strsOf_strs, Option.bind_some, if_pos (List.all_eq_true.mpr fun l hl => decide_eq_true (h l hl))]
theorem wayOf_isSome (xs : List PyData) : (wayOf M (.tuple xs)).isSome = xs.all (inLet M) := by
  show ((strsOf xs).bind fun a => if (a.all fun l => decide (l ∈ M.ls)) = true then some a else none).isSome = _
  induction xs with
  | nil => rfl
  | cons d r ih =>
    cases d with
    | str x =>
      show (((strsOf r).map (x :: ·)).bind _).isSome = _
      rw [List.all_cons, ← ih]
      cases e : strsOf r with
      | none => simp
      | some a =>
        show (if ((x :: a).all fun l => decide (l ∈ M.ls)) = true then some (x :: a) else none).isSome = (decide (x ∈ M.ls) && (if (a.all fun l => decide (l ∈ M.ls)) = true then some a else none).isSome)
        rw [List.all_cons]
        by_cases c1 : x ∈ M.ls <;> by_cases c2 : (a.all fun l => decide (l ∈ M.ls)) = true <;> simp [c1, c2]
    | none => simp [strsOf, inLet]
    | bool b => simp [strsOf, inLet]
    | int b => simp [strsOf, inLet]
    | list b => simp [strsOf, inLet]
    | tuple b => simp [strsOf, inLet]
    | dict b => simp [strsOf, inLet]
theorem isi_tuple {d : PyData} (h : isi "tuple" d = true) : ∃ xs, d = .tuple xs := by
  cases d with
  | tuple xs => exact ⟨xs, rfl⟩
  | none => simp [isi, tyName] at h
  | bool b => simp [isi, tyName] at h
  | int b => simp [isi, tyName] at h
  | str b => simp [isi, tyName] at h
  | list b => simp [isi, tyName] at h
  | dict b => simp [isi, tyName] at h
theorem wayOf_not {d : PyData} (h : isi "tuple" d = false) : wayOf M d = none := by
  cases d with
  | tuple xs => simp [isi, tyName] at h
  | none => rfl
  | bool b => rfl
  | int b => rfl
  | str b => rfl
  | list b => rfl
  | dict b => rfl
theorem d_is_row (h : M.Ok) {d : PyData} (hd : RowOk d) (fs : FS) : D_is_row [.val (mD M), .val d] fs = some (.val (.bool (wayOf M d).isSome), fs) := by
  have hz := sizeLine_eq
  cases c : isi "tuple" d with
  | false => simp [D_is_row, B_is_row, c, wayOf_not c]
  | true =>
    obtain ⟨xs, rfl⟩ := isi_tuple c
    obtain ⟨h1, h2⟩ := hd xs rfl
    have ht := lay_tS h.ln
    obtain ⟨bs, e, hb⟩ := lc_bools (vs := [2]) (t := .nm 2) (fe := Ce0_is_row) (fun d : PyData => d) (inLet M) xs ⟨[some (.val (mD M)), some (.val (.tuple xs)), none], fs⟩ (by omega) fun x hx => by
      have e1 := inLet_eq M x
      simp [Ce0_is_row, ht, h2 x hx, e1]
    rw [List.map_id'] at e
    have eb : bs.all id = (wayOf M (.tuple xs)).isSome := by rw [hb, wayOf_isSome]; simp
    simp [D_is_row, B_is_row, c, plainAt, e, eb]
theorem d_is_way (h : M.Ok) {d : PyData} (hd : RowOk d) (fs : FS) : D__law_is_way [.val (mD M), .val d] fs = some (.val (.bool (wayOf M d).isSome), fs) := by
  have hz := sizeLine_eq
  cases c : isi "tuple" d with
  | false => simp [D__law_is_way, B__law_is_way, c, wayOf_not c]
  | true =>
    obtain ⟨xs, rfl⟩ := isi_tuple c
    obtain ⟨h1, h2⟩ := hd xs rfl
    have ht := lay_tS h.ln
    obtain ⟨bs, e, hb⟩ := lc_bools (vs := [2]) (t := .nm 2) (fe := Ce0__law_is_way) (fun d : PyData => d) (inLet M) xs ⟨[some (.val (mD M)), some (.val (.tuple xs)), none], fs⟩ (by omega) fun x hx => by
      have e1 := inLet_eq M x
      have e2 := h2 x hx
      cases x <;> simp [Ce0__law_is_way, isi, tyName, inLet] at e1 e2 ⊢
      simp [ht, e2, e1]
    rw [List.map_id'] at e
    have eb : bs.all id = (wayOf M (.tuple xs)).isSome := by rw [hb, wayOf_isSome]; simp
    simp [D__law_is_way, B__law_is_way, c, plainAt, e, eb]
theorem d_gone (h : M.Ok) {a : List Str} (hs : s < M.mv.length) (ha : ∀ l ∈ a, l ∈ M.ls) (hl : a.length < 100000) (fs : FS) :
    D__law_gone [.val (mD M), .val (.int s), .val (tS a)] fs = some (.ownL (lN (M.run s a)), fs) := by
  have hz := sizeLine_eq
  obtain ⟨s', e, q, rfl⟩ := sFor_inv (t := .nm 4) (f := L0__law_gone) PyData.str (fun i st => ∃ q : Option Pl, st = ⟨[some (.val (mD M)), some (.val (.int (M.fin s (a.take i) : Nat))), some (.val (tS a)), some (.ownL (lN (M.run s (a.take i)))), q], fs⟩) a 0
    ⟨[some (.val (mD M)), some (.val (.int s)), some (.val (tS a)), some (.ownL []), none], fs⟩ (fun j x st hj hI => by
      obtain ⟨q, rfl⟩ := hI
      have hx : x ∈ a := List.mem_of_getElem? hj
      have hjl := (List.getElem?_eq_some_iff.mp hj).1
      have ht : ∀ l ∈ a.take j, l ∈ M.ls := fun l hl => ha l (List.mem_of_mem_take hl)
      have hf := Mach.fin_lt h hs ht
      obtain ⟨h1, h2, h3⟩ := M.st_lt h hf (ha x hx)
      obtain ⟨g1, _⟩ := h.mv_at hf
      have e1 : a.take (j + 1) = a.take j ++ [x] := by rw [List.take_add_one, hj]; rfl
      have e2 : M.run s (a.take (j + 1)) = M.run s (a.take j) ++ [M.st (M.fin s (a.take j)) x] := by rw [e1, M.run_app]; rfl
      have e3 : M.fin s (a.take (j + 1)) = M.st (M.fin s (a.take j)) x := by rw [e1, M.fin_app]; rfl
      refine ⟨_, ?_, some (.val (.str x)), rfl⟩
      have hlen : (M.run s (a.take j)).length < sizeLine := by rw [M.run_len, List.length_take]; omega
      simp only [Nat.zero_add, e2, e3, lN_app, lN_one] at hlen ⊢
      generalize M.run s (a.take j) = us at hlen ⊢
      simp [L0__law_gone, g1, gIdx_t, h3, tN_eq, lN_get, h2, lN_len, hlen]) ⟨none, rfl⟩
  simp only [Nat.zero_add, List.take_length] at e
  simp [D__law_gone, B__law_gone, e]
theorem run_lt (h : M.Ok) (hs : s < M.mv.length) : ∀ {a : List Str}, (∀ l ∈ a, l ∈ M.ls) → ∀ t ∈ M.run s a, t < M.mv.length := by
  intro a
  induction a generalizing s with
  | nil => intro _ t ht; cases ht
  | cons l r ih =>
    intro ha t ht
    have h1 := (M.st_lt h hs (ha l List.mem_cons_self)).1
    rcases List.mem_cons.mp ht with rfl | ht
    · exact h1
    · exact ih h1 (fun x hx => ha x (List.mem_cons_of_mem _ hx)) t ht
end
end K8

set_option Elab.async false
set_option linter.all false
set_option maxRecDepth 100000
set_option maxHeartbeats 2000000
/-! K8y: is_moving, and the law's own. -/
namespace K8
open PySem PySem.Spec PyProof.Rows L2 PD
section
variable {M : Mach} {b s k : Nat} {l : Str} {fs : FS} {xs : List Nat}
theorem walkD_not {d : PyData} (k : Nat) (age : Int) (h : isi "tuple" d = false) : walkD M k age d = false := by
  cases d with
  | tuple xs => simp [isi, tyName] at h
  | none => rfl
  | bool b => rfl
  | int b => rfl
  | str b => rfl
  | list b => rfl
  | dict b => rfl
theorem walkD_len {ds : List PyData} (k : Nat) (age : Int) (h : ds.length ≠ 2) : walkD M k age (.tuple ds) = false := by
  match ds, h with
  | [], _ => rfl
  | [_], _ => rfl
  | [_, _], h => exact absurd rfl h
  | _ :: _ :: _ :: _, _ => rfl
theorem two_of {ds : List PyData} (h : ds.length = 2) : ∃ x y, ds = [x, y] := by
  match ds, h with
  | [x, y], _ => exact ⟨x, y, rfl⟩
theorem d_is_moving (h : M.Ok) (hk : M.ks[k]? = some l) {age : Int} (ha : 0 ≤ age) {d : PyData} (hd : ThingOk d) (fs : FS) :
    D_is_moving [.val (mD M), .val (.str l), .val (.int age), .val d] fs = some (.val (.bool (walkD M k age d)), fs) := by
  have hz := sizeLine_eq
  have h0 : 0 < M.mv.length := h.n1
  have hl : l ∈ M.ks := List.mem_of_getElem? hk
  have en := d_need_look h hl fs
  cases c : isi "tuple" d with
  | false =>
    have et : D_is_tuple [.val d, .val (.int 2)] fs = some (.val (.bool false), fs) := d_is_tuple_n c 2 fs
    simp [D_is_moving, B_is_moving, en, d_is_number, ha, d_need, et, walkD_not k age c]
  | true =>
    obtain ⟨ds, rfl⟩ := isi_tuple c
    have et : D_is_tuple [.val (.tuple ds), .val (.int 2)] fs = some (.val (.bool (decide (ds.length = 2))), fs) := d_is_tuple_t ds 2 fs
    by_cases c2 : ds.length = 2
    case neg => simp [D_is_moving, B_is_moving, en, d_is_number, ha, d_need, et, c2, walkD_len k age c2]
    obtain ⟨x, y, rfl⟩ := two_of c2
    obtain ⟨hx, hy⟩ := hd x y rfl
    have ex := d_is_row h hx fs
    have ey := d_is_row h hy fs
    cases e1 : wayOf M x with
    | none =>
      rw [e1] at ex
      simp only [Option.isSome_none] at ex
      simp [D_is_moving, B_is_moving, en, d_is_number, ha, d_need, et, ex, walkD, e1]
    | some a =>
    cases e2 : wayOf M y with
    | none =>
      rw [e1] at ex
      rw [e2] at ey
      simp only [Option.isSome_none, Option.isSome_some] at ex ey
      simp [D_is_moving, B_is_moving, en, d_is_number, ha, d_need, et, ex, ey, walkD, e1, e2]
    | some w =>
    rw [e1] at ex
    rw [e2] at ey
    simp only [Option.isSome_some] at ex ey
    obtain ⟨rfl, ma⟩ := wayOf_some e1
    obtain ⟨rfl, mw⟩ := wayOf_some e2
    have la : a.length ≤ 10000 := by simpa using (hx _ rfl).1
    have lw : w.length ≤ 10000 := by simpa using (hy _ rfl).1
    have ew : walkD M k age (.tuple [tS a, tS w]) = walkB M k age a w := by
      show (match wayOf M (tS a), wayOf M (tS w) with | some a, some w => walkB M k age a w | _, _ => false) = _
      rw [e1, e2]
    rw [ew]
    by_cases c3 : (w.length : Int) ≤ age
    · have eb : walkB M k age a w = false := by
        unfold walkB
        rw [decide_eq_false (by omega)]
        rfl
      rw [eb]
      simp [D_is_moving, B_is_moving, en, d_is_number, ha, d_need, et, ex, ey, c3]
    · have hs := M.fin_lt h h0 ma
      have ec1 : D_come_to [.val (mD M), .val (.int 0), .val (tS a)] fs = some (.val (.tuple (lN (0 :: M.run 0 a))), fs) := d_come_to h h0 ma (by omega) fs
      have ec2 := d_come_to h hs mw (by omega) fs
      have ela := M.run_last 0 a
      have ean := d_answer_at h hs hk fs
      obtain ⟨n, hn⟩ : ∃ n : Nat, age = (n : Int) := ⟨age.toNat, by omega⟩
      subst hn
      have hnw : n < w.length := by omega
      have ecut : cutD (lN (M.fin 0 a :: M.run (M.fin 0 a) w)) (some ((w.length : Int) - (n : Int))) none = lN ((M.run (M.fin 0 a) w).drop (w.length - 1 - n)) := by
        have e : ((w.length : Int) - (n : Int)) = ((w.length - n : Nat) : Int) := by omega
        rw [e, cutD_from, lN_map, lN_map, ← List.map_drop]
        congr 1
        rw [show w.length - n = (w.length - 1 - n) + 1 by omega, List.drop_succ_cons]
      obtain ⟨bs, e, hb⟩ := lc_bools (vs := [9]) (t := .nm 9) (fe := Ce0_is_moving) (fun n : Nat => .int (n : Int)) (fun t => !decide (M.as t k = M.as (M.fin 0 a) k)) ((M.run (M.fin 0 a) w).drop (w.length - 1 - n))
        ⟨[some (.val (mD M)), some (.val (.str l)), some (.val (.int n)), some (.val (.tuple [tS a, tS w])), some (.val (tS a)), some (.val (tS w)), some (.val (.int (M.fin 0 a : Nat))), some (.val (.tuple (lN ((M.run (M.fin 0 a) w).drop (w.length - 1 - n))))), some (.val (.int (M.as (M.fin 0 a) k))), none], fs⟩ (by rw [List.length_drop, M.run_len]; omega) fun t ht => by
          have := d_answer_at h (run_lt h hs mw t (List.mem_of_mem_drop ht)) hk fs
          by_cases cc : M.as t k = M.as (M.fin 0 a) k
          · simp [Ce0_is_moving, this, shaped_int, PyData.eqv, cc]
          · simp [Ce0_is_moving, this, shaped_int, PyData.eqv, cc]
      rw [← lN_map] at e
      have eb : bs.all id = walkB M k n a w := by
        unfold walkB
        rw [hb, decide_eq_true (by omega), Bool.true_and, List.all_map, show ((n : Int)).toNat = n by omega]
        rfl
      have c4 : ¬ (w.length : Int) ≤ (n : Int) := by omega
      generalize hus : (M.run (M.fin 0 a) w).drop (w.length - 1 - n) = us at ecut e
      generalize hvs : M.fin 0 a :: M.run (M.fin 0 a) w = vs at ec2 ecut
      generalize hws : 0 :: M.run 0 a = ws at ec1 ela
      simp only [D_is_moving, B_is_moving]
      simp [en, d_is_number, d_need, et, ex, ey, c4, ec1, ec2, lN_last, ela, ecut, ean, plainAt, e, eb]
theorem d_is_walk (h : M.Ok) (hk : k < M.ks.length) {age : Int} (ha : 0 ≤ age) {d : PyData} (hd : ThingOk d) (fs : FS) :
    D__law_is_walk [.val (mD M), .val (.int k), .val (.int age), .val d] fs = some (.val (.bool (walkD M k age d)), fs) := by
  have hz := sizeLine_eq
  have h0 : 0 < M.mv.length := h.n1
  cases c : isi "tuple" d with
  | false => simp [D__law_is_walk, B__law_is_walk, c, walkD_not k age c]
  | true =>
    obtain ⟨ds, rfl⟩ := isi_tuple c
    by_cases c2 : ds.length = 2
    case neg =>
      have c2' : ¬ ((ds.length : Int) = 2) := by omega
      have e2 : ((ds.length : Int) == 2) = false := by simpa using c2'
      simp [D__law_is_walk, B__law_is_walk, c, shaped_int, PyData.eqv, e2, walkD_len k age c2]
    obtain ⟨x, y, rfl⟩ := two_of c2
    obtain ⟨hx, hy⟩ := hd x y rfl
    have ex := d_is_way h hx fs
    have ey := d_is_way h hy fs
    cases e1 : wayOf M x with
    | none =>
      rw [e1] at ex
      simp only [Option.isSome_none] at ex
      simp [D__law_is_walk, B__law_is_walk, c, shaped_int, PyData.eqv, ex, walkD, e1]
    | some a =>
    cases e2 : wayOf M y with
    | none =>
      rw [e1] at ex
      rw [e2] at ey
      simp only [Option.isSome_none, Option.isSome_some] at ex ey
      simp [D__law_is_walk, B__law_is_walk, c, shaped_int, PyData.eqv, ex, ey, walkD, e1, e2]
    | some w =>
    rw [e1] at ex
    rw [e2] at ey
    simp only [Option.isSome_some] at ex ey
    obtain ⟨rfl, ma⟩ := wayOf_some e1
    obtain ⟨rfl, mw⟩ := wayOf_some e2
    have la : a.length ≤ 10000 := by simpa using (hx _ rfl).1
    have lw : w.length ≤ 10000 := by simpa using (hy _ rfl).1
    have ew : walkD M k age (.tuple [tS a, tS w]) = walkB M k age a w := by
      show (match wayOf M (tS a), wayOf M (tS w) with | some a, some w => walkB M k age a w | _, _ => false) = _
      rw [e1, e2]
    rw [ew]
    by_cases c3 : (w.length : Int) ≤ age
    · have eb : walkB M k age a w = false := by
        unfold walkB
        rw [decide_eq_false (by omega)]
        rfl
      rw [eb]
      simp [D__law_is_walk, B__law_is_walk, c, shaped_int, PyData.eqv, ex, ey, c3]
    · have hs := M.fin_lt h h0 ma
      have ec1 : D__law_gone [.val (mD M), .val (.int 0), .val (tS a)] fs = some (.ownL (lN (M.run 0 a)), fs) := d_gone h h0 ma (by omega) fs
      have ec2 := d_gone h hs mw (by omega) fs
      have ela := M.run_last 0 a
      obtain ⟨n, hn⟩ : ∃ n : Nat, age = (n : Int) := ⟨age.toNat, by omega⟩
      subst hn
      have hnw : n < w.length := by omega
      have ecut : cutD (lN (M.run (M.fin 0 a) w)) (some ((w.length : Int) - 1 - (n : Int))) none = lN ((M.run (M.fin 0 a) w).drop (w.length - 1 - n)) := by
        have e : ((w.length : Int) - 1 - (n : Int)) = ((w.length - 1 - n : Nat) : Int) := by omega
        rw [e, cutD_from, lN_map, lN_map, ← List.map_drop]
      obtain ⟨rs, a1, a2⟩ := h.an_at hs hk
      have e := lc_states (vs := [6]) (t := .nm 6) (ft := Ct0__law_is_walk) (fe := Ce0__law_is_walk) (fun t => decide (M.as t k = M.as (M.fin 0 a) k)) ((M.run (M.fin 0 a) w).drop (w.length - 1 - n))
        ⟨[some (.val (mD M)), some (.val (.int k)), some (.val (.int n)), some (.val (.tuple [tS a, tS w])), some (.val (.int (M.fin 0 a : Nat))), some (.val (.list (lN ((M.run (M.fin 0 a) w).drop (w.length - 1 - n))))), none], fs⟩ (by rw [List.length_drop, M.run_len]; omega) fun t ht => by
          obtain ⟨rt, b1, b2⟩ := h.an_at (run_lt h hs mw t (List.mem_of_mem_drop ht)) hk
          by_cases cc : M.as t k = M.as (M.fin 0 a) k
          · simp [Ct0__law_is_walk, Ce0__law_is_walk, a1, a2, b1, b2, shaped_int, PyData.eqv, cc]
          · simp [Ct0__law_is_walk, Ce0__law_is_walk, a1, a2, b1, b2, shaped_int, PyData.eqv, cc]
      have eb : (lN (((M.run (M.fin 0 a) w).drop (w.length - 1 - n)).filter fun t => decide (M.as t k = M.as (M.fin 0 a) k))).isEmpty = walkB M k n a w := by
        unfold walkB
        rw [decide_eq_true (by omega), Bool.true_and, show ((n : Int)).toNat = n by omega, Bool.eq_iff_iff]
        simp [lN_map]
      have c4 : ¬ (w.length : Int) ≤ (n : Int) := by omega
      have hen : SeqAt.shaped (.list []) = true := rfl
      have hlen : 1 + a.length ≤ sizeLine := by omega
      have hlen2 : (lN (M.run 0 a)).length = a.length := by rw [lN_len, M.run_len]
      have ecat : [PyData.int 0] ++ lN (M.run 0 a) = lN (0 :: M.run 0 a) := rfl
      have h1z : 1 ≤ sizeLine := by omega
      generalize hus : (M.run (M.fin 0 a) w).drop (w.length - 1 - n) = us at ecut e eb
      generalize hvs : M.run (M.fin 0 a) w = vs at ec2 ecut
      simp only [List.singleton_append] at ecat
      generalize hfil : us.filter (fun t => decide (M.as t k = M.as (M.fin 0 a) k)) = fil at e eb
      generalize hw0 : 0 :: M.run 0 a = ws at ecat ela
      simp only [D__law_is_walk, B__law_is_walk]
      simp [c, shaped_int, PyData.eqv, ex, ey, c4, ec1, ec2, hlen2, hlen, h1z, ecat, lN_last, ela, ecut, plainAt, e, shaped_lN, hen, eqvAll_nil, eb]
end
end K8

set_option Elab.async false
set_option linter.all false
set_option maxRecDepth 100000
set_option maxHeartbeats 2000000
/-! K8z: leaving_row, moving_walk. -/
namespace K8
open PySem PySem.Spec PyProof.Rows L2 PD
section
variable {M : Mach} {b s k : Nat} {l : Str} {fs : FS} {xs : List Nat}
/-- the last j + 1 states of the row answer otherwise -/
def Tail (M : Mach) (s k : Nat) (row : List Str) (j : Nat) : Prop := j + 1 ≤ row.length ∧ ∀ t ∈ (M.run s row).drop (row.length - 1 - j), M.as t k ≠ M.as s k
theorem Tail.snoc {row : List Str} {j : Nat} (h : Tail M s k row j) {x : Str} (hx : M.as (M.st (M.fin s row) x) k ≠ M.as s k) : Tail M s k (row ++ [x]) (j + 1) := by
  obtain ⟨h1, h2⟩ := h
  refine ⟨by simp; omega, fun t ht => ?_⟩
  have e : (row ++ [x]).length - 1 - (j + 1) = row.length - 1 - j := by simp; omega
  rw [e, M.run_app, List.drop_append_of_le_length (by rw [M.run_len]; omega)] at ht
  rcases List.mem_append.mp ht with h3 | h3
  · exact h2 t h3
  · have : t = M.st (M.fin s row) x := by simpa [Mach.run] using h3
    rw [this]; exact hx
theorem Tail.base {row : List Str} (h1 : row ≠ []) (h2 : M.as (M.fin s row) k ≠ M.as s k) : Tail M s k row 0 := by
  have hl : 0 < row.length := List.length_pos_iff.mpr h1
  refine ⟨by omega, fun t ht => ?_⟩
  have h3 := M.run_last s row
  obtain ⟨pre, x, rfl⟩ : ∃ pre x, row = pre ++ [x] := ⟨row.dropLast, row.getLast h1, (List.dropLast_concat_getLast h1).symm⟩
  have e : (pre ++ [x]).length - 1 - 0 = (M.run s pre).length := by rw [M.run_len]; simp
  rw [M.run_app, e, List.drop_append_of_le_length (Nat.le_refl _), List.drop_length] at ht
  have : t = M.st (M.fin s pre) x := by simpa [Mach.run] using ht
  rw [this]
  rw [M.fin_app] at h2
  exact h2
theorem minI_mem {ns : List Int} (h : ns ≠ []) : ∃ m, minI ns = some m ∧ m ∈ ns := by
  cases ns with
  | nil => exact absurd rfl h
  | cons a r =>
    refine ⟨_, rfl, ?_⟩
    rcases foldl_min_mem r a with e | e
    · rw [e]; exact List.mem_cons_self
    · exact List.mem_cons_of_mem _ e
def stL (M : Mach) (xs : List Nat) (i : Nat) : PyData := .list (lN (ld M xs i))
abbrev StV (M : Mach) (l : Str) (s n : Nat) (ys : List PyData) (q5 q6 q7 q8 q9 : Option Pl) (fs : FS) : DS := ⟨[some (.val (mD M)), some (.val (.str l)), some (.val (.int s)), some (.val (.int n)), some (.ownL ys), q5, q6, q7, q8, q9, none, none], fs⟩
theorem stays_loop (h : M.Ok) (hx : ∀ x ∈ xs, x < M.mv.length) (hxl : xs.length ≤ 1000) (n : Nat) (hn : n ≤ 1000) (fs : FS) : ∃ q5, sFor (.nm 5) L0_leaving_row (rangeD 0 n) (StV M l s n [stL M xs 0] none none none none none fs) = some (.nx (StV M l s n ((List.range (n + 1)).map (stL M xs)) q5 none none none none fs)) := by
  have hz := sizeLine_eq
  rw [rangeD_lN, lN_map]
  obtain ⟨s', e, q, rfl⟩ := sFor_inv (t := .nm 5) (f := L0_leaving_row) (fun n : Nat => .int (n : Int)) (fun i st => ∃ q : Option Pl, st = StV M l s n ((List.range (i + 1)).map (stL M xs)) q none none none none fs) (List.range n) 0 (StV M l s n [stL M xs 0] none none none none none fs) (fun j x st hj hI => by
    obtain ⟨q, rfl⟩ := hI
    have hjn : j < n := by
      have := (List.getElem?_eq_some_iff.mp hj).1
      simpa using this
    have e1 := d_leading_on h (xs := ld M xs j) (fun x hx' => hx x (ld_sub xs j x hx')) (by have := ld_len (M := M) xs j; omega) fs
    refine ⟨_, ?_, some (.val (.int (x : Int))), rfl⟩
    have e2 : (List.range (0 + j + 1 + 1)).map (stL M xs) = (List.range (j + 1)).map (stL M xs) ++ [.list (lN (lead M (ld M xs j)))] := by rw [Nat.zero_add, List.range_succ, List.map_append]; rfl
    have e3 : ((List.range (j + 1)).map (stL M xs)).getLast? = some (.list (lN (ld M xs j))) := by rw [List.range_succ, List.map_append]; simp [stL]
    have hl : ((List.range (j + 1)).map (stL M xs)).length < sizeLine := by simp; omega
    rw [e2, Nat.zero_add]
    generalize (List.range (j + 1)).map (stL M xs) = ys at e3 hl ⊢
    simp [L0_leaving_row, e3, e1, hl]) ⟨none, rfl⟩
  simp only [Nat.zero_add, List.length_range] at e
  exact ⟨q, e⟩
theorem d_leaving_row (h : M.Ok) (hs : s < M.mv.length) (hk : M.ks[k]? = some l) (n : Nat) (hn : n ≤ 1000) (hne : ld M (others M s k) n ≠ []) (fs : FS) :
    ∃ row : List Str, (∀ l ∈ row, l ∈ M.ls) ∧ row.length ≤ 9 + n ∧ Tail M s k row n ∧ D_leaving_row [.val (mD M), .val (.str l), .val (.int s), .val (.int n)] fs = some (.val (tS row), fs) := by
  have hz := sizeLine_eq
  have h9 := h.n9
  have h9l := h.l9
  have hO := others_lt (k := k) h hs
  have hOl := others_len (k := k) h hs
  have hOa : ∀ t ∈ others M s k, M.as t k ≠ M.as s k := fun t ht => by
    have := (List.mem_filter.mp ht).2
    simpa using this
  obtain ⟨q5, e1⟩ := stays_loop (l := l) (s := s) (fs := fs) h hO (by omega) n hn
  obtain ⟨t0, r0, ht0⟩ : ∃ t r, ld M (others M s k) n = t :: r := by
    cases e : ld M (others M s k) n with
    | nil => exact absurd e hne
    | cons t r => exact ⟨t, r, rfl⟩
  have mt0 : t0 ∈ ld M (others M s k) n := by rw [ht0]; exact List.mem_cons_self
  have mo0 := ld_sub (M := M) (others M s k) n t0 mt0
  obtain ⟨J, _, _⟩ := rowsM_spec h hs
  obtain ⟨p, hp, hp1⟩ := List.mem_map.mp (List.mem_filter.mp mo0).1
  obtain ⟨pt, row0⟩ := p
  simp only at hp1
  subst hp1
  obtain ⟨i0, hi0, ei0⟩ := List.getElem_of_mem hp
  obtain ⟨j1, j2, j3, j4⟩ := J.row i0 (pt, row0) (by rw [List.getElem?_eq_getElem hi0, ei0])
  simp only at j1 j2 j3 j4
  have hJl := J.len
  have hrow := rowOf_mem J.nd hp
  simp only at hrow
  have ne0 : row0 ≠ [] := fun z => by
    rw [z] at j3
    have : pt = s := j3.symm
    exact hOa pt mo0 (by rw [this])
  have base : Tail M s k row0 0 := Tail.base ne0 (by rw [j3]; exact hOa pt mo0)
  obtain ⟨s', e2, row, late, q8, q9, rfl, r1, r2, r3, r4, r5⟩ := sFor_inv (t := .nm 8) (f := L1_leaving_row) (stL M (others M s k)) (fun j st => ∃ (row : List Str) (late : Nat) (q8 q9 : Option Pl), st = StV M l s n ((List.range (n + 1)).map (stL M (others M s k))) q5 (some (.val (.int late))) (some (.val (tS row))) q8 q9 fs ∧
      late ∈ ld M (others M s k) (n - j) ∧ (∀ l ∈ row, l ∈ M.ls) ∧ M.fin s row = late ∧ row.length ≤ 9 + j ∧ Tail M s k row j) (List.range n).reverse 0
    (StV M l s n ((List.range (n + 1)).map (stL M (others M s k))) q5 (some (.val (.int pt))) (some (.val (tS row0))) none none fs) (fun j x st hj hI => by
      obtain ⟨row, late, q8, q9, rfl, r1, r2, r3, r4, r5⟩ := hI
      rw [Nat.zero_add] at r1 r4 r5 ⊢
      have hjn : j < n := by
        have := (List.getElem?_eq_some_iff.mp hj).1
        simpa using this
      have hx : x = n - 1 - j := by
        rw [List.getElem?_reverse (by simpa using hjn), List.length_range, List.getElem?_range (by omega)] at hj
        exact (Option.some.inj hj).symm
      subst hx
      have hlt : late < M.mv.length := hO late (ld_sub _ _ _ r1)
      obtain ⟨g1, g2, g3⟩ := h.mv_at hlt
      have r1' : late ∈ lead M (ld M (others M s k) (n - 1 - j)) := by
        have : n - j = (n - 1 - j) + 1 := by omega
        rw [this] at r1
        exact r1
      obtain ⟨_, hb⟩ := List.mem_filter.mp r1'
      obtain ⟨u, hu, hu2⟩ := List.any_eq_true.mp hb
      have hu2 := of_decide_eq_true hu2
      obtain ⟨bs, e, hbs⟩ := lc_intsT (vs := [10, 11]) (t := .tp [.nm 10, .nm 11]) (ft := Ct0_leaving_row) (fe := Ce0_leaving_row) (fun p : Nat × Nat => .tuple [.int (p.2 : Nat), .int (p.1 : Nat)]) (fun p => decide (p.1 ∈ ld M (others M s k) (n - 1 - j))) (fun p => (p.2 : Int)) (M.nx late).zipIdx
        (StV M l s n ((List.range (n + 1)).map (stL M (others M s k))) q5 (some (.val (.int late))) (some (.val (tS row))) (some (.val (stL M (others M s k) (n - 1 - j)))) q9 fs) (by simp; omega) fun p hp => by
          by_cases c : p.1 ∈ ld M (others M s k) (n - 1 - j)
          · simp [Ct0_leaving_row, Ce0_leaving_row, stL, shaped_int, shaped_lN, any_eqv_lN, c]
          · simp [Ct0_leaving_row, Ce0_leaving_row, stL, shaped_int, shaped_lN, any_eqv_lN, c]
      rw [← enumD_typed (fun n : Nat => .int (n : Int)), ← lN_map] at e
      have hbne : bs ≠ [] := fun z => by
        obtain ⟨i, hi, ei⟩ := List.getElem_of_mem hu
        have hm : (u, i) ∈ (M.nx late).zipIdx := List.mem_zipIdx_iff_getElem?.mpr (by rw [List.getElem?_eq_getElem hi, ei])
        have : ((i : Nat) : Int) ∈ bs := by
          rw [hbs]
          exact List.mem_map.mpr ⟨(u, i), List.mem_filter.mpr ⟨hm, decide_eq_true hu2⟩, rfl⟩
        rw [z] at this
        cases this
      obtain ⟨m, hm, hmm⟩ := minI_mem hbne
      rw [hbs] at hmm
      obtain ⟨⟨v, i⟩, hv, rfl⟩ := List.mem_map.mp hmm
      obtain ⟨hv1, hv2⟩ := List.mem_filter.mp hv
      have hv1 := List.mem_zipIdx_iff_getElem?.mp hv1
      have hv2 := of_decide_eq_true hv2
      simp only at hv1 hv2 hm
      have hil : i < M.ls.length := by
        have := (List.getElem?_eq_some_iff.mp hv1).1
        omega
      have hxl : M.ls[i]? = some M.ls[i] := List.getElem?_eq_getElem hil
      have elx : M.lx M.ls[i] = i := by simp [Mach.lx, idx_of h.ln.asc hxl]
      have est : M.st (M.fin s row) M.ls[i] = v := by
        rw [r3]
        simp [Mach.st, elx, hv1]
      refine ⟨_, ?_, row ++ [M.ls[i]], v, some (.val (stL M (others M s k) (n - 1 - j))), some (.val (.int (i : Nat))), rfl, ?_, fun y hy => ?_, ?_, ?_, ?_⟩
      · have erow : tS (row ++ [M.ls[i]]) = .tuple (row.map .str ++ [.str M.ls[i]]) := by simp
        have hrl : row.length + 1 ≤ sizeLine := by omega
        have h1z : 1 ≤ sizeLine := by omega
        rw [erow]
        generalize M.ls[i] = li at hxl
        generalize (List.range (n + 1)).map (stL M (others M s k)) = ys at e
        generalize stL M (others M s k) (n - 1 - j) = gl at e
        simp [L1_leaving_row, g1, tN_eq, plainAt, e, hm, hxl, hrl, h1z, lN_get, hv1]
      · rw [show n - (j + 1) = n - 1 - j by omega]
        exact hv2
      · rcases List.mem_append.mp hy with h1 | h1
        · exact r2 y h1
        · rw [List.mem_singleton.mp h1]; exact List.getElem_mem hil
      · rw [Mach.fin_app]; exact est
      · simp; omega
      · exact r5.snoc (by rw [est]; exact hOa v (ld_sub _ _ _ hv2))) ⟨row0, pt, none, none, rfl, mt0, j2, j3, by omega, base⟩
  rw [Nat.zero_add, List.length_reverse, List.length_range] at r1 r4 r5
  refine ⟨row, r2, r4, r5, ?_⟩
  have eo := d_other_states h hs hk fs
  have el := d_least_rows h hs fs
  have elast : ((List.range (n + 1)).map (stL M (others M s k))).getLast? = some (.list (lN (ld M (others M s k) n))) := by rw [List.range_succ, List.map_append]; simp [stL]
  have edl : ((List.range (n + 1)).map (stL M (others M s k))).dropLast = (List.range n).map (stL M (others M s k)) := by rw [List.range_succ, List.map_append]; simp
  have erev : ((List.range n).map (stL M (others M s k))).reverse = (List.range n).reverse.map (stL M (others M s k)) := by rw [List.map_reverse]
  rw [← erev] at e2
  have h1z : 1 ≤ sizeLine := by omega
  have hrn : rOk (n : Int) = true := rOk_nat (by omega)
  have elk : lookD (encR (rowsM M s)) (.inl (pt : Int)) = some (tS row0) := by rw [lookD_enc, hrow]; rfl
  have e0 : [PyData.list (lN (others M s k))] = [stL M (others M s k) 0] := rfl
  generalize (List.range (n + 1)).map (stL M (others M s k)) = ys at e1 e2 elast edl
  generalize (List.range n).map (stL M (others M s k)) = zs at e2 edl
  simp [D_leaving_row, B_leaving_row, eo, h1z, e0, hrn, e1, elast, ht0, lN_cons, el, keyD, elk, cutD_front, edl, e2]
/-- a walk of that kind -/
def GoodWalk (M : Mach) (k n : Nat) (d : PyData) : Prop := ∃ a w : List Str, d = .tuple [tS a, tS w] ∧ (∀ l ∈ a, l ∈ M.ls) ∧ (∀ l ∈ w, l ∈ M.ls) ∧ a.length ≤ 9 ∧ w.length ≤ 9 + n ∧ n < w.length ∧ walkB M k n a w = true
theorem walk_loop (h : M.Ok) (hk : M.ks[k]? = some l) (n : Nat) (hn : n ≤ 1000) (fs : FS) : ∀ (ps : RowsL), (∀ p ∈ ps, p ∈ rowsM M 0) → ∀ q3 q4 : Option Pl,
    (∃ d s', sFor (.tp [.nm 3, .nm 4]) L0_walk_past (ps.map fun p => .tuple [.int (p.1 : Int), tS p.2]) ⟨[some (.val (mD M)), some (.val (.str l)), some (.val (.int n)), q3, q4], fs⟩ = some (.rt (.val d) s') ∧ s'.fs = fs ∧ GoodWalk M k n d ∧ ∃ p ∈ ps, ld M (others M p.1 k) n ≠ []) ∨
    ((∀ p ∈ ps, ld M (others M p.1 k) n = []) ∧ ∃ q3' q4', sFor (.tp [.nm 3, .nm 4]) L0_walk_past (ps.map fun p => .tuple [.int (p.1 : Int), tS p.2]) ⟨[some (.val (mD M)), some (.val (.str l)), some (.val (.int n)), q3, q4], fs⟩ = some (.nx ⟨[some (.val (mD M)), some (.val (.str l)), some (.val (.int n)), q3', q4'], fs⟩))
  | [], _, q3, q4 => .inr ⟨fun _ h => (by cases h), q3, q4, rfl⟩
  | p :: ps, hp, q3, q4 => by
    have hz := sizeLine_eq
    have h9 := h.n9
    have h0 : 0 < M.mv.length := h.n1
    obtain ⟨J, _, _⟩ := rowsM_spec h h0
    obtain ⟨i0, hi0, ei0⟩ := List.getElem_of_mem (hp p List.mem_cons_self)
    obtain ⟨j1, j2, j3, j4⟩ := J.row i0 p (by rw [List.getElem?_eq_getElem hi0, ei0])
    have hJl := J.len
    have els := d_longest_stay h j1 hk fs
    have eip := d_is_past (longest M (others M p.1 k)) (n : Int) fs
    have hpl := longest_past (M := M) (others_len (k := k) h j1) n
    by_cases c : ld M (others M p.1 k) n = []
    · have ep : pastB (longest M (others M p.1 k)) (n : Int) = false := by
        cases e : pastB (longest M (others M p.1 k)) (n : Int) with
        | false => rfl
        | true => exact absurd c (hpl.mp e)
      rw [ep] at eip
      have step : ((Tg.tp [.nm 3, .nm 4]).put (.val (.tuple [.int (p.1 : Int), tS p.2])) (⟨[some (.val (mD M)), some (.val (.str l)), some (.val (.int n)), q3, q4], fs⟩ : DS)).bind L0_walk_past = some (.nx ⟨[some (.val (mD M)), some (.val (.str l)), some (.val (.int n)), some (.val (.int p.1)), some (.val (tS p.2))], fs⟩) := by
        simp [L0_walk_past, els, eip]
      have go : sFor (.tp [.nm 3, .nm 4]) L0_walk_past ((p :: ps).map fun p => .tuple [.int (p.1 : Int), tS p.2]) ⟨[some (.val (mD M)), some (.val (.str l)), some (.val (.int n)), q3, q4], fs⟩ = sFor (.tp [.nm 3, .nm 4]) L0_walk_past (ps.map fun p => .tuple [.int (p.1 : Int), tS p.2]) ⟨[some (.val (mD M)), some (.val (.str l)), some (.val (.int n)), some (.val (.int p.1)), some (.val (tS p.2))], fs⟩ := by
        rw [List.map_cons, sFor_cons]
        cases e : (Tg.tp [.nm 3, .nm 4]).put (.val (.tuple [.int (p.1 : Int), tS p.2])) (⟨[some (.val (mD M)), some (.val (.str l)), some (.val (.int n)), q3, q4], fs⟩ : DS) with
        | none => rw [e] at step; cases step
        | some s1 =>
          rw [e, Option.bind_some] at step
          rw [Option.bind_some, step, Option.bind_some]
      rw [go]
      rcases walk_loop h hk n hn fs ps (fun q hq => hp q (List.mem_cons_of_mem _ hq)) (some (.val (.int p.1))) (some (.val (tS p.2))) with ⟨d, s', w1, w2, w3, q, w4, w5⟩ | ⟨w1, q3', q4', w2⟩
      · exact .inl ⟨d, s', w1, w2, w3, q, List.mem_cons_of_mem _ w4, w5⟩
      · refine .inr ⟨fun q hq => ?_, q3', q4', w2⟩
        rcases List.mem_cons.mp hq with rfl | hq
        · exact c
        · exact w1 q hq
    · have ep := hpl.mpr c
      rw [ep] at eip
      obtain ⟨row, r1, r2, r3, r4⟩ := d_leaving_row h j1 hk n hn c fs
      have step : ((Tg.tp [.nm 3, .nm 4]).put (.val (.tuple [.int (p.1 : Int), tS p.2])) (⟨[some (.val (mD M)), some (.val (.str l)), some (.val (.int n)), q3, q4], fs⟩ : DS)).bind L0_walk_past = some (.rt (.val (.tuple [tS p.2, tS row])) ⟨[some (.val (mD M)), some (.val (.str l)), some (.val (.int n)), some (.val (.int p.1)), some (.val (tS p.2))], fs⟩) := by
        have h2z : 2 ≤ sizeLine := by omega
        simp [L0_walk_past, els, eip, r4, h2z]
      refine .inl ⟨.tuple [tS p.2, tS row], ⟨[some (.val (mD M)), some (.val (.str l)), some (.val (.int n)), some (.val (.int p.1)), some (.val (tS p.2))], fs⟩, ?_, rfl, ⟨p.2, row, rfl, j2, r1, by omega, r2, r3.1, ?_⟩, p, List.mem_cons_self, c⟩
      · rw [List.map_cons, sFor_cons]
        cases e : (Tg.tp [.nm 3, .nm 4]).put (.val (.tuple [.int (p.1 : Int), tS p.2])) (⟨[some (.val (mD M)), some (.val (.str l)), some (.val (.int n)), q3, q4], fs⟩ : DS) with
        | none => rw [e] at step; cases step
        | some s1 =>
          rw [e, Option.bind_some] at step
          rw [Option.bind_some, step, Option.bind_some]
      · unfold walkB
        rw [decide_eq_true (by have := r3.1; omega), Bool.true_and, show ((n : Int)).toNat = n by omega, j3, List.all_eq_true]
        intro t ht
        simpa using r3.2 t ht
theorem d_moving_walk (h : M.Ok) (hk : M.ks[k]? = some l) (n : Nat) (hn : n ≤ 1000) (fs : FS) :
    (due M k n = true ∧ ∃ d, GoodWalk M k n d ∧ D_moving_walk [.val (mD M), .val (.str l), .val (.int n)] fs = some (.val d, fs)) ∨ (due M k n = false ∧ D_moving_walk [.val (mD M), .val (.str l), .val (.int n)] fs = some (.val .none, fs)) := by
  have h0 : 0 < M.mv.length := h.n1
  have hl : l ∈ M.ks := List.mem_of_getElem? hk
  have en := d_need_look h hl fs
  have el : D_least_rows [.val (mD M), .val (.int 0)] fs = some (.ownK (encR (rowsM M 0)), fs) := d_least_rows h h0 fs
  have ei : (encR (rowsM M 0)).map (fun kv => PyData.tuple [kD kv.1, kv.2]) = (rowsM M 0).map fun p => .tuple [.int (p.1 : Int), tS p.2] := by simp [encR, kD]
  have hn0 : (0 : Int) ≤ (n : Int) := by omega
  rcases walk_loop h hk n hn fs (rowsM M 0) (fun _ h => h) none none with ⟨d, s', w1, w2, w3, p, w4, w5⟩ | ⟨w1, q3', q4', w2⟩
  · refine .inl ⟨(leastAge_past h n).mpr ⟨p.1, List.mem_map.mpr ⟨p, w4, rfl⟩, w5⟩, d, w3, ?_⟩
    simp [D_moving_walk, B_moving_walk, D_walk_past, B_walk_past, en, d_is_number, d_need, el, ei, w1, w2]
  · refine .inr ⟨?_, ?_⟩
    · cases e : due M k n with
      | false => rfl
      | true =>
        obtain ⟨s, hs, hl⟩ := (leastAge_past h n).mp e
        obtain ⟨p, hp, rfl⟩ := List.mem_map.mp hs
        exact absurd (w1 p hp) hl
    · simp [D_moving_walk, B_moving_walk, D_walk_past, B_walk_past, en, d_is_number, d_need, el, ei, w2]
end
end K8

set_option Elab.async false
set_option linter.all false
set_option maxRecDepth 100000
set_option maxHeartbeats 1000000
/-! K9a: what the law draws. -/
namespace K8
open PySem PySem.Spec PyProof.Rows L2 PD
theorem mod_in {i n : Int} (h : 0 < n) : 0 ≤ i % n ∧ i % n < n := ⟨Int.emod_nonneg i (by omega), Int.emod_lt_of_pos i h⟩
theorem shaped_ints (cs : List Int) : SeqAt.shaped (.list (cs.map .int)) = true := shaped_listI fun d hd => by
  obtain ⟨i, _, rfl⟩ := List.mem_map.mp hd
  exact ⟨rfl, Nat.zero_le _⟩
theorem small_mul {i : Int} (j : Int) (h : i.natAbs ≤ 1000000000000000000) : cMulB i j = true := by
  unfold cMulB
  rw [Nat.ble_eq_true_of_le h]
  rfl
def MixS : Sf := (sSeq (sAsg (fBin (f2 (fUn (fFz (fBin (f2 (fBin (f2 (fBin (f2 (fUn (fPeek 5) gInt1) (fC (.val (.int 1999712921)))) gModI) (fBin (f2 (fC (.val (.int 108413))) (fFget 0 "turn")) gMul)) gAdd) (fC (.val (.int 8117)))) gAdd)) gInt1) (fC (.val (.int 2147310857)))) gModI) (.nm 6)) (sSeq (sAsg (fBin (f2 (fUn (fFz (fBin (f2 (fBin (f2 (fBin (f2nn 6 6) gMul) (fBin (f2 (fC (.val (.int 30813061))) (fFget 0 "turn")) gMul)) gAdd) (fC (.val (.int 853)))) gAdd)) gInt1) (fC (.val (.int 2147310839)))) gModI) (.nm 6)) (sRet (fBin (f2e (fUn (fFz (fBin (f2 (fBin (f2 (fUn (fFz (fBin (f2 (fBin (f2nn 6 6) gMul) (fBin (f2e (fC (.val (.int 8419))) 6) gMul)) gAdd)) gInt1) (fC (.val (.int 2147199931)))) gModI) (fC (.val (.int 4)))) gDivI)) gInt1) 1) gModI))))
def DrawS (p : Ef) : Sf := (sSeq (sFset 0 "turn" (fBin (f2 (fFget 0 "turn") (fC (.val (.int 1)))) gAdd)) (sSeq (sIf (fB (fBin (f2 (fFget 0 "rest") (fC (.val (.int 0)))) gGt)) (sSeq (sAsg (fBin (f2e (fUn (fFz (fFget 0 "rest")) gInt1) 1) gModI) (.nm 2)) (sSeq (sFset 0 "rest" (fBin (f2e (fFget 0 "rest") 1) gDivI)) (sRetV 2))) sNil) (sSeq (sPar (fFget 0 "cells") (fFget 0 "spot") 3 4) (sSeq (sFset 0 "spot" (fBin (f2n 4 (fC (.val (.int 1)))) gAdd)) (sSeq (sAsg (fIf (fB (fBin (f2n 3 (fLst aNil)) (gEq true))) (fBin (f2n 3 (fBin (f2 (fUn (fPeek 4) gInt1) (fUn (fPeek 3) gLen)) gModI)) gSub) (fC (.val (.int 80803)))) (.nm 5)) (sSeq (sIf (bAnd (fB (fBin (f2n 5 p) gGe)) (fB (fBin (f2n 4 (fUn (fPeek 3) gLen)) gLt))) (sSeq (sFset 0 "rest" (fBin (f2nn 5 1) gDivI)) (sRet (fBin (f2e (fUn (fPeek 5) gInt1) 1) gModI))) sNil) MixS))))))
theorem draw_eq : B__law_draw = DrawS (fBin (f2 (fC (.val (.int 10))) (fC (.val (.int 18)))) gPowI) := rfl
theorem mix_ok {n : Int} (h0 : 0 < n) (cell : Int) (q2 q3 q4 : Option Pl) (fs : FS) : ∃ (k : Int) (s' : DS), MixS ⟨[some .fd, some (.val (.int n)), q2, q3, q4, some (.val (.int cell)), none], fs⟩ = some (.rt (.val (.int k)) s') ∧ 0 ≤ k ∧ k < n := by
  have h1 : cMulB 108413 fs.turn = true := small_mul _ (by decide)
  have h2 : cMulB 30813061 fs.turn = true := small_mul _ (by decide)
  have h4 : ∀ i : Int, cDivB i 4 = true := fun i => rfl
  simp only [MixS]
  generalize hm : (cell % 1999712921 + 108413 * fs.turn + 8117) % 2147310857 = m1
  have b1 : 0 ≤ m1 ∧ m1 < 2147310857 := by rw [← hm]; exact mod_in (by decide)
  have c1 : cMulB m1 m1 = true := small_mul _ (by omega)
  generalize hm2 : (m1 * m1 + 30813061 * fs.turn + 853) % 2147310839 = m2
  have b2 : 0 ≤ m2 ∧ m2 < 2147310839 := by rw [← hm2]; exact mod_in (by decide)
  have c2 : cMulB m2 m2 = true := small_mul _ (by omega)
  have c3 : cMulB 8419 m2 = true := small_mul _ (by decide)
  simp [h1, h2, h4, hm, c1, hm2, c2, c3, h0]
  exact mod_in h0
/-- a draw below n -/
theorem draw_ok {n : Int} (h0 : 0 < n) (h1 : n ≤ 1000000000) {p : Ef} {B : Int} (hp : ∀ s, p s = some (.val (.int B), s)) (fs : FS) : ∃ (k : Int) (s' : DS), DrawS p ⟨[some .fd, some (.val (.int n)), none, none, none, none, none], fs⟩ = some (.rt (.val (.int k)) s') ∧ 0 ≤ k ∧ k < n := by
  have hd : ∀ i : Int, cDivB i n = true := fun i => by
    unfold cDivB
    rw [decide_eq_true h0, Nat.ble_eq_true_of_le (by omega)]
    rfl
  obtain ⟨cells, spot, rest, turn⟩ := fs
  by_cases c1 : 0 < rest
  · refine ⟨rest % n, ⟨[some .fd, some (.val (.int n)), some (.val (.int (rest % n))), none, none, none, none], ⟨cells, spot, rest / n, turn + 1⟩⟩, ?_, mod_in h0⟩
    simp [DrawS, c1, h0, hd]
  · have hen : SeqAt.shaped (.list []) = true := rfl
    have hsh := shaped_ints cells
    cases hc : cells with
    | nil =>
      subst hc
      by_cases c2 : B ≤ 80803 ∧ spot < 0
      · refine ⟨80803 % n, ⟨[some .fd, some (.val (.int n)), none, some (.val (.list [])), some (.val (.int spot)), some (.val (.int 80803)), none], ⟨[], spot + 1, 80803 / n, turn + 1⟩⟩, ?_, mod_in h0⟩
        simp [DrawS, c1, h0, hd, hen, PyData.eqv, eqvAll_nil, hp, c2.1, c2.2]
      · obtain ⟨k, s', e, r⟩ := mix_ok h0 80803 none (some (.val (.list []))) (some (.val (.int spot))) ⟨[], spot + 1, rest, turn + 1⟩
        refine ⟨k, s', ?_, r⟩
        by_cases c3 : B ≤ 80803
        · have c4 : ¬ spot < 0 := fun z => c2 ⟨c3, z⟩
          simp [DrawS, c1, h0, hd, hen, PyData.eqv, eqvAll_nil, hp, c3, c4, e]
        · simp [DrawS, c1, h0, hd, hen, PyData.eqv, eqvAll_nil, hp, c3, e]
    | cons a r =>
      have hl : (0 : Int) < (cells.length : Int) := by rw [hc]; simp
      have hlN : 0 < cells.length := by omega
      rw [← hc]
      have hie : (cells.map PyData.int).isEmpty = false := by rw [hc]; rfl
      obtain ⟨i1, i2⟩ := mod_in (i := spot) hl
      obtain ⟨j, hj⟩ : ∃ j : Nat, spot % (cells.length : Int) = (j : Int) := ⟨(spot % (cells.length : Int)).toNat, by omega⟩
      have hjl : j < cells.length := by omega
      obtain ⟨cell, hcell⟩ : ∃ cell, cells[j]? = some cell := ⟨_, List.getElem?_eq_getElem hjl⟩
      by_cases c2 : B ≤ cell ∧ spot < (cells.length : Int)
      · refine ⟨cell % n, ⟨[some .fd, some (.val (.int n)), none, some (.val (.list (cells.map .int))), some (.val (.int spot)), some (.val (.int cell)), none], ⟨cells, spot + 1, cell / n, turn + 1⟩⟩, ?_, mod_in h0⟩
        clear hc
        simp [DrawS, c1, h0, hd, hen, hsh, PyData.eqv, eqvAll_nil, hp, c2.1, c2.2, hie, hl, hlN, hj, hcell]
      · obtain ⟨k, s', e, r⟩ := mix_ok h0 cell none (some (.val (.list (cells.map .int)))) (some (.val (.int spot))) ⟨cells, spot + 1, rest, turn + 1⟩
        refine ⟨k, s', ?_, r⟩
        clear hc
        by_cases c3 : B ≤ cell
        · have c4 : ¬ spot < (cells.length : Int) := fun z => c2 ⟨c3, z⟩
          simp [DrawS, c1, h0, hd, hen, hsh, PyData.eqv, eqvAll_nil, hp, c3, c4, hie, hl, hlN, hj, hcell, e]
        · simp [DrawS, c1, h0, hd, hen, hsh, PyData.eqv, eqvAll_nil, hp, c3, hie, hl, hlN, hj, hcell, e]
theorem d_draw {n : Int} (h0 : 0 < n) (h1 : n ≤ 1000000000) (fs : FS) : ∃ (k : Int) (fs' : FS), D__law_draw [.fd, .val (.int n)] fs = some (.val (.int k), fs') ∧ 0 ≤ k ∧ k < n := by
  obtain ⟨k, s', e, r⟩ := draw_ok h0 h1 (p := fBin (f2 (fC (.val (.int 10))) (fC (.val (.int 18)))) gPowI) (B := 10 ^ 18) (fun s => by simp) fs
  rw [← draw_eq] at e
  refine ⟨k, s'.fs, ?_, r⟩
  simp [D__law_draw, e]
end K8

set_option Elab.async false
set_option linter.all false
set_option maxRecDepth 100000
set_option maxHeartbeats 1000000
/-! K9b: one of some; the same; names. -/
namespace K8
open PySem PySem.Spec PyProof.Rows L2 PD
theorem d_any {ds : List PyData} (h0 : ds ≠ []) (hl : ds.length ≤ 1000) (fs : FS) : ∃ d ∈ ds, ∃ fs', D__law_any [.fd, .val (.list ds)] fs = some (.val d, fs') := by
  have hp : 0 < ds.length := List.length_pos_iff.mpr h0
  obtain ⟨k, fs', e, h1, h2⟩ := d_draw (n := (ds.length : Int)) (by omega) (by omega) fs
  obtain ⟨j, rfl⟩ : ∃ j : Nat, k = (j : Int) := ⟨k.toNat, by omega⟩
  have hj : j < ds.length := by omega
  refine ⟨ds[j], List.getElem_mem hj, fs', ?_⟩
  simp [D__law_any, B__law_any, e, hj]
theorem d_anyT {ds : List PyData} (h0 : ds ≠ []) (hl : ds.length ≤ 1000) (fs : FS) : ∃ d ∈ ds, ∃ fs', D__law_any [.fd, .val (.tuple ds)] fs = some (.val d, fs') := by
  have hp : 0 < ds.length := List.length_pos_iff.mpr h0
  obtain ⟨k, fs', e, h1, h2⟩ := d_draw (n := (ds.length : Int)) (by omega) (by omega) fs
  obtain ⟨j, rfl⟩ : ∃ j : Nat, k = (j : Int) := ⟨k.toNat, by omega⟩
  have hj : j < ds.length := by omega
  refine ⟨ds[j], List.getElem_mem hj, fs', ?_⟩
  simp [D__law_any, B__law_any, e, hj]
theorem d_same {d : PyData} (h : reprOk d = true) (fs : FS) : D__law_same [.val d, .val d] fs = some (.val (.bool true), fs) := by
  simp [D__law_same, B__law_same, gRepr, h, gEqS, gS]
/-! ### names -/
def Low (x : Str) : Prop := ∀ c ∈ x.cps.toList, c ∈ lowerS.cps.toList
abbrev alphaS : Str := "mnbvcxzlkjhgfdsapoiuytrewq"
theorem alpha_low : ∀ c ∈ alphaS.cps.toList, c ∈ lowerS.cps.toList := by decide +kernel
theorem alpha_len : alphaS.cps.toList.length = 26 := by decide +kernel
theorem low_app {x y : Str} (hx : Low x) (hy : Low y) : Low (x ++ y) := fun c hc => by
  have e : (x ++ y).cps.toList = x.cps.toList ++ y.cps.toList := by
    show (x.cps ++ y.cps).toList = _
    simp
  rw [e] at hc
  rcases List.mem_append.mp hc with h | h
  · exact hx c h
  · exact hy c h
theorem len_app (x y : Str) : (x ++ y).length = x.length + y.length := by
  show (x.cps ++ y.cps).size = _
  simp [Str.length]
theorem name_loop (size : Int) : ∀ (fs : FS) (stem : Int), 0 ≤ stem → ∃ (t : Str) (q2 q4 : Option Pl), t.length = 4 ∧ Low t ∧ sFor (.nm 4) L0__law_name (rangeD 0 4) ⟨[some .fd, some (.val (.int size)), some (.val (.int stem)), some (.val (.str "")), none], fs⟩ = some (.nx ⟨[some .fd, some (.val (.int size)), q2, some (.val (.str t)), q4], fs⟩) := fun fs stem h0 => by
  have hz := sizeLine_eq
  rw [rangeD_lN, lN_map]
  obtain ⟨s', e, t, stem', q4, rfl, h1, h2, h3⟩ := sFor_inv (t := .nm 4) (f := L0__law_name) (fun n : Nat => .int (n : Int)) (fun i st => ∃ (t : Str) (stem : Int) (q4 : Option Pl), st = ⟨[some .fd, some (.val (.int size)), some (.val (.int stem)), some (.val (.str t)), q4], fs⟩ ∧ t.length = i ∧ Low t ∧ 0 ≤ stem) (List.range 4) 0
    ⟨[some .fd, some (.val (.int size)), some (.val (.int stem)), some (.val (.str "")), none], fs⟩ (fun j x st hj hI => by
      obtain ⟨t, stem, q4, rfl, h1, h2, h3⟩ := hI
      have hjn : j < 4 := by
        have := (List.getElem?_eq_some_iff.mp hj).1
        simpa using this
      obtain ⟨i1, i2⟩ := mod_in (i := stem) (n := 26) (by decide)
      obtain ⟨m, hm⟩ : ∃ m : Nat, stem % 26 = (m : Int) := ⟨(stem % 26).toNat, by omega⟩
      have hml : m < alphaS.cps.toList.length := by rw [alpha_len]; omega
      obtain ⟨c, hc⟩ : ∃ c, alphaS.cps.toList[m]? = some c := ⟨_, List.getElem?_eq_getElem hml⟩
      have hcl := alpha_low c (List.mem_of_getElem? hc)
      have hlow : Low ⟨#[c]⟩ := fun d hd => by
        have : d = c := by simpa using hd
        rw [this]; exact hcl
      have h26 : cDivB stem 26 = true := rfl
      have hal : alphaS.length ≤ sizeLine := by
        have : alphaS.length = 26 := by decide +kernel
        omega
      have hl1 : (⟨#[c]⟩ : Str).length = 1 := rfl
      have hlen : t.length + 1 ≤ sizeLine := by omega
      refine ⟨_, ?_, t ++ ⟨#[c]⟩, stem / 26, some (.val (.int (x : Int))), rfl, by rw [len_app, h1, hl1], low_app h2 hlow, Int.ediv_nonneg h3 (by decide)⟩
      simp [L0__law_name, hm, hal, hc, hl1, hlen, h26]) ⟨"", stem, none, rfl, rfl, fun c hc => (by cases hc), h0⟩
  rw [Nat.zero_add, List.length_range] at h1
  exact ⟨t, _, q4, h1, h2, e⟩
theorem d_name (fs : FS) : ∃ (x : Str) (fs' : FS), NameOk x ∧ D__law_name [.fd] fs = some (.val (.str x), fs') := by
  have hz := sizeLine_eq
  obtain ⟨k, fs1, e1, a1, a2⟩ := d_draw (n := 8) (by decide) (by decide) fs
  obtain ⟨stem, fs2, e2, b1, b2⟩ := d_draw (n := 456976) (by decide) (by decide) fs1
  obtain ⟨t, q2, q4, c1, c2, e3⟩ := name_loop (1 + k) fs2 stem b1
  obtain ⟨n, hn⟩ : ∃ n : Nat, 1 + k = (n : Int) := ⟨(1 + k).toNat, by omega⟩
  have hrl : (revS t).length = 4 := by
    show (revS t).cps.size = 4
    unfold revS
    simp
    exact c1
  have hrw : Low (revS t) := fun c hc => by
    unfold revS at hc
    simp at hc
    exact c2 c (by simpa using hc)
  have hw : Low (t ++ revS t) := low_app c2 hrw
  have hwl : (t ++ revS t).length = 8 := by rw [len_app, c1, hrl]
  have ex : (cutS (t ++ revS t) none (some (n : Int))).cps.toList = (t ++ revS t).cps.toList.take n := by
    unfold cutS
    rw [HT.sIx_nat, HT.sIx_none]
    have hsz : (t ++ revS t).length = (t ++ revS t).cps.size := rfl
    simp
    omega
  have hel : (cutS (t ++ revS t) none (some (n : Int))).length = n := by
    show (cutS (t ++ revS t) none (some (n : Int))).cps.size = n
    rw [← Array.length_toList, ex, List.length_take, Array.length_toList]
    have : (t ++ revS t).cps.size = 8 := hwl
    omega
  have hlow : Low (cutS (t ++ revS t) none (some (n : Int))) := fun c hc => by
    rw [ex] at hc
    exact hw c (List.mem_of_mem_take hc)
  have hok : okS (cutS (t ++ revS t) none (some (n : Int))) = true := by
    show (cutS (t ++ revS t) none (some (n : Int))).cps.all (· < 0x110000) = true
    rw [← Array.all_toList, List.all_eq_true]
    exact fun c hc => decide_eq_true (lower_lt c (hlow c hc))
  have hsh := shaped_str hok
  have hany : SeqAt.shaped (.str "any") = true := shaped_str (by decide +kernel)
  have hr4 : rOk (4 : Int) = true := rfl
  have h1z : t.length ≤ sizeLine := by omega
  have h2z : t.length + (revS t).length ≤ sizeLine := by omega
  have h3z : (t ++ revS t).length ≤ sizeLine := by omega
  rw [hn] at e3
  generalize hx : cutS (t ++ revS t) none (some (n : Int)) = x at hel hlow hsh
  by_cases c : x = "any"
  · refine ⟨"ayn", fs2, ⟨by decide, by decide +kernel, by decide +kernel, by decide +kernel⟩, ?_⟩
    simp [D__law_name, B__law_name, e1, e2, hr4, hn, e3, h1z, h2z, h3z, hx, hsh, hany, eqv_str, c]
  · refine ⟨x, fs2, ⟨c, by omega, by omega, hlow⟩, ?_⟩
    simp [D__law_name, B__law_name, e1, e2, hr4, hn, e3, h1z, h2z, h3z, hx, hsh, hany, eqv_str, c]
end K8

set_option Elab.async false
set_option linter.all false
set_option maxRecDepth 100000
set_option maxHeartbeats 1000000
/-! K9c: sets of names. -/
namespace K8
open PySem PySem.Spec PyProof.Rows L2 PD
theorem sortS_asc {xs : List Str} (nd : xs.Nodup) : (sortS xs).Pairwise (fun x y => x.cps.toList < y.cps.toList) := by
  have h1 : (sortS xs).Pairwise (fun a b => leS a b = true) := List.pairwise_mergeSort leS_trans leS_total xs
  have h2 : (sortS xs).Nodup := (List.mergeSort_perm xs leS).nodup_iff.mpr nd
  refine (h1.and h2).imp fun {a b} ⟨h, hne⟩ => ?_
  have e : ltCps a.cps.toList b.cps.toList = true := by
    cases c : ltCps a.cps.toList b.cps.toList with
    | true => rfl
    | false =>
      unfold leS at h
      simp only [Bool.not_eq_true'] at h
      exact absurd (str_eq (PD.ltCps_eq _ _ c h)) hne
  rw [← lt_meets] at e
  exact of_decide_eq_true e
/-- names found so far -/
def Found (xs : List Str) : Prop := xs.Nodup ∧ ∀ x ∈ xs, NameOk x
def FdPl (xs : List Str) (r : Pl) : Prop := r = .ownL (xs.map .str) ∨ r = .val (.list (xs.map .str))
theorem FdPl.fz {xs : List Str} {r : Pl} (h : FdPl xs r) : fz r = .val (.list (xs.map .str)) := by rcases h with rfl | rfl <;> rfl
theorem shaped_strs {xs : List Str} (h : ∀ x ∈ xs, NameOk x) : SeqAt.shaped (.list (xs.map .str)) = true := shaped_listI fun d hd => by
  obtain ⟨x, hx, rfl⟩ := List.mem_map.mp hd
  exact ⟨lay_str (h x hx).ok, Nat.zero_le _⟩
theorem found_add {xs : List Str} (h : Found xs) {x : Str} (hx : NameOk x) (hn : x ∉ xs) : Found (xs ++ [x]) := ⟨List.nodup_append.mpr ⟨h.1, by simp, fun a ha b hb => by
    have : b = x := by simpa using hb
    rw [this]
    rintro rfl
    exact hn ha⟩, fun y hy => by
    rcases List.mem_append.mp hy with h1 | h1
    · exact h.2 y h1
    · rw [List.mem_singleton.mp h1]; exact hx⟩
theorem names_turn (many : Int) {xs : List Str} (h : Found xs) (hl : xs.length ≤ 100) {r : Pl} (hr : FdPl xs r) (q3 q4 : Option Pl) (fs : FS) :
    ∃ (ys : List Str) (r' : Pl) (q4' : Option Pl) (fs' : FS), L0__law_names ⟨[some .fd, some (.val (.int many)), some r, q3, q4], fs⟩ = some (.nx ⟨[some .fd, some (.val (.int many)), some r', q3, q4'], fs'⟩) ∧ Found ys ∧ FdPl ys r' ∧ ys.length ≤ xs.length + 1 := by
  have hz := sizeLine_eq
  obtain ⟨x, fs', hx, e⟩ := d_name fs
  have h1 := shaped_str hx.ok
  have h2 := shaped_strs h.2
  have h3 := any_eqv_str xs x
  have h1z : 1 ≤ sizeLine := by omega
  have h2z : xs.length + 1 ≤ sizeLine := by omega
  by_cases c : x ∈ xs
  · refine ⟨xs, .val (.list (xs.map .str)), some (.val (.str x)), fs', ?_, h, .inr rfl, by omega⟩
    rcases hr with rfl | rfl <;> simp [L0__law_names, e, h1, h2, h3, c]
  · refine ⟨xs ++ [x], .ownL ((xs ++ [x]).map .str), some (.val (.str x)), fs', ?_, found_add h hx c, .inl rfl, by simp⟩
    rcases hr with rfl | rfl <;> simp [L0__law_names, e, h1, h2, h3, c, h1z, h2z]
theorem fill_turn {many : Nat} {xs : List Str} (h : Found xs) (hl : xs.length ≤ many) (hm : many ≤ 100) {r : Pl} (hr : FdPl xs r) {x : Str} (hx : NameOk x) (q3 : Option Pl) (fs : FS) :
    ∃ (ys : List Str) (r' : Pl), L1__law_names ⟨[some .fd, some (.val (.int many)), some r, q3, some (.val (.str x))], fs⟩ = some (.nx ⟨[some .fd, some (.val (.int many)), some r', q3, some (.val (.str x))], fs⟩) ∧ Found ys ∧ FdPl ys r' ∧ ys.length ≤ many ∧ (∀ y ∈ xs, y ∈ ys) ∧ (ys.length = many ∨ x ∈ ys) := by
  have hz := sizeLine_eq
  have h1 := shaped_str hx.ok
  have h2 := shaped_strs h.2
  have h3 := any_eqv_str xs x
  have h1z : 1 ≤ sizeLine := by omega
  have h2z : xs.length + 1 ≤ sizeLine := by omega
  by_cases c : x ∈ xs
  · refine ⟨xs, .val (.list (xs.map .str)), ?_, h, .inr rfl, hl, fun _ h => h, .inr c⟩
    rcases hr with rfl | rfl <;> simp [L1__law_names, h1, h2, h3, c]
  · by_cases c2 : xs.length < many
    · refine ⟨xs ++ [x], .ownL ((xs ++ [x]).map .str), ?_, found_add h hx c, .inl rfl, by simp; omega, fun y hy => List.mem_append_left _ hy, .inr (by simp)⟩
      have c3 : (xs.length : Int) < (many : Int) := by omega
      rcases hr with rfl | rfl <;> simp [L1__law_names, h1, h2, h3, c, c2, c3, h1z, h2z]
    · refine ⟨xs, .val (.list (xs.map .str)), ?_, h, .inr rfl, hl, fun _ h => h, .inl (by omega)⟩
      have c3 : ¬ (xs.length : Int) < (many : Int) := by omega
      rcases hr with rfl | rfl <;> simp [L1__law_names, h1, h2, h3, c, c2, c3]
theorem nodup_sub : ∀ {as ys : List Str}, as.Nodup → (∀ a ∈ as, a ∈ ys) → as.length ≤ ys.length
  | [], _, _, _ => Nat.zero_le _
  | a :: as, ys, nd, h => by
    obtain ⟨n1, n2⟩ := List.nodup_cons.mp nd
    have h1 : a ∈ ys := h a List.mem_cons_self
    have ih := nodup_sub (ys := ys.erase a) n2 fun b hb => (List.mem_erase_of_ne (show b ≠ a from fun e => n1 (by rw [← e]; exact hb))).mpr (h b (List.mem_cons_of_mem _ hb))
    have h2 := List.length_erase_of_mem h1
    have h3 : 0 < ys.length := List.length_pos_of_mem h1
    rw [List.length_cons]
    omega
theorem four_names : ∀ x ∈ ([("b" : Str), "bb", "left", "right"] : List Str), NameOk x := by
  intro x hx
  simp only [List.mem_cons, List.not_mem_nil, or_false] at hx
  rcases hx with rfl | rfl | rfl | rfl <;> exact ⟨by decide, by decide +kernel, by decide +kernel, by decide +kernel⟩
theorem d_names {m : Nat} (h1 : 1 ≤ m) (h4 : m ≤ 4) (fs : FS) : ∃ (xs : List Str) (fs' : FS), NamesOk xs ∧ xs.length = m ∧ D__law_names [.fd, .val (.int m)] fs = some (.val (tS xs), fs') := by
  have hz := sizeLine_eq
  have hr : rOk (m : Int) = true := rOk_nat (by omega)
  obtain ⟨s1, e1, xs, r, q3, q4, fs1, rfl, f1, f2, f3⟩ := sFor_inv (t := .nm 3) (f := L0__law_names) (fun n : Nat => .int (n : Int)) (fun i st => ∃ (xs : List Str) (r : Pl) (q3 q4 : Option Pl) (fs1 : FS), st = ⟨[some .fd, some (.val (.int m)), some r, q3, q4], fs1⟩ ∧ Found xs ∧ FdPl xs r ∧ xs.length ≤ i) (List.range m) 0
    ⟨[some .fd, some (.val (.int m)), some (.ownL []), none, none], fs⟩ (fun j x st hj hI => by
      obtain ⟨xs, r, q3, q4, fs1, rfl, f1, f2, f3⟩ := hI
      have hjn : j < m := by
        have := (List.getElem?_eq_some_iff.mp hj).1
        simpa using this
      obtain ⟨ys, r', q4', fs', g1, g2, g3, g4⟩ := names_turn (m : Int) f1 (by omega) f2 (some (.val (.int (x : Int)))) q4 fs1
      exact ⟨_, by simpa using g1, ys, r', _, _, _, rfl, g2, g3, by omega⟩) ⟨[], _, none, none, fs, rfl, ⟨by simp, fun _ h => (by cases h)⟩, .inl rfl, Nat.zero_le _⟩
  rw [Nat.zero_add, List.length_range] at f3
  obtain ⟨s2, e2, ys, r', q4', rfl, g1, g2, g3, g4⟩ := sFor_inv (t := .nm 4) (f := L1__law_names) PyData.str (fun i st => ∃ (ys : List Str) (r' : Pl) (q4' : Option Pl), st = ⟨[some .fd, some (.val (.int m)), some r', q3, q4'], fs1⟩ ∧ Found ys ∧ FdPl ys r' ∧ ys.length ≤ m ∧ (ys.length = m ∨ ∀ x ∈ ([("b" : Str), "bb", "left", "right"] : List Str).take i, x ∈ ys)) ["b", "bb", "left", "right"] 0
    ⟨[some .fd, some (.val (.int m)), some r, q3, q4], fs1⟩ (fun j x st hj hI => by
      obtain ⟨ys, r', q4', rfl, g1, g2, g3, g4⟩ := hI
      have hx := four_names x (List.mem_of_getElem? hj)
      obtain ⟨zs, r2, k1, k2, k3, k4, k5, k6⟩ := fill_turn g1 g3 (by omega) g2 hx q3 fs1
      refine ⟨_, by simpa using k1, zs, r2, _, rfl, k2, k3, k4, ?_⟩
      rcases k6 with k6 | k6
      · exact .inl k6
      · rcases g4 with g4 | g4
        · refine .inl ?_
          have : ys.length ≤ zs.length := nodup_sub g1.1 k5
          omega
        · refine .inr fun y hy => ?_
          rw [Nat.zero_add, List.take_add_one, hj] at hy
          rcases List.mem_append.mp hy with h | h
          · exact k5 y (g4 y (by rw [Nat.zero_add]; exact h))
          · have : y = x := by simpa using h
            rw [this]; exact k6) ⟨xs, r, q4, rfl, f1, f2, f3, .inr fun _ h => (by cases h)⟩
  have g5 : ys.length = m := by
    rcases g4 with g4 | g4
    · exact g4
    · have := nodup_sub (as := [("b" : Str), "bb", "left", "right"]) (ys := ys) (by decide +kernel) fun a ha => g4 a (by simpa using ha)
      simp at this
      omega
  have hs := gSorted_s (ns := ys) (by omega) (fun z => by rw [z] at g5; simp at g5; omega)
  have hsn : (sortS ys).length = ys.length := (List.mergeSort_perm ys leS).length_eq
  refine ⟨sortS ys, fs1, ⟨fun x hx => g1.2 x ((List.mergeSort_perm ys leS).mem_iff.mp hx), sortS_asc g1.1, by omega⟩, by omega, ?_⟩
  rw [← lN_map, ← rangeD_lN] at e1
  have e2' : sFor (.nm 4) L1__law_names [.str "b", .str "bb", .str "left", .str "right"] ⟨[some .fd, some (.val (.int m)), some r, q3, q4], fs1⟩ = _ := e2
  have h4z : 4 ≤ sizeLine := by omega
  have hfz := g2.fz
  simp [D__law_names, B__law_names, hr, e1, h4z, e2', hfz, hs]
end K8

set_option Elab.async false
set_option linter.all false
set_option maxRecDepth 100000
set_option maxHeartbeats 1000000
/-! K9d: the machines that the law draws. -/
namespace K8
open PySem PySem.Spec PyProof.Rows L2 PD
@[simp] theorem gMin_2 (a b : Int) : gExtL minI (.val (.list [.int a, .int b])) = some (.val (.int (min a b))) := rfl
@[simp] theorem gMax_2 (a b : Int) : gMax (.val (.list [.int a, .int b])) = some (.val (.int (max a b))) := rfl
theorem eqv_int (a b : Int) : PyData.eqv (.int a) (.int b) = decide (a = b) := by
  unfold PyData.eqv
  rw [Bool.eq_iff_iff]
  simp
theorem d_move {way s many : Int} (hw : 0 ≤ way ∧ way < 4) (hs : 0 ≤ s ∧ s < many) (hm : many ≤ 1000) (fs : FS) : ∃ (t : Nat) (fs' : FS), (t : Int) < many ∧ D__law_move [.fd, .val (.int way), .val (.int s), .val (.int many)] fs = some (.val (.int (t : Int)), fs') := by
  have hz := sizeLine_eq
  have z2 : 2 ≤ sizeLine := by omega
  have z3 : 3 ≤ sizeLine := by omega
  have z4 : 4 ≤ sizeLine := by omega
  obtain ⟨k, fs1, e1, a1, a2⟩ := d_draw (n := many) (by omega) (by omega) fs
  obtain ⟨j, rfl⟩ : ∃ j : Nat, k = (j : Int) := ⟨k.toNat, by omega⟩
  by_cases c0 : way = 0
  · refine ⟨j, fs1, a2, ?_⟩
    simp [D__law_move, B__law_move, shaped_int, eqv_int, c0, e1]
  by_cases c1 : many = 1
  · refine ⟨j, fs1, a2, ?_⟩
    simp [D__law_move, B__law_move, shaped_int, eqv_int, c0, c1]
    rw [c1] at e1
    simp [e1]
  by_cases c2 : way = 1
  · obtain ⟨u, fs2, e2, b1, b2⟩ := d_draw (n := 8) (by decide) (by decide) fs
    by_cases c3 : 0 < u
    · obtain ⟨i1, i2⟩ := mod_in (i := s + 1) (n := many) (by omega)
      obtain ⟨t, ht⟩ : ∃ t : Nat, (s + 1) % many = (t : Int) := ⟨((s + 1) % many).toNat, by omega⟩
      have hp : 0 < many := by omega
      refine ⟨t, fs2, by omega, ?_⟩
      simp [D__law_move, B__law_move, shaped_int, eqv_int, c0, c1, c2, e2, c3, hp, ht]
    · obtain ⟨k', fs3, e3, d1, d2⟩ := d_draw (n := many) (by omega) (by omega) fs2
      obtain ⟨j', rfl⟩ : ∃ j : Nat, k' = (j : Int) := ⟨k'.toNat, by omega⟩
      refine ⟨j', fs3, d2, ?_⟩
      simp [D__law_move, B__law_move, shaped_int, eqv_int, c0, c1, c2, e2, c3, e3]
  by_cases c3 : way = 2
  · obtain ⟨d, hd, fs2, e2⟩ := d_any (ds := [.int (min (s + 1) (many - 1)), .int (min (s + 1) (many - 1)), .int (max (s - 1) 0)]) (by simp) (by simp) fs
    have : ∃ t : Nat, d = .int (t : Int) ∧ (t : Int) < many := by
      simp only [List.mem_cons, List.not_mem_nil, or_false] at hd
      rcases hd with rfl | rfl | rfl
      · exact ⟨(min (s + 1) (many - 1)).toNat, by congr 1; omega, by omega⟩
      · exact ⟨(min (s + 1) (many - 1)).toNat, by congr 1; omega, by omega⟩
      · exact ⟨(max (s - 1) 0).toNat, by congr 1; omega, by omega⟩
    obtain ⟨t, rfl, ht⟩ := this
    refine ⟨t, fs2, ht, ?_⟩
    simp [D__law_move, B__law_move, shaped_int, eqv_int, c0, c1, c2, c3, z2, z3, e2]
  · obtain ⟨d, hd, fs2, e2⟩ := d_any (ds := [.int (min (s + 1) (many - 1)), .int (min (s + 1) (many - 1)), .int s, .int 0]) (by simp) (by simp) fs
    have : ∃ t : Nat, d = .int (t : Int) ∧ (t : Int) < many := by
      simp only [List.mem_cons, List.not_mem_nil, or_false] at hd
      rcases hd with rfl | rfl | rfl | rfl
      · exact ⟨(min (s + 1) (many - 1)).toNat, by congr 1; omega, by omega⟩
      · exact ⟨(min (s + 1) (many - 1)).toNat, by congr 1; omega, by omega⟩
      · exact ⟨s.toNat, by congr 1; omega, by omega⟩
      · exact ⟨0, rfl, by omega⟩
    obtain ⟨t, rfl, ht⟩ := this
    refine ⟨t, fs2, ht, ?_⟩
    simp [D__law_move, B__law_move, shaped_int, eqv_int, c0, c1, c2, c3, z2, z4, e2]
theorem paired_nats {α : Type} {P : Nat → Prop} : ∀ {xs : List α} {ds : List PyData}, Paired (fun _ d => ∃ t : Nat, d = .int (t : Int) ∧ P t) xs ds → ∃ ts : List Nat, ds = lN ts ∧ ts.length = xs.length ∧ ∀ t ∈ ts, P t
  | _, _, .nil => ⟨[], rfl, rfl, fun _ h => (by cases h)⟩
  | _, _, .cons ⟨t, h1, h2⟩ r => by
    obtain ⟨ts, e1, e2, e3⟩ := paired_nats r
    refine ⟨t :: ts, by rw [h1, e1]; rfl, by simp [e2], fun u hu => ?_⟩
    rcases List.mem_cons.mp hu with rfl | hu
    · exact h2
    · exact e3 u hu
theorem paired_ints {α : Type} {P : Int → Prop} : ∀ {xs : List α} {ds : List PyData}, Paired (fun _ d => ∃ t : Int, d = .int t ∧ P t) xs ds → ∃ ts : List Int, ds = ts.map .int ∧ ts.length = xs.length ∧ ∀ t ∈ ts, P t
  | _, _, .nil => ⟨[], rfl, rfl, fun _ h => (by cases h)⟩
  | _, _, .cons ⟨t, h1, h2⟩ r => by
    obtain ⟨ts, e1, e2, e3⟩ := paired_ints r
    refine ⟨t :: ts, by rw [h1, e1]; rfl, by simp [e2], fun u hu => ?_⟩
    rcases List.mem_cons.mp hu with rfl | hu
    · exact h2
    · exact e3 u hu
/-- one state's moves and answers -/
theorem box_turn {way many top : Int} {ls ks : List Str} (hw : 0 ≤ way ∧ way < 4) (hm : many ≤ 6) (ht : 2 ≤ top ∨ top = 1) (hl : ls.length ≤ 9) (hk : ks.length ≤ 9) {s : Nat} (hs : (s : Int) < many) (mv : List (List Nat)) (an : List (List Int)) (h1 : mv.length ≤ 100) (h2 : an.length ≤ 100) (q9 : Option Pl) (fs : FS) :
    ∃ (row : List Nat) (ans : List Int) (q9' : Option Pl) (fs' : FS), row.length = ls.length ∧ (∀ t ∈ row, (t : Int) < many) ∧ ans.length = ks.length ∧ (∀ i ∈ ans, 0 ≤ i) ∧
      L0__law_box ⟨[some .fd, some (.val (.int way)), some (.val (.int many)), some (.val (tS ls)), some (.val (tS ks)), some (.ownL (mv.map tN)), some (.ownL (an.map tI)), some (.val (.int top)), some (.val (.int (s : Int))), q9, none, none], fs⟩ =
        some (.nx ⟨[some .fd, some (.val (.int way)), some (.val (.int many)), some (.val (tS ls)), some (.val (tS ks)), some (.ownL ((mv ++ [row]).map tN)), some (.ownL ((an ++ [ans]).map tI)), some (.val (.int top)), some (.val (.int (s : Int))), q9', none, none], fs'⟩) := by
  have hz := sizeLine_eq
  have hrl : rOk (ls.length : Int) = true := rOk_nat (by omega)
  have hrk : rOk (ks.length : Int) = true := rOk_nat (by omega)
  obtain ⟨ds, st1, e1, ⟨fs1, rfl⟩, p1⟩ := lc_turnR (vs := [10]) (t := .nm 10) (fe := Ce0__law_box) (fun n : Nat => .int (n : Int)) (fun st => ∃ fs', st = ⟨[some .fd, some (.val (.int way)), some (.val (.int many)), some (.val (tS ls)), some (.val (tS ks)), some (.ownL (mv.map tN)), some (.ownL (an.map tI)), some (.val (.int top)), some (.val (.int (s : Int))), q9, none, none], fs'⟩) (fun _ d => ∃ t : Nat, d = .int (t : Int) ∧ (t : Int) < many) (List.range ls.length)
    ⟨[some .fd, some (.val (.int way)), some (.val (.int many)), some (.val (tS ls)), some (.val (tS ks)), some (.ownL (mv.map tN)), some (.ownL (an.map tI)), some (.val (.int top)), some (.val (.int (s : Int))), q9, none, none], fs⟩ (by simp; omega) (fun x hx st hst => by
      obtain ⟨fs', rfl⟩ := hst
      obtain ⟨t, fs2, k1, k2⟩ := d_move hw (s := (s : Int)) (many := many) ⟨by omega, hs⟩ (by omega) fs'
      exact ⟨.int (t : Int), _, by simp [Ce0__law_box, k2], ⟨t, rfl, k1⟩, fs2, rfl⟩) ⟨fs, rfl⟩
  obtain ⟨row, rfl, r1, r2⟩ := paired_nats p1
  rw [List.length_range] at r1
  rw [← lN_map, ← rangeD_lN] at e1
  obtain ⟨ds2, st2, e2, ⟨fs2, rfl⟩, p2⟩ := lc_turnR (vs := [10]) (t := .nm 10) (fe := Ce1__law_box) (fun n : Nat => .int (n : Int)) (fun st => ∃ fs', st = ⟨[some .fd, some (.val (.int way)), some (.val (.int many)), some (.val (tS ls)), some (.val (tS ks)), some (.ownL ((mv ++ [row]).map tN)), some (.ownL (an.map tI)), some (.val (.int top)), some (.val (.int (s : Int))), q9, none, none], fs'⟩) (fun _ d => ∃ t : Int, d = .int t ∧ 0 ≤ t) (List.range ks.length)
    ⟨[some .fd, some (.val (.int way)), some (.val (.int many)), some (.val (tS ls)), some (.val (tS ks)), some (.ownL ((mv ++ [row]).map tN)), some (.ownL (an.map tI)), some (.val (.int top)), some (.val (.int (s : Int))), q9, none, none], fs1⟩ (by simp; omega) (fun x hx st hst => by
      obtain ⟨fs', rfl⟩ := hst
      by_cases c : top < 9
      · obtain ⟨k, fs2, k1, k2, k3⟩ := d_draw (n := top) (by omega) (by omega) fs'
        exact ⟨.int k, _, by simp [Ce1__law_box, c, k1], ⟨k, rfl, k2⟩, fs2, rfl⟩
      · obtain ⟨k, fs2, k1, k2, k3⟩ := d_draw (n := 3) (by decide) (by decide) fs'
        exact ⟨.int (top - k), _, by simp [Ce1__law_box, c, k1], ⟨_, rfl, by omega⟩, fs2, rfl⟩) ⟨fs1, rfl⟩
  obtain ⟨late, rfl, l1, l2⟩ := paired_ints p2
  rw [List.length_range] at l1
  rw [← lN_map, ← rangeD_lN] at e2
  obtain ⟨ds3, st3, e3, ⟨fs3, rfl⟩, p3⟩ := lc_turnR (vs := [11]) (t := .nm 11) (fe := Ce2__law_box) PyData.int (fun st => ∃ fs', st = ⟨[some .fd, some (.val (.int way)), some (.val (.int many)), some (.val (tS ls)), some (.val (tS ks)), some (.ownL ((mv ++ [row]).map tN)), some (.ownL (an.map tI)), some (.val (.int top)), some (.val (.int (s : Int))), some (.val (.list (late.map .int))), none, none], fs'⟩) (fun _ d => ∃ t : Int, d = .int t ∧ 0 ≤ t) late
    ⟨[some .fd, some (.val (.int way)), some (.val (.int many)), some (.val (tS ls)), some (.val (tS ks)), some (.ownL ((mv ++ [row]).map tN)), some (.ownL (an.map tI)), some (.val (.int top)), some (.val (.int (s : Int))), some (.val (.list (late.map .int))), none, none], fs2⟩ (by omega) (fun x hx st hst => by
      obtain ⟨fs', rfl⟩ := hst
      obtain ⟨k, fs2, k1, k2, k3⟩ := d_draw (n := 3) (by decide) (by decide) fs'
      by_cases c : k = 0
      · exact ⟨.int (s : Int), _, by simp [Ce2__law_box, k1, shaped_int, eqv_int, c], ⟨_, rfl, by omega⟩, fs2, rfl⟩
      · exact ⟨.int x, _, by simp [Ce2__law_box, k1, shaped_int, eqv_int, c], ⟨_, rfl, l2 x hx⟩, fs2, rfl⟩) ⟨fs2, rfl⟩
  obtain ⟨ans, rfl, a1, a2⟩ := paired_ints p3
  refine ⟨row, ans, some (.val (.list (late.map .int))), fs3, r1, r2, by omega, a2, ?_⟩
  have z1 : mv.length < sizeLine := by omega
  have z2 : an.length < sizeLine := by omega
  have em : (mv ++ [row]).map tN = mv.map tN ++ [.tuple (lN row)] := by simp [tN_eq]
  have ea : (an ++ [ans]).map tI = an.map tI ++ [.tuple (ans.map .int)] := by simp
  rw [em] at e2 e3 ⊢
  rw [ea]
  have z1' : (mv.map tN).length < sizeLine := by simpa using z1
  have z2' : (an.map tI).length < sizeLine := by simpa using z2
  generalize mv.map tN = mvs at e1 e2 e3 z1' ⊢
  generalize an.map tI = ans' at e1 e2 e3 z2' ⊢
  generalize ans.map PyData.int = a3 at e3 ⊢
  generalize late.map PyData.int = l3 at e2 e3 ⊢
  simp [L0__law_box, hrl, hrk, plainAt, e1, z1', e2, e3, z2']
end K8

set_option Elab.async false
set_option linter.all false
set_option maxRecDepth 100000
set_option maxHeartbeats 2000000
/-! K9e: a whole machine. -/
namespace K8
open PySem PySem.Spec PyProof.Rows L2 PD
abbrev StB (way many top : Int) (ls ks : List Str) (mv : List (List Nat)) (an : List (List Int)) (q8 q9 : Option Pl) (fs : FS) : DS := ⟨[some .fd, some (.val (.int way)), some (.val (.int many)), some (.val (tS ls)), some (.val (tS ks)), some (.ownL (mv.map tN)), some (.ownL (an.map tI)), some (.val (.int top)), q8, q9, none, none], fs⟩
theorem box_loop {way top : Int} {m : Nat} {ls ks : List Str} (hw : 0 ≤ way ∧ way < 4) (hm : m ≤ 6) (ht : 2 ≤ top ∨ top = 1) (hl : ls.length ≤ 9) (hk : ks.length ≤ 9) (fs : FS) :
    ∃ (mv : List (List Nat)) (an : List (List Int)) (q8 q9 : Option Pl) (fs' : FS), mv.length = m ∧ an.length = m ∧ (∀ r ∈ mv, r.length = ls.length ∧ ∀ t ∈ r, t < m) ∧ (∀ r ∈ an, r.length = ks.length ∧ ∀ i ∈ r, 0 ≤ i) ∧
      sFor (.nm 8) L0__law_box (rangeD 0 m) (StB way m top ls ks [] [] none none fs) = some (.nx (StB way m top ls ks mv an q8 q9 fs')) := by
  rw [rangeD_lN, lN_map]
  obtain ⟨s', e, mv, an, q8, q9, fs', rfl, h1, h2, h3, h4⟩ := sFor_inv (t := .nm 8) (f := L0__law_box) (fun n : Nat => .int (n : Int)) (fun i st => ∃ (mv : List (List Nat)) (an : List (List Int)) (q8 q9 : Option Pl) (fs' : FS), st = StB way m top ls ks mv an q8 q9 fs' ∧ mv.length = i ∧ an.length = i ∧ (∀ r ∈ mv, r.length = ls.length ∧ ∀ t ∈ r, t < m) ∧ (∀ r ∈ an, r.length = ks.length ∧ ∀ i ∈ r, 0 ≤ i)) (List.range m) 0
    (StB way m top ls ks [] [] none none fs) (fun j x st hj hI => by
      obtain ⟨mv, an, q8, q9, fs', rfl, h1, h2, h3, h4⟩ := hI
      have hjn : j < m := by
        have := (List.getElem?_eq_some_iff.mp hj).1
        simpa using this
      have hxm : x < m := by
        have := List.mem_of_getElem? hj
        simpa using this
      obtain ⟨row, ans, q9', fs2, r1, r2, r3, r4, r5⟩ := box_turn (way := way) (many := (m : Int)) (top := top) (ls := ls) (ks := ks) hw (by omega) ht hl hk (s := x) (by omega) mv an (by omega) (by omega) q9 fs'
      refine ⟨_, ?_, mv ++ [row], an ++ [ans], some (.val (.int (x : Int))), q9', fs2, rfl, by simp; omega, by simp; omega, fun r hr => ?_, fun r hr => ?_⟩
      · rw [put_nm, Option.bind_some]
        exact r5
      · rcases List.mem_append.mp hr with h | h
        · exact h3 r h
        · rw [List.mem_singleton.mp h]
          exact ⟨r1, fun t ht => by have := r2 t ht; omega⟩
      · rcases List.mem_append.mp hr with h | h
        · exact h4 r h
        · rw [List.mem_singleton.mp h]
          exact ⟨r3, r4⟩) ⟨[], [], none, none, fs, rfl, rfl, rfl, fun _ h => (by cases h), fun _ h => (by cases h)⟩
  rw [Nat.zero_add, List.length_range] at h1 h2
  exact ⟨mv, an, q8, q9, fs', h1, h2, h3, h4, e⟩
theorem d_box (fs : FS) : ∃ (M : Mach) (fs' : FS), M.Ok ∧ D__law_box [.fd] fs = some (.val (mD M), fs') := by
  have hz := sizeLine_eq
  obtain ⟨way, h1, e1, a1, a2⟩ := d_draw (n := 4) (by decide) (by decide) fs
  obtain ⟨d, hd, h2, e2⟩ := d_any (ds := [.int 0, .int 1, .int 2, .int 3, .int 4, .int 5, .int 5, .int 4]) (by simp) (by simp) h1
  obtain ⟨m, hd, hm1, hm6⟩ : ∃ m : Nat, d = .int ((m : Int) - 1) ∧ 1 ≤ m ∧ m ≤ 6 := by
    simp only [List.mem_cons, List.not_mem_nil, or_false] at hd
    rcases hd with rfl | rfl | rfl | rfl | rfl | rfl | rfl | rfl
    · exact ⟨1, rfl, by decide, by decide⟩
    · exact ⟨2, rfl, by decide, by decide⟩
    · exact ⟨3, rfl, by decide, by decide⟩
    · exact ⟨4, rfl, by decide, by decide⟩
    · exact ⟨5, rfl, by decide, by decide⟩
    · exact ⟨6, rfl, by decide, by decide⟩
    · exact ⟨6, rfl, by decide, by decide⟩
    · exact ⟨5, rfl, by decide, by decide⟩
  subst hd
  have em : (1 : Int) + ((m : Int) - 1) = (m : Int) := by omega
  obtain ⟨d, hd, h3, e3⟩ := d_any (ds := [.int 0, .int 0, .int 1, .int 2]) (by simp) (by simp) h2
  obtain ⟨a, hd, ha2, ha4⟩ : ∃ a : Nat, d = .int ((a : Int) - 2) ∧ 2 ≤ a ∧ a ≤ 4 := by
    simp only [List.mem_cons, List.not_mem_nil, or_false] at hd
    rcases hd with rfl | rfl | rfl | rfl
    · exact ⟨2, rfl, by decide, by decide⟩
    · exact ⟨2, rfl, by decide, by decide⟩
    · exact ⟨3, rfl, by decide, by decide⟩
    · exact ⟨4, rfl, by decide, by decide⟩
  subst hd
  have ea : (2 : Int) + ((a : Int) - 2) = (a : Int) := by omega
  obtain ⟨ls, h4, l1, l2, e4⟩ := d_names (m := a) (by omega) ha4 h3
  obtain ⟨b, h5, e5, b1, b2⟩ := d_draw (n := 3) (by decide) (by decide) h4
  obtain ⟨c, hc⟩ : ∃ c : Nat, 1 + b = (c : Int) := ⟨(1 + b).toNat, by omega⟩
  obtain ⟨ks, h6, k1, k2, e6⟩ := d_names (m := c) (by omega) (by omega) h5
  obtain ⟨B, hB, hB2⟩ : ∃ B : Int, (10 : Int) ^ 40 = B ∧ 2 ≤ B := ⟨_, rfl, by decide⟩
  obtain ⟨d, hd, h7, e7⟩ := d_any (ds := [.int 1, .int 2, .int 3, .int m, .int B]) (by simp) (by simp) h6
  obtain ⟨top, hd, ht⟩ : ∃ top : Int, d = .int top ∧ (2 ≤ top ∨ top = 1) := by
    simp only [List.mem_cons, List.not_mem_nil, or_false] at hd
    rcases hd with rfl | rfl | rfl | rfl | rfl
    · exact ⟨1, rfl, by decide⟩
    · exact ⟨2, rfl, by decide⟩
    · exact ⟨3, rfl, by decide⟩
    · exact ⟨m, rfl, by omega⟩
    · exact ⟨B, rfl, .inl hB2⟩
  subst hd
  obtain ⟨mv, an, q8, q9, h8, g1, g2, g3, g4, e8⟩ := box_loop (way := way) (m := m) (top := top) (ls := ls) (ks := ks) ⟨a1, a2⟩ hm6 ht (by omega) (by omega) h7
  refine ⟨⟨ls, ks, mv, an⟩, h8, ⟨l1, k1, by show 2 ≤ ls.length; omega, by show ls.length ≤ 9; omega, by show 1 ≤ ks.length; omega, by show ks.length ≤ 9; omega, by show 1 ≤ mv.length; omega, by show mv.length ≤ 9; omega, by rw [g1]; exact g3, by show an.length = mv.length; omega, g4⟩, ?_⟩
  have hp : ∀ s, (fBin (f2 (fC (.val (.int 10))) (fC (.val (.int 40)))) gPowI) s = some (.val (.int B), s) := fun s => by rw [← hB]; simp
  have hrm : rOk (m : Int) = true := rOk_nat (by omega)
  have z0 : (0 : Nat) ≤ sizeLine := Nat.zero_le _
  have z2 : 2 ≤ sizeLine := by omega
  have z4 : 4 ≤ sizeLine := by omega
  have z5 : 5 ≤ sizeLine := by omega
  have z8 : 8 ≤ sizeLine := by omega
  have e8' : sFor (.nm 8) L0__law_box (rangeD 0 m) ⟨[some .fd, some (.val (.int way)), some (.val (.int m)), some (.val (tS ls)), some (.val (tS ks)), some (.ownL []), some (.ownL []), some (.val (.int top)), none, none, none, none], h7⟩ = _ := e8
  clear hB
  simp only [D__law_box, B__law_box]
  generalize fBin (f2 (fC (.val (.int 10))) (fC (.val (.int 40)))) gPowI = pe at hp
  simp [e1, z8, e2, em, z2, z4, e3, ea, e4, e5, hc, e6, z5, hp, e7, hrm, e8']
end K8

set_option Elab.async false
set_option linter.all false
set_option maxRecDepth 100000
set_option maxHeartbeats 2000000
/-! K9f: the things that the law asks about. -/
namespace K8
open PySem PySem.Spec PyProof.Rows L2 PD
def Th1 : Sf := (sPar (fCall D__law_way (aCons (fVar 0) (aCons (fVar 1) (aCons (fC (.val (.int 4))) aNil)))) (fCall D__law_way (aCons (fVar 0) (aCons (fVar 1) (aCons (fC (.val (.int 12))) aNil)))) 4 5)
def Th2 : Sf := (sAsg (fLst (aCons (fVar 3) (aCons (fTup (aCons (fVar 4) (aCons (fVar 5) aNil))) (aCons (fTup (aCons (fVar 4) (aCons (fCut (fBin (f2n 5 (fC (.val (.int 12)))) gMul) oNone (oSome (fBin (f2n 2 (fC (.val (.int 1)))) gAdd))) aNil))) (aCons (fTup (aCons (fTup aNil) (aCons (fVar 5) aNil))) (aCons (fTup (aCons (fVar 5) (aCons (fVar 4) aNil))) (aCons (fTup (aCons (fBin (f2n 4 (fC (.val (.int 9)))) gMul) (aCons (fBin (f2n 5 (fC (.val (.int 5)))) gMul) aNil))) aNil))))))) (.nm 6))
def ThI1 : Sf := (sAsg (fVar 3) (.tp [(.nm 4), (.nm 5)]))
def ThI2 : Sf := (sAsg (fBin (f2n 6 (fLst (aCons (fTup (aCons (fVar 4) (aCons (fCutN 5 (oSome (fC (.val (.int 1)))) oNone) aNil))) (aCons (fTup (aCons (fVar 4) (aCons (fCutN 5 oNone (oSome (fNeg (fC (.val (.int 1)))))) aNil))) (aCons (fTup (aCons (fCutN 4 (oSome (fC (.val (.int 1)))) oNone) (aCons (fVar 5) aNil))) (aCons (fTup (aCons (fBin (f2nn 4 5) gAdd) (aCons (fVar 5) aNil))) aNil)))))) gAdd) (.nm 6))
def ThI3 : Sf := (sExpr (fApp 6 (fTup (aCons (fBin (f2n 4 (fCutN 5 oNone (oSome (fC (.val (.int 1)))))) gAdd) (aCons (fCutN 5 (oSome (fC (.val (.int 1)))) oNone) aNil)))))
def ThI4 : Sf := (sAsg (fBin (f2n 6 (fLst (aCons (fTup (aCons (fVar 4) (aCons (fBin (f2e (fCutN 5 oNone (oSome (fC (.val (.int 1))))) 5) gAdd) aNil))) (aCons (fTup (aCons (fVar 4) (aCons (fBin (f2n 5 (fCutN 5 (oSome (fNeg (fC (.val (.int 1))))) oNone)) gAdd) aNil))) (aCons (fTup (aCons (fBin (f2e (fTup (aCons (fBin (f2 (fBin (f2n 1 (fC (.val (.int 0)))) gSub) (fNeg (fC (.val (.int 1))))) gSub) aNil)) 4) gAdd) (aCons (fVar 5) aNil))) aNil))))) gAdd) (.nm 6))
def ThI5 : Sf := (sAsg (fBin (f2n 6 (fLst (aCons (fTup (aCons (fVar 4) (aCons (fBin (f2e (fBin (f2 (fTup (aCons (fBin (f2 (fBin (f2n 1 (fC (.val (.int 0)))) gSub) (fC (.val (.int 0)))) gSub) aNil)) (fC (.val (.int 30)))) gMul) 5) gAdd) aNil))) (aCons (fTup (aCons (fVar 5) (aCons (fVar 4) aNil))) aNil)))) gAdd) (.nm 6))
def ThR1 : Sf := (sAsg (fCall D__law_draw (aCons (fVar 0) (aCons (fBin (f2 (fUn (fPeek 5) gLen) (fC (.val (.int 1)))) gAdd) aNil))) (.nm 7))
def ThR2 : Sf := (sAsg (fCall D__law_any (aCons (fVar 0) (aCons (fLst (aCons (fC (.val .none)) (aCons (fC (.val (.str ""))) (aCons (fC (.val (.int 0))) (aCons (fC (.val (.bool true))) (aCons (fC (.val (.str "UP"))) (aCons (fTup (aCons (fBin (f2 (fBin (f2n 1 (fC (.val (.int 0)))) gSub) (fC (.val (.int 0)))) gSub) aNil)) (aCons (fBin (f2 (fBin (f2 (fBin (f2n 1 (fC (.val (.int 0)))) gSub) (fC (.val (.int 0)))) gSub) (fC (.val (.str "q")))) gAdd) (aCons (fLst (aCons (fBin (f2 (fBin (f2n 1 (fC (.val (.int 0)))) gSub) (fC (.val (.int 0)))) gSub) aNil)) (aCons (fNeg (fC (.val (.int 1)))) aNil)))))))))) aNil))) (.nm 8))
def ThR3 : Sf := (sAsg (fBin (f2 (fBin (f2 (fCutN 5 oNone (oSome (fVar 7))) (fTup (aCons (fVar 8) aNil))) gAdd) (fCutN 5 (oSome (fVar 7)) oNone)) gAdd) (.nm 9))
def ThR4 : Sf := (sAsg (fBin (f2n 6 (fLst (aCons (fTup (aCons (fVar 4) (aCons (fVar 9) aNil))) (aCons (fTup (aCons (fVar 9) (aCons (fVar 5) aNil))) (aCons (fTup (aCons (fVar 4) (aCons (fUn (fPeek 5) gList) aNil))) (aCons (fTup (aCons (fUn (fPeek 4) gList) (aCons (fVar 5) aNil))) (aCons (fLst (aCons (fVar 4) (aCons (fVar 5) aNil))) aNil))))))) gAdd) (.nm 6))
def ThR5 : Sf := (sRet (fBin (f2n 6 (fLst (aCons (fTup (aCons (fVar 4) (aCons (fVar 5) (aCons (fTup aNil) aNil)))) (aCons (fTup (aCons (fVar 4) aNil)) (aCons (fTup aNil) (aCons (fC (.val .none)) (aCons (fVar 5) (aCons (fC (.val (.int 0))) (aCons (fC (.val (.str "ab"))) (aCons (fTup (aCons (fVar 4) (aCons (fC (.val .none)) aNil))) (aCons (fTup (aCons (fC (.val (.str ""))) (aCons (fVar 5) aNil))) (aCons (fTup (aCons (fVar 4) (aCons (fBin (f2 (fBin (f2n 1 (fC (.val (.int 0)))) gSub) (fC (.val (.int 0)))) gSub) aNil))) aNil)))))))))))) gAdd))
theorem things_eq : B__law_things = sSeq Th1 (sSeq Th2 (sSeq (sIf (fB (fUn (fPeek 3) (gIsN true))) (sSeq ThI1 (sSeq ThI2 (sSeq ThI3 (sSeq ThI4 ThI5)))) sNil) (sSeq ThR1 (sSeq ThR2 (sSeq ThR3 (sSeq ThR4 ThR5)))))) := rfl
/-- items of a row -/
def RowE (n : Nat) (xs : List PyData) : Prop := xs.length ≤ n ∧ ∀ e ∈ xs, SeqAt.shaped e = true
theorem RowE.row {n : Nat} {xs : List PyData} (h : RowE n xs) (hn : n ≤ 10000) : RowOk (.tuple xs) := fun ys e => by
  cases e
  exact ⟨Nat.le_trans h.1 hn, h.2⟩
theorem RowE.app {n m : Nat} {xs ys : List PyData} (h : RowE n xs) (g : RowE m ys) : RowE (n + m) (xs ++ ys) := ⟨by rw [List.length_append]; have := h.1; have := g.1; omega, fun e he => by
  rcases List.mem_append.mp he with z | z
  · exact h.2 e z
  · exact g.2 e z⟩
theorem RowE.take {n : Nat} {xs : List PyData} (h : RowE n xs) (m : Nat) : RowE n (xs.take m) := ⟨by rw [List.length_take]; have := h.1; omega, fun e he => h.2 e (List.mem_of_mem_take he)⟩
theorem RowE.drop {n : Nat} {xs : List PyData} (h : RowE n xs) (m : Nat) : RowE n (xs.drop m) := ⟨by rw [List.length_drop]; have := h.1; omega, fun e he => h.2 e (List.mem_of_mem_drop he)⟩
theorem RowE.tail {n : Nat} {xs : List PyData} (h : RowE n xs) : RowE n xs.tail := by
  rw [← List.drop_one]
  exact h.drop 1
theorem RowE.front {n : Nat} {xs : List PyData} (h : RowE n xs) : RowE n xs.dropLast := by
  rw [List.dropLast_eq_take]
  exact h.take _
theorem RowE.rep {n : Nat} {xs : List PyData} (h : RowE n xs) : ∀ m : Nat, RowE (m * n) (List.replicate m xs).flatten
  | 0 => ⟨Nat.zero_le _, fun _ h => (by cases h)⟩
  | m + 1 => by
    rw [List.replicate_succ, List.flatten_cons, Nat.succ_mul, Nat.add_comm]
    exact h.app (RowE.rep h m)
theorem RowE.one {d : PyData} (h : SeqAt.shaped d = true) : RowE 1 [d] := ⟨Nat.le_refl _, fun e he => by rw [List.mem_singleton.mp he]; exact h⟩
theorem RowE.nil : RowE 0 [] := ⟨Nat.le_refl _, fun _ h => (by cases h)⟩
theorem RowE.strs {n : Nat} {a : List Str} (h : ∀ l ∈ a, okS l = true) (hl : a.length ≤ n) : RowE n (a.map .str) := ⟨by simpa using hl, fun e he => by
  obtain ⟨l, hl, rfl⟩ := List.mem_map.mp he
  exact shaped_str (h l hl)⟩
theorem row_str (x : Str) : RowOk (.str x) := fun _ e => (by cases e)
theorem row_none : RowOk .none := fun _ e => (by cases e)
theorem row_list (xs : List PyData) : RowOk (.list xs) := fun _ e => (by cases e)
theorem thing_pair {x y : PyData} (hx : RowOk x) (hy : RowOk y) : ThingOk (.tuple [x, y]) := fun a b e => by
  cases e
  exact ⟨hx, hy⟩
theorem thing_none : ThingOk .none := fun _ _ e => (by cases e)
theorem thing_int (i : Int) : ThingOk (.int i) := fun _ _ e => (by cases e)
theorem thing_str (i : Str) : ThingOk (.str i) := fun _ _ e => (by cases e)
theorem thing_list (i : List PyData) : ThingOk (.list i) := fun _ _ e => (by cases e)
theorem thing_0 : ThingOk (.tuple []) := fun _ _ e => (by cases e)
theorem thing_1 (x : PyData) : ThingOk (.tuple [x]) := fun _ _ e => (by cases e)
theorem thing_3 (x y z : PyData) : ThingOk (.tuple [x, y, z]) := fun _ _ e => (by cases e)
/-- a row of texts alone, as a thing -/
theorem thing_strs (a : List Str) : ThingOk (.tuple (a.map .str)) := fun x y e => by
  match a, e with
  | [l, m], e => cases e; exact ⟨row_str l, row_str m⟩
section
variable {M : Mach} {fs : FS}
theorem okS_ls (h : M.Ok) {a : List Str} (ha : ∀ l ∈ a, l ∈ M.ls) : ∀ l ∈ a, okS l = true := fun l hl => (h.ln.all l (ha l hl)).ok
theorem d_way (h : M.Ok) (n : Nat) (hn : n ≤ 100) (fs : FS) : ∃ (a : List Str) (fs' : FS), (∀ l ∈ a, l ∈ M.ls) ∧ a.length ≤ n ∧ D__law_way [.fd, .val (mD M), .val (.int n)] fs = some (.val (tS a), fs') := by
  have hz := sizeLine_eq
  have h2 := h.l2
  have h9 := h.l9
  obtain ⟨k, f1, e1, a1, a2⟩ := d_draw (n := (n : Int) + 1) (by omega) (by omega) fs
  obtain ⟨m, rfl⟩ : ∃ m : Nat, k = (m : Int) := ⟨k.toNat, by omega⟩
  have hr : rOk (m : Int) = true := rOk_nat (by omega)
  obtain ⟨ds, st, e2, ⟨f2', rfl⟩, p⟩ := lc_turnR (vs := [3]) (t := .nm 3) (fe := Ce0__law_way) (fun n : Nat => .int (n : Int)) (fun st => ∃ fs', st = ⟨[some .fd, some (.val (mD M)), some (.val (.int n)), none], fs'⟩) (fun _ d => ∃ l ∈ M.ls, d = .str l) (List.range m)
    ⟨[some .fd, some (.val (mD M)), some (.val (.int n)), none], f1⟩ (by simp; omega) (fun x hx st hst => by
      obtain ⟨fs', rfl⟩ := hst
      obtain ⟨d, hd, f3, e3⟩ := d_anyT (ds := M.ls.map .str) (fun z => by have e : M.ls = [] := (by simpa using z); rw [e] at h2; simp at h2) (by simp; omega) fs'
      obtain ⟨l, hl, rfl⟩ := List.mem_map.mp hd
      exact ⟨.str l, _, by simp [Ce0__law_way, e3], ⟨l, hl, rfl⟩, f3, rfl⟩) ⟨f1, rfl⟩
  rw [← lN_map, ← rangeD_lN] at e2
  have : ∀ {xs : List Nat} {ds : List PyData}, Paired (fun _ d => ∃ l ∈ M.ls, d = .str l) xs ds → ∃ a : List Str, ds = a.map .str ∧ a.length = xs.length ∧ ∀ l ∈ a, l ∈ M.ls := by
    intro xs ds p
    induction p with
    | nil => exact ⟨[], rfl, rfl, fun _ h => (by cases h)⟩
    | cons h1 r ih =>
      obtain ⟨l, hl, rfl⟩ := h1
      obtain ⟨a, e1, e2, e3⟩ := ih
      refine ⟨l :: a, by rw [e1]; rfl, by simp [e2], fun x hx => ?_⟩
      rcases List.mem_cons.mp hx with rfl | hx
      · exact hl
      · exact e3 x hx
  obtain ⟨a, rfl, b1, b2⟩ := this p
  rw [List.length_range] at b1
  refine ⟨a, f2', b2, by omega, ?_⟩
  simp [D__law_way, B__law_way, e1, hr, plainAt, e2]
end
end K8

set_option Elab.async false
set_option linter.all false
set_option maxRecDepth 100000
set_option maxHeartbeats 2000000
/-! K9g: the things, stage by stage. -/
namespace K8
open PySem PySem.Spec PyProof.Rows L2 PD
def ThingsOk (ds : List PyData) : Prop := ∀ d ∈ ds, ThingOk d
theorem ThingsOk.app {a b : List PyData} (h : ThingsOk a) (g : ThingsOk b) : ThingsOk (a ++ b) := fun d hd => by
  rcases List.mem_append.mp hd with z | z
  · exact h d z
  · exact g d z
theorem ThingsOk.nil : ThingsOk [] := fun _ h => (by cases h)
theorem ThingsOk.cons {d : PyData} {b : List PyData} (h : ThingOk d) (g : ThingsOk b) : ThingsOk (d :: b) := fun e he => by
  rcases List.mem_cons.mp he with rfl | z
  · exact h
  · exact g e z
section
variable {M : Mach} {fs : FS}
abbrev StT (M : Mach) (n : Nat) (wk : PyData) (A W F : List PyData) (q7 q8 q9 : Option Pl) (fs : FS) : DS := ⟨[some .fd, some (.val (mD M)), some (.val (.int n)), some (.val wk), some (.val (.tuple A)), some (.val (.tuple W)), some (.ownL F), q7, q8, q9], fs⟩
theorem th2 {n : Nat} {wk : PyData} {A W : List PyData} (hA : RowE 100 A) (hW : RowE 100 W) (hwk : ThingOk wk) (fs : FS) : ∃ F, Th2 ⟨[some .fd, some (.val (mD M)), some (.val (.int n)), some (.val wk), some (.val (.tuple A)), some (.val (.tuple W)), none, none, none, none], fs⟩ = some (.nx (StT M n wk A W F none none none fs)) ∧ ThingsOk F ∧ F.length = 6 := by
  have hz := sizeLine_eq
  have a1 := hA.1
  have w1 := hW.1
  have a2 : A.length ≤ 1000 := by omega
  have w2 : W.length ≤ 1000 := by omega
  have hcut : ∀ xs : List PyData, cutD xs none (some ((n : Int) + 1)) = xs.take (n + 1) := fun xs => cutD_to xs (n + 1)
  refine ⟨[wk, .tuple [.tuple A, .tuple W], .tuple [.tuple A, .tuple ((List.replicate 12 W).flatten.take (n + 1))], .tuple [.tuple [], .tuple W], .tuple [.tuple W, .tuple A], .tuple [.tuple (List.replicate 9 A).flatten, .tuple (List.replicate 5 W).flatten]], ?_, ?_, rfl⟩
  · have r12 : (12 : Int).toNat = 12 := rfl
    have r9 : (9 : Int).toNat = 9 := rfl
    have r5 : (5 : Int).toNat = 5 := rfl
    simp [Th2, sizeLine_eq, a2, w2, hcut, -List.reduceReplicate, r12, r9, r5]
  · exact .cons hwk (.cons (thing_pair (hA.row (by omega)) (hW.row (by omega))) (.cons (thing_pair (hA.row (by omega)) (((hW.rep 12).take _).row (by omega))) (.cons (thing_pair (RowE.nil.row (by omega)) (hW.row (by omega))) (.cons (thing_pair (hW.row (by omega)) (hA.row (by omega))) (.cons (thing_pair ((hA.rep 9).row (by omega)) ((hW.rep 5).row (by omega))) .nil)))))
theorem thI2 {n : Nat} {wk : PyData} {A W F : List PyData} (hA : RowE 100 A) (hW : RowE 100 W) (hF : ThingsOk F) (hl : F.length ≤ 100) (q7 q8 q9 : Option Pl) (fs : FS) : ∃ F', ThI2 (StT M n wk A W F q7 q8 q9 fs) = some (.nx (StT M n wk A W F' q7 q8 q9 fs)) ∧ ThingsOk F' ∧ F'.length = F.length + 4 := by
  have a1 := hA.1
  have w1 := hW.1
  have s1 : A.length + W.length ≤ 16777216 := by omega
  have s2 : F.length + 4 ≤ 16777216 := by omega
  refine ⟨F ++ [.tuple [.tuple A, .tuple W.tail], .tuple [.tuple A, .tuple W.dropLast], .tuple [.tuple A.tail, .tuple W], .tuple [.tuple (A ++ W), .tuple W]], ?_, hF.app ?_, by simp⟩
  · simp [ThI2, sizeLine_eq, s1, s2, cutD_front]
  · exact .cons (thing_pair (hA.row (by omega)) (hW.tail.row (by omega))) (.cons (thing_pair (hA.row (by omega)) (hW.front.row (by omega))) (.cons (thing_pair (hA.tail.row (by omega)) (hW.row (by omega))) (.cons (thing_pair ((hA.app hW).row (by omega)) (hW.row (by omega))) .nil)))
theorem thI3 {n : Nat} {wk : PyData} {A W F : List PyData} (hA : RowE 100 A) (hW : RowE 100 W) (hF : ThingsOk F) (hl : F.length ≤ 100) (q7 q8 q9 : Option Pl) (fs : FS) : ∃ F', ThI3 (StT M n wk A W F q7 q8 q9 fs) = some (.nx (StT M n wk A W F' q7 q8 q9 fs)) ∧ ThingsOk F' ∧ F'.length = F.length + 1 := by
  have a1 := hA.1
  have w1 := hW.1
  have s1 : A.length + min 1 W.length ≤ 16777216 := by omega
  have s2 : F.length < 16777216 := by omega
  refine ⟨F ++ [.tuple [.tuple (A ++ W.take 1), .tuple W.tail]], ?_, hF.app ?_, by simp⟩
  · simp [ThI3, sizeLine_eq, s1, s2]
  · exact .cons (thing_pair ((hA.app (hW.take 1)).row (by omega)) (hW.tail.row (by omega))) .nil
theorem thI4 (h : M.Ok) {n : Nat} {wk : PyData} {A W F : List PyData} (hA : RowE 100 A) (hW : RowE 100 W) (hF : ThingsOk F) (hl : F.length ≤ 100) (q7 q8 q9 : Option Pl) (fs : FS) : ∃ F', ThI4 (StT M n wk A W F q7 q8 q9 fs) = some (.nx (StT M n wk A W F' q7 q8 q9 fs)) ∧ ThingsOk F' ∧ F'.length = F.length + 3 := by
  have a1 := hA.1
  have w1 := hW.1
  have h2 := h.l2
  obtain ⟨l, hl1⟩ : ∃ l, M.ls.getLast? = some l := by
    cases e : M.ls.getLast? with
    | some l => exact ⟨l, rfl⟩
    | none => rw [List.getLast?_eq_none_iff] at e; rw [e] at h2; simp at h2
  have hlm : l ∈ M.ls := List.mem_of_getLast? hl1
  have hls := shaped_str (h.ln.all l hlm).ok
  have s1 : min 1 W.length + W.length ≤ 16777216 := by omega
  have s2 : F.length + 3 ≤ 16777216 := by omega
  have s3 : W.length + (W.length - (W.length - 1)) ≤ 16777216 := by omega
  have s4 : 1 + A.length ≤ 16777216 := by omega
  refine ⟨F ++ [.tuple [.tuple A, .tuple (W.take 1 ++ W)], .tuple [.tuple A, .tuple (W ++ W.drop (W.length - 1))], .tuple [.tuple (.str l :: A), .tuple W]], ?_, hF.app ?_, by simp⟩
  · simp [ThI4, sizeLine_eq, s1, s2, s3, s4, cutD_last, hl1]
  · exact .cons (thing_pair (hA.row (by omega)) (((hW.take 1).app hW).row (by omega))) (.cons (thing_pair (hA.row (by omega)) ((hW.app (hW.drop _)).row (by omega))) (.cons (thing_pair (((RowE.one hls).app hA).row (by omega)) (hW.row (by omega))) .nil))
theorem first_letter (h : M.Ok) : ∃ l r, M.ls = l :: r := by
  have h2 := h.l2
  cases e : M.ls with
  | nil => rw [e] at h2; simp at h2
  | cons l r => exact ⟨l, r, rfl⟩
theorem thI5 (h : M.Ok) {n : Nat} {wk : PyData} {A W F : List PyData} (hA : RowE 100 A) (hW : RowE 100 W) (hF : ThingsOk F) (hl : F.length ≤ 100) (q7 q8 q9 : Option Pl) (fs : FS) : ∃ F', ThI5 (StT M n wk A W F q7 q8 q9 fs) = some (.nx (StT M n wk A W F' q7 q8 q9 fs)) ∧ ThingsOk F' ∧ F'.length = F.length + 2 := by
  have a1 := hA.1
  have w1 := hW.1
  obtain ⟨l, r, hlr⟩ := first_letter h
  have hl1 : M.ls[0]? = some l := by rw [hlr]; rfl
  have hls := shaped_str (h.ln.all l (List.mem_of_getElem? hl1)).ok
  obtain ⟨R, hR⟩ : ∃ R, (List.replicate 30 [PyData.str l]).flatten = R := ⟨_, rfl⟩
  have hRr : RowE 30 R := by rw [← hR]; exact (RowE.one hls).rep 30
  have r1 := hRr.1
  have s1 : R.length + W.length ≤ 16777216 := by omega
  have s2 : F.length + 2 ≤ 16777216 := by omega
  have r30 : (30 : Int).toNat = 30 := rfl
  refine ⟨F ++ [.tuple [.tuple A, .tuple (R ++ W)], .tuple [.tuple W, .tuple A]], ?_, hF.app ?_, by simp⟩
  · have hm : gMul (.val (.tuple [.str l])) (.val (.int 30)) = some (.val (.tuple R)) := by rw [gMul_ti, if_pos ⟨by decide, by decide, by simp⟩, r30, hR]
    simp [ThI5, sizeLine_eq, s1, s2, hl1, hm, -gMul_ti]
  · exact .cons (thing_pair (hA.row (by omega)) ((hRr.app hW).row (by omega))) (.cons (thing_pair (hW.row (by omega)) (hA.row (by omega))) .nil)
theorem okS_q {l : Str} (h : okS l = true) : okS (l ++ ("q" : Str)) = true := by
  show (l ++ ("q" : Str)).cps.all (· < 0x110000) = true
  have e : (l ++ ("q" : Str)).cps = l.cps ++ ("q" : Str).cps := rfl
  have h' : l.cps.all (· < 0x110000) = true := h
  rw [e, Array.all_append, h']
  decide +kernel
theorem thR2 (h : M.Ok) {n : Nat} {wk : PyData} {A W F : List PyData} (q7 q8 q9 : Option Pl) (fs : FS) : ∃ (odd : PyData) (fs' : FS), SeqAt.shaped odd = true ∧ ThR2 (StT M n wk A W F q7 q8 q9 fs) = some (.nx (StT M n wk A W F q7 (some (.val odd)) q9 fs')) := by
  obtain ⟨l, r, hlr⟩ := first_letter h
  have hl1 : M.ls[0]? = some l := by rw [hlr]; rfl
  have hln := h.ln.all l (List.mem_of_getElem? hl1)
  have hls := shaped_str hln.ok
  have hl8 : l.length + ("q" : Str).length ≤ 16777216 := by
    have := hln.l8
    have : ("q" : Str).length = 1 := by decide +kernel
    omega
  obtain ⟨d, hd, fs', e⟩ := d_any (ds := [.none, .str "", .int 0, .bool true, .str "UP", .tuple [.str l], .str (l ++ ("q" : Str)), .list [.str l], .int (-1)]) (by simp) (by simp) fs
  refine ⟨d, fs', ?_, ?_⟩
  · simp only [List.mem_cons, List.not_mem_nil, or_false] at hd
    rcases hd with rfl | rfl | rfl | rfl | rfl | rfl | rfl | rfl | rfl
    · rfl
    · exact shaped_str (by decide +kernel)
    · rfl
    · rfl
    · exact shaped_str (by decide +kernel)
    · exact shaped_tupleI fun e he => by rw [List.mem_singleton.mp he]; exact ⟨lay_str hln.ok, Nat.zero_le _⟩
    · exact shaped_str (okS_q hln.ok)
    · exact shaped_listI fun e he => by rw [List.mem_singleton.mp he]; exact ⟨lay_str hln.ok, Nat.zero_le _⟩
    · rfl
  · simp [ThR2, sizeLine_eq, hl1, hl8, e]
theorem thR4 {n : Nat} {wk : PyData} {A W F L : List PyData} (hA : RowE 100 A) (hW : RowE 100 W) (hL : RowE 201 L) (hF : ThingsOk F) (hl : F.length ≤ 100) (q7 q8 : Option Pl) (fs : FS) : ∃ F', ThR4 (StT M n wk A W F q7 q8 (some (.val (.tuple L))) fs) = some (.nx (StT M n wk A W F' q7 q8 (some (.val (.tuple L))) fs)) ∧ ThingsOk F' ∧ F'.length = F.length + 5 := by
  have s2 : F.length + 5 ≤ 16777216 := by omega
  refine ⟨F ++ [.tuple [.tuple A, .tuple L], .tuple [.tuple L, .tuple W], .tuple [.tuple A, .list W], .tuple [.list A, .tuple W], .list [.tuple A, .tuple W]], ?_, hF.app ?_, by simp⟩
  · simp [ThR4, sizeLine_eq, s2]
  · exact .cons (thing_pair (hA.row (by omega)) (hL.row (by omega))) (.cons (thing_pair (hL.row (by omega)) (hW.row (by omega))) (.cons (thing_pair (hA.row (by omega)) (row_list _)) (.cons (thing_pair (row_list _) (hW.row (by omega))) (.cons (thing_list _) .nil))))
theorem thR5 (h : M.Ok) {n : Nat} {wk : PyData} {A F : List PyData} {w : List Str} (hA : RowE 100 A) (hW : RowE 100 (w.map .str)) (hF : ThingsOk F) (hl : F.length ≤ 100) (q7 q8 q9 : Option Pl) (fs : FS) : ∃ F', ThR5 (StT M n wk A (w.map .str) F q7 q8 q9 fs) = some (.rt (.ownL F') (StT M n wk A (w.map .str) F q7 q8 q9 fs)) ∧ ThingsOk F' ∧ F'.length = F.length + 10 := by
  have s2 : F.length + 10 ≤ 16777216 := by omega
  obtain ⟨l, r, hlr⟩ := first_letter h
  have hl1 : M.ls[0]? = some l := by rw [hlr]; rfl
  refine ⟨F ++ [.tuple [.tuple A, .tuple (w.map .str), .tuple []], .tuple [.tuple A], .tuple [], .none, .tuple (w.map .str), .int 0, .str "ab", .tuple [.tuple A, .none], .tuple [.str "", .tuple (w.map .str)], .tuple [.tuple A, .str l]], ?_, hF.app ?_, by simp⟩
  · simp [ThR5, sizeLine_eq, s2, hl1]
  · exact .cons (thing_3 _ _ _) (.cons (thing_1 _) (.cons thing_0 (.cons thing_none (.cons (thing_strs w) (.cons (thing_int _) (.cons (thing_str _) (.cons (thing_pair (hA.row (by omega)) row_none) (.cons (thing_pair (row_str _) (hW.row (by omega))) (.cons (thing_pair (hA.row (by omega)) (row_str _)) .nil)))))))))
/-- a walk, or none, as the law hands it on -/
def WalkIn (M : Mach) (wk : PyData) : Prop := wk = .none ∨ ∃ a w : List Str, wk = .tuple [tS a, tS w] ∧ (∀ l ∈ a, l ∈ M.ls) ∧ (∀ l ∈ w, l ∈ M.ls) ∧ a.length ≤ 100 ∧ w.length ≤ 100
theorem d_things (h : M.Ok) {n : Nat} {wk : PyData} (hwk : WalkIn M wk) (fs : FS) : ∃ (ds : List PyData) (fs' : FS), ThingsOk ds ∧ D__law_things [.fd, .val (mD M), .val (.int n), .val wk] fs = some (.ownL ds, fs') := by
  have hwt : ThingOk wk := by
    rcases hwk with rfl | ⟨a, w, rfl, ha, hw, la, lw⟩
    · exact thing_none
    · exact thing_pair ((RowE.strs (okS_ls h ha) la).row (by omega)) ((RowE.strs (okS_ls h hw) lw).row (by omega))
  obtain ⟨a1, f1, m1, l1, e1⟩ := d_way h 4 (by omega) fs
  obtain ⟨w1, f2, m2, l2, e2⟩ := d_way h 12 (by omega) f1
  have hA1 : RowE 100 (a1.map .str) := RowE.strs (okS_ls h m1) (by omega)
  have hW1 : RowE 100 (w1.map .str) := RowE.strs (okS_ls h m2) (by omega)
  have c1 : Th1 ⟨[some .fd, some (.val (mD M)), some (.val (.int n)), some (.val wk), none, none, none, none, none, none], fs⟩ = some (.nx ⟨[some .fd, some (.val (mD M)), some (.val (.int n)), some (.val wk), some (.val (tS a1)), some (.val (tS w1)), none, none, none, none], f2⟩) := by
    have e1' : D__law_way [.fd, .val (mD M), .val (.int 4)] fs = _ := e1
    have e2' : D__law_way [.fd, .val (mD M), .val (.int 12)] f1 = _ := e2
    simp [Th1, e1', e2']
  obtain ⟨F1, c2, g2, k2⟩ := th2 (M := M) (n := n) (wk := wk) hA1 hW1 hwt f2
  -- the walk's own things
  have mid : ∃ (a w : List Str) (F : List PyData), (∀ l ∈ a, l ∈ M.ls) ∧ (∀ l ∈ w, l ∈ M.ls) ∧ a.length ≤ 100 ∧ w.length ≤ 100 ∧ ThingsOk F ∧ F.length ≤ 16 ∧ (sIf (fB (fUn (fPeek 3) (gIsN true))) (sSeq ThI1 (sSeq ThI2 (sSeq ThI3 (sSeq ThI4 ThI5)))) sNil) (StT M n wk (a1.map .str) (w1.map .str) F1 none none none f2) = some (.nx (StT M n wk (a.map .str) (w.map .str) F none none none f2)) := by
    rcases hwk with rfl | ⟨a, w, rfl, ha, hw, la, lw⟩
    · exact ⟨a1, w1, F1, m1, m2, by omega, by omega, g2, by omega, by simp [isNone]⟩
    · have hA : RowE 100 (a.map .str) := RowE.strs (okS_ls h ha) la
      have hW : RowE 100 (w.map .str) := RowE.strs (okS_ls h hw) lw
      have d1 : ThI1 (StT M n (.tuple [tS a, tS w]) (a1.map .str) (w1.map .str) F1 none none none f2) = some (.nx (StT M n (.tuple [tS a, tS w]) (a.map .str) (w.map .str) F1 none none none f2)) := by simp [ThI1]
      obtain ⟨F2, d2, g3, k3⟩ := thI2 (M := M) (n := n) (wk := .tuple [tS a, tS w]) hA hW g2 (by omega) none none none f2
      obtain ⟨F3, d3, g4, k4⟩ := thI3 (M := M) (n := n) (wk := .tuple [tS a, tS w]) hA hW g3 (by omega) none none none f2
      obtain ⟨F4, d4, g5, k5⟩ := thI4 h (n := n) (wk := .tuple [tS a, tS w]) hA hW g4 (by omega) none none none f2
      obtain ⟨F5, d5, g6, k6⟩ := thI5 h (n := n) (wk := .tuple [tS a, tS w]) hA hW g5 (by omega) none none none f2
      refine ⟨a, w, F5, ha, hw, la, lw, g6, by omega, ?_⟩
      have cc : (fB (fUn (fPeek 3) (gIsN true))) (StT M n (.tuple [tS a, tS w]) (a1.map .str) (w1.map .str) F1 none none none f2) = some (true, StT M n (.tuple [tS a, tS w]) (a1.map .str) (w1.map .str) F1 none none none f2) := by simp [isNone]
      rw [sIf_ap, cc, Option.bind_some]
      simp only [if_true]
      rw [sSeq_ap, d1]
      show (sSeq ThI2 (sSeq ThI3 (sSeq ThI4 ThI5))) _ = _
      rw [sSeq_ap, d2]
      show (sSeq ThI3 (sSeq ThI4 ThI5)) _ = _
      rw [sSeq_ap, d3]
      show (sSeq ThI4 ThI5) _ = _
      rw [sSeq_ap, d4]
      exact d5
  obtain ⟨a, w, F, ma, mw, la, lw, g3, k3, c3⟩ := mid
  have hA : RowE 100 (a.map .str) := RowE.strs (okS_ls h ma) la
  have hW : RowE 100 (w.map .str) := RowE.strs (okS_ls h mw) lw
  obtain ⟨k, f3, e3, b1, b2⟩ := d_draw (n := (w.length : Int) + 1) (by omega) (by omega) f2
  obtain ⟨m, rfl⟩ : ∃ m : Nat, k = (m : Int) := ⟨k.toNat, by omega⟩
  have c4 : ThR1 (StT M n wk (a.map .str) (w.map .str) F none none none f2) = some (.nx (StT M n wk (a.map .str) (w.map .str) F (some (.val (.int m))) none none f3)) := by simp [ThR1, e3]
  obtain ⟨odd, f4, so, c5⟩ := thR2 h (n := n) (wk := wk) (A := a.map .str) (W := w.map .str) (F := F) (some (.val (.int m))) none none f3
  have hL : RowE 201 ((w.map PyData.str).take m ++ [odd] ++ (w.map PyData.str).drop m) := by
    have h1 := ((hW.take m).app (RowE.one so)).app (hW.drop m)
    exact ⟨Nat.le_trans h1.1 (by omega), h1.2⟩
  have c6 : ThR3 (StT M n wk (a.map .str) (w.map .str) F (some (.val (.int m))) (some (.val odd)) none f4) = some (.nx (StT M n wk (a.map .str) (w.map .str) F (some (.val (.int m))) (some (.val odd)) (some (.val (.tuple ((w.map PyData.str).take m ++ [odd] ++ (w.map PyData.str).drop m)))) f4)) := by
    have t1 : cutD (w.map PyData.str) none (some (m : Int)) = (w.map PyData.str).take m := cutD_to _ _
    have t2 : cutD (w.map PyData.str) (some (m : Int)) none = (w.map PyData.str).drop m := cutD_from _ _
    have w1 := hW.1
    generalize w.map PyData.str = W at t1 t2 w1 ⊢
    have s1 : min m W.length + 1 ≤ 16777216 := by omega
    have s2 : min m W.length + 1 + (W.length - m) ≤ 16777216 := by omega
    simp [ThR3, sizeLine_eq, t1, t2, s1, s2]
  generalize (w.map PyData.str).take m ++ [odd] ++ (w.map PyData.str).drop m = L at hL c6
  obtain ⟨F2, c7, g7, k7⟩ := thR4 (M := M) (n := n) (wk := wk) hA hW hL g3 (by omega) (some (.val (.int m))) (some (.val odd)) f4
  obtain ⟨F3, c8, g8, k8⟩ := thR5 h (n := n) (wk := wk) hA hW g7 (by omega) (some (.val (.int m))) (some (.val odd)) (some (.val (.tuple L))) f4
  refine ⟨F3, f4, g8, ?_⟩
  have go : B__law_things ⟨[some .fd, some (.val (mD M)), some (.val (.int n)), some (.val wk), none, none, none, none, none, none], fs⟩ = some (.rt (.ownL F3) (StT M n wk (a.map .str) (w.map .str) F2 (some (.val (.int m))) (some (.val odd)) (some (.val (.tuple L))) f4)) := by
    rw [things_eq, sSeq_ap, c1]
    show (sSeq Th2 _) _ = _
    rw [sSeq_ap, c2]
    show (sSeq (sIf _ _ _) _) _ = _
    rw [sSeq_ap, c3]
    show (sSeq ThR1 _) _ = _
    rw [sSeq_ap, c4]
    show (sSeq ThR2 _) _ = _
    rw [sSeq_ap, c5]
    show (sSeq ThR3 _) _ = _
    rw [sSeq_ap, c6]
    show (sSeq ThR4 _) _ = _
    rw [sSeq_ap, c7]
    exact c8
  simp [D__law_things, go]
end
end K8

set_option Elab.async false
set_option linter.all false
set_option maxRecDepth 100000
set_option maxHeartbeats 2000000
/-! K9h: the long things; what the law asks of a machine. -/
namespace K8
open PySem PySem.Spec PyProof.Rows L2 PD
section
variable {M : Mach} {fs : FS}
theorem long_turn {f : Nat} (h9 : 9 ≤ f) (h40 : f ≤ 40) {A S F : List PyData} (hA : RowE 100 A) (hS : RowE 100 S) (hF : ThingsOk F) (hl : F.length ≤ 100) {x : Str} (hx : okS x = true) (fs : FS) :
    ∃ F', L0__law_long ⟨[some .fd, some (.val (mD M)), some (.val (.int f)), some (.val (.tuple A)), some (.val (.tuple S)), some (.ownL F), some (.val (.str x))], fs⟩ = some (.nx ⟨[some .fd, some (.val (mD M)), some (.val (.int f)), some (.val (.tuple A)), some (.val (.tuple S)), some (.ownL F'), some (.val (.str x))], fs⟩) ∧ ThingsOk F' ∧ F'.length = F.length + 4 := by
  have s1 := hS.1
  have hxs := shaped_str hx
  have m1 : gMul (.val (.tuple [.str x])) (.val (.int ((f : Int) + 1))) = some (.val (.tuple (List.replicate (f + 1) [PyData.str x]).flatten)) := by
    rw [gMul_ti, if_pos ⟨by omega, by omega, by simp⟩]
    rfl
  have m2 : gMul (.val (.tuple [.str x])) (.val (.int (f : Int))) = some (.val (.tuple (List.replicate f [PyData.str x]).flatten)) := by
    rw [gMul_ti, if_pos ⟨by omega, by omega, by simp⟩]
    rfl
  have m3 : gMul (.val (.tuple [.str x])) (.val (.int 9)) = some (.val (.tuple (List.replicate 9 [PyData.str x]).flatten)) := by
    rw [gMul_ti, if_pos ⟨by omega, by omega, by simp⟩]
    rfl
  have m4 : gMul (.val (.tuple S)) (.val (.int (f : Int))) = some (.val (.tuple (List.replicate f S).flatten)) := by
    rw [gMul_ti, if_pos ⟨by omega, by omega, by omega⟩]
    rfl
  have q1 : RowE 41 (List.replicate (f + 1) [PyData.str x]).flatten := ⟨Nat.le_trans ((RowE.one hxs).rep (f + 1)).1 (by omega), ((RowE.one hxs).rep (f + 1)).2⟩
  have q2 : RowE 40 (List.replicate f [PyData.str x]).flatten := ⟨Nat.le_trans ((RowE.one hxs).rep f).1 (by omega), ((RowE.one hxs).rep f).2⟩
  have q3 : RowE 9 (List.replicate 9 [PyData.str x]).flatten := ⟨Nat.le_trans ((RowE.one hxs).rep 9).1 (by omega), ((RowE.one hxs).rep 9).2⟩
  have q4 : RowE 4000 (List.replicate f S).flatten := ⟨Nat.le_trans (hS.rep f).1 (by omega), (hS.rep f).2⟩
  generalize (List.replicate (f + 1) [PyData.str x]).flatten = R1 at m1 q1
  generalize (List.replicate f [PyData.str x]).flatten = R2 at m2 q2
  generalize (List.replicate 9 [PyData.str x]).flatten = R3 at m3 q3
  generalize (List.replicate f S).flatten = R4 at m4 q4
  have ec : cutD R4 none (some ((f : Int) - 6)) = R4.take (f - 6) := by
    rw [show ((f : Int) - 6) = ((f - 6 : Nat) : Int) by omega]
    exact cutD_to _ _
  have r1 := q1.1
  have r2 := q2.1
  have r3 := q3.1
  have r4 := q4.1
  have t1 : F.length + 2 ≤ 16777216 := by omega
  have t2 : F.length + 2 + 2 ≤ 16777216 := by omega
  have t3 : min (f - 6) R4.length + R3.length ≤ 16777216 := by omega
  have t4 : S.length + R2.length ≤ 16777216 := by omega
  refine ⟨F ++ [.tuple [.tuple A, .tuple R1], .tuple [.tuple A, .tuple R2]] ++ [.tuple [.tuple A, .tuple (R4.take (f - 6) ++ R3)], .tuple [.tuple A, .tuple (S ++ R2)]], ?_, (hF.app ?_).app ?_, by simp⟩
  · simp [L0__law_long, sizeLine_eq, m1, m2, m3, m4, ec, t1, t2, t3, t4, -gMul_ti]
  · exact .cons (thing_pair (hA.row (by omega)) (q1.row (by omega))) (.cons (thing_pair (hA.row (by omega)) (q2.row (by omega))) .nil)
  · exact .cons (thing_pair (hA.row (by omega)) (((q4.take _).app q3).row (by omega))) (.cons (thing_pair (hA.row (by omega)) ((hS.app q2).row (by omega))) .nil)
theorem d_long (h : M.Ok) {f : Nat} (h9 : 9 ≤ f) (h40 : f ≤ 40) (fs : FS) : ∃ (ds : List PyData) (fs' : FS), ThingsOk ds ∧ D__law_long [.fd, .val (mD M), .val (.int f)] fs = some (.ownL ds, fs') := by
  have hl9 := h.l9
  obtain ⟨a, f1, ma, la, e1⟩ := d_way h 2 (by omega) fs
  obtain ⟨w, f2, mw, lw, e2⟩ := d_way h 2 (by omega) f1
  obtain ⟨l, r, hlr⟩ := first_letter h
  obtain ⟨d, hd, f3, e3⟩ := d_anyT (ds := M.ls.map .str) (by rw [hlr]; simp) (by simp; omega) f2
  obtain ⟨x, hx, rfl⟩ := List.mem_map.mp hd
  have hA : RowE 100 (a.map .str) := RowE.strs (okS_ls h ma) (by omega)
  have hS : RowE 100 (w.map PyData.str ++ [.str x]) := by
    have h1 : RowE (2 + 1) (w.map PyData.str ++ [.str x]) := (RowE.strs (okS_ls h mw) lw).app (RowE.one (shaped_str (okS_ls h (a := M.ls) (fun _ h => h) x hx)))
    exact ⟨Nat.le_trans h1.1 (by omega), h1.2⟩
  have e1' : D__law_way [.fd, .val (mD M), .val (.int 2)] fs = _ := e1
  have e2' : D__law_way [.fd, .val (mD M), .val (.int 2)] f1 = _ := e2
  have s1 : w.length + 1 ≤ 16777216 := by omega
  have s2 := hS.1
  generalize hSd : w.map PyData.str ++ [.str x] = S at hS s2
  have m4 : gMul (.val (.tuple S)) (.val (.int (f : Int))) = some (.val (.tuple (List.replicate f S).flatten)) := by
    rw [gMul_ti, if_pos ⟨by omega, by omega, by omega⟩]
    rfl
  have q4 : RowE 4000 (List.replicate f S).flatten := ⟨Nat.le_trans (hS.rep f).1 (by omega), (hS.rep f).2⟩
  generalize (List.replicate f S).flatten = R4 at m4 q4
  obtain ⟨s', e4, F, q6, rfl, g1, g2⟩ := sFor_inv (t := .nm 6) (f := L0__law_long) PyData.str (fun i st => ∃ (F : List PyData) (q6 : Option Pl), st = ⟨[some .fd, some (.val (mD M)), some (.val (.int f)), some (.val (.tuple (a.map .str))), some (.val (.tuple S)), some (.ownL F), q6], f3⟩ ∧ ThingsOk F ∧ F.length ≤ 1 + 4 * i) M.ls 0
    ⟨[some .fd, some (.val (mD M)), some (.val (.int f)), some (.val (.tuple (a.map .str))), some (.val (.tuple S)), some (.ownL [.tuple [.tuple (a.map .str), .tuple R4]]), none], f3⟩ (fun j y st hj hI => by
      obtain ⟨F, q6, rfl, g1, g2⟩ := hI
      have hjl := (List.getElem?_eq_some_iff.mp hj).1
      obtain ⟨F', k1, k2, k3⟩ := long_turn (M := M) h9 h40 hA hS g1 (by omega) (okS_ls h (a := M.ls) (fun _ h => h) y (List.mem_of_getElem? hj)) f3
      exact ⟨_, by simpa using k1, F', some (.val (.str y)), rfl, k2, by omega⟩) ⟨_, none, rfl, .cons (thing_pair (hA.row (by omega)) (q4.row (by omega))) .nil, by simp⟩
  refine ⟨F, f3, g1, ?_⟩
  simp [D__law_long, B__law_long, sizeLine_eq, e1', e2', e3, s1, hSd, m4, e4, -gMul_ti]
end
end K8

set_option Elab.async false
set_option linter.all false
set_option maxRecDepth 100000
set_option maxHeartbeats 2000000
/-! K9i: the walks are right. -/
namespace K8
open PySem PySem.Spec PyProof.Rows L2 PD
section
variable {M : Mach} {k : Nat} {l : Str} {fs : FS}
theorem GoodWalk.walk {n : Nat} {d : PyData} (g : GoodWalk M k n d) : walkD M k (n : Int) d = true := by
  obtain ⟨a, w, rfl, ha, hw, _, _, _, hb⟩ := g
  show (match wayOf M (tS a), wayOf M (tS w) with
    | some a, some w => walkB M k n a w
    | _, _ => false) = true
  rw [wayOf_tS ha, wayOf_tS hw]
  exact hb
theorem GoodWalk.walk1 {n : Nat} {d : PyData} (g : GoodWalk M k n d) (h1 : 1 ≤ n) : walkD M k ((n : Int) - 1) d = true := by
  obtain ⟨a, w, rfl, ha, hw, _, _, hl, hb⟩ := g
  show (match wayOf M (tS a), wayOf M (tS w) with
    | some a, some w => walkB M k ((n : Int) - 1) a w
    | _, _ => false) = true
  rw [wayOf_tS ha, wayOf_tS hw]
  show walkB M k ((n : Int) - 1) a w = true
  unfold walkB at hb ⊢
  rw [Bool.and_eq_true] at hb ⊢
  refine ⟨decide_eq_true (by omega), ?_⟩
  have h2 := hb.2
  rw [List.all_eq_true] at h2 ⊢
  intro t ht
  refine h2 t ?_
  have e1 : ((n : Int)).toNat = n := by omega
  have e2 : ((n : Int) - 1).toNat = n - 1 := by omega
  rw [e1]
  rw [e2] at ht
  have e3 : w.length - 1 - (n - 1) = (w.length - 1 - n) + 1 := by omega
  rw [e3, ← List.drop_drop] at ht
  exact List.mem_of_mem_drop ht
theorem GoodWalk.thing (h : M.Ok) {n : Nat} {d : PyData} (g : GoodWalk M k n d) (hn : n ≤ 40) : ThingOk d ∧ WalkIn M d := by
  obtain ⟨a, w, rfl, ha, hw, la, lw, hl, hb⟩ := g
  refine ⟨thing_pair ((RowE.strs (n := 100) (okS_ls h ha) (by omega)).row (by omega)) ((RowE.strs (n := 100) (okS_ls h hw) (by omega)).row (by omega)), .inr ⟨a, w, rfl, ha, hw, by omega, by omega⟩⟩
/-- what moving_walk gives -/
def Gives (M : Mach) (k n : Nat) (d : PyData) : Prop := ThingOk d ∧ WalkIn M d ∧ walkD M k (n : Int) d = due M k n ∧ (1 ≤ n → walkD M k ((n : Int) - 1) d = due M k n) ∧ isNone d = !due M k n
theorem gives_walk (h : M.Ok) (hk : M.ks[k]? = some l) (n : Nat) (hn : n ≤ 40) (fs : FS) : ∃ d, Gives M k n d ∧ D_moving_walk [.val (mD M), .val (.str l), .val (.int n)] fs = some (.val d, fs) := by
  rcases d_moving_walk h hk n (by omega) fs with ⟨h1, d, g, e⟩ | ⟨h1, e⟩
  · refine ⟨d, ⟨(g.thing h hn).1, (g.thing h hn).2, by rw [g.walk, h1], fun z => by rw [g.walk1 z, h1], ?_⟩, e⟩
    rw [h1]
    obtain ⟨a, w, rfl, _⟩ := g
    rfl
  · refine ⟨.none, ⟨thing_none, .inl rfl, by rw [h1]; rfl, fun z => by rw [h1]; rfl, by rw [h1]; rfl⟩, e⟩
theorem shaped_bool (b : Bool) : SeqAt.shaped (.bool b) = true := rfl
theorem eqv_bool (a b : Bool) : PyData.eqv (.bool a) (.bool b) = (a == b) := by cases a <;> cases b <;> rfl
theorem d_sameB (b : Bool) (fs : FS) : D__law_same [.val (.bool b), .val (.bool b)] fs = some (.val (.bool true), fs) := d_same rfl fs
theorem walks_turn (h : M.Ok) (hk : M.ks[k]? = some l) {n : Nat} {d : PyData} (hd : ThingOk d) (q4 q6 q7 : Option Pl) (fs : FS) :
    L0__law_are_walks_right ⟨[some .fd, some (.val (mD M)), some (.val (.int k)), some (.val (.int n)), q4, some (.val (.str l)), q6, q7, some (.val d)], fs⟩ = some (.nx ⟨[some .fd, some (.val (mD M)), some (.val (.int k)), some (.val (.int n)), q4, some (.val (.str l)), q6, q7, some (.val d)], fs⟩) := by
  have e1 := d_is_moving h hk (age := (n : Int)) (by omega) hd fs
  have e2 := d_is_walk h (List.getElem?_eq_some_iff.mp hk).1 (age := (n : Int)) (by omega) hd fs
  have e3 := d_sameB (walkD M k n d) fs
  simp [L0__law_are_walks_right, e1, e2, e3]
theorem sFor_keep {t : Tg} {f : Sf} (I : Option Pl → DS) (ok : PyData → Prop) : ∀ (ds : List PyData) (q : Option Pl), (∀ d ∈ ds, ok d) → (∀ d q, ok d → (t.put (.val d) (I q)).bind f = some (.nx (I (some (.val d))))) → ∃ q', sFor t f ds (I q) = some (.nx (I q'))
  | [], q, _, _ => ⟨q, rfl⟩
  | d :: ds, q, h1, h2 => by
    obtain ⟨q', e⟩ := sFor_keep I ok ds (some (.val d)) (fun x hx => h1 x (List.mem_cons_of_mem _ hx)) h2
    refine ⟨q', ?_⟩
    rw [sFor_cons]
    have := h2 d q (h1 d List.mem_cons_self)
    cases e1 : t.put (.val d) (I q) with
    | none => rw [e1] at this; cases this
    | some s1 =>
      rw [e1, Option.bind_some] at this
      rw [Option.bind_some, this, Option.bind_some]
      exact e
theorem d_are_walks_right (h : M.Ok) (hk : M.ks[k]? = some l) {n : Nat} (hn : n ≤ 40) (fs : FS) : ∃ fs', D__law_are_walks_right [.fd, .val (mD M), .val (.int k), .val (.int n), .val (.bool (due M k n))] fs = some (.val (.bool true), fs') := by
  have hkl := (List.getElem?_eq_some_iff.mp hk).1
  obtain ⟨d, ⟨g1, g2, g3, g4, g5⟩, e1⟩ := gives_walk h hk n hn fs
  have e2 := d_is_walk h hkl (age := (n : Int)) (by omega) g1 fs
  obtain ⟨ds, f1, th, e3⟩ := d_things h (n := n) g2 fs
  rw [g3] at e2
  have e4 := d_is_moving h hk (age := (n : Int)) (by omega) g1 f1
  rw [g3] at e4
  obtain ⟨q8, e5⟩ := sFor_keep (t := .nm 8) (f := L0__law_are_walks_right) (fun q => ⟨[some .fd, some (.val (mD M)), some (.val (.int k)), some (.val (.int n)), some (.val (.bool (due M k n))), some (.val (.str l)), some (.val d), some (.val d), q], f1⟩) ThingOk ds none th (fun x q hx => by
    have := walks_turn h hk (n := n) hx (some (.val (.bool (due M k n)))) (some (.val d)) (some (.val d)) f1
    simpa using this)
  have e6 := d_sameB (due M k n) f1
  have e7 : 1 ≤ n → D_is_moving [.val (mD M), .val (.str l), .val (.int ((n : Int) - 1)), .val d] f1 = some (.val (.bool (due M k n)), f1) := fun z => by
    rw [d_is_moving h hk (age := (n : Int) - 1) (by omega) g1 f1, g4 z]
  refine ⟨f1, ?_⟩
  have hz : PyData.eqv (.int (n : Int)) (.int 0) = decide (n = 0) := by
    rw [eqv_int]
    rw [Bool.eq_iff_iff, decide_eq_true_iff, decide_eq_true_iff]
    omega
  generalize due M k n = b at *
  by_cases z : n = 0
  · rw [decide_eq_true z] at hz
    cases b <;> simp [D__law_are_walks_right, B__law_are_walks_right, pick, shaped_bool, eqv_bool, hk, e1, e2, e3, e4, e5, e6, g5, hz, shaped_int]
  · have e7' := e7 (by omega)
    rw [decide_eq_false z] at hz
    cases b <;> simp [D__law_are_walks_right, B__law_are_walks_right, pick, shaped_bool, eqv_bool, hk, e1, e2, e3, e4, e5, e6, e7', g5, hz, shaped_int]
end
end K8

set_option Elab.async false
set_option linter.all false
set_option maxRecDepth 100000
set_option maxHeartbeats 2000000
/-! K9j: long things are right. -/
namespace K8
open PySem PySem.Spec PyProof.Rows L2 PD
section
variable {M : Mach} {k : Nat} {l : Str} {fs : FS}
theorem past_far (h : M.Ok) {a : Int} (ha : 8 ≤ a) : pastB (leastAge M k) a = due M k 8 := by
  unfold due
  cases e : leastAge M k with
  | none => rfl
  | some q =>
    have := leastAge_le h e
    show decide (a < (q : Int)) = decide (((8 : Nat) : Int) < (q : Int))
    rw [decide_eq_false (by omega), decide_eq_false (by omega)]
theorem long_turn2 (h : M.Ok) (hk : M.ks[k]? = some l) {f : Int} (hf : 0 ≤ f) {d : PyData} (hd : ThingOk d) (q3 q6 : Option Pl) (fs : FS) :
    L0__law_are_long_right ⟨[some .fd, some (.val (mD M)), some (.val (.int k)), q3, some (.val (.int f)), some (.val (.str l)), q6, some (.val d)], fs⟩ = some (.nx ⟨[some .fd, some (.val (mD M)), some (.val (.int k)), q3, some (.val (.int f)), some (.val (.str l)), q6, some (.val d)], fs⟩) := by
  have e1 := d_is_moving h hk (age := f) (by omega) hd fs
  have e2 := d_is_walk h (List.getElem?_eq_some_iff.mp hk).1 (age := f) (by omega) hd fs
  have e3 := d_sameB (walkD M k f d) fs
  simp [L0__law_are_long_right, e1, e2, e3]
theorem repr3 (b : Bool) : reprOk (.list [.bool b, .bool b, .bool false]) = true := by cases b <;> rfl
theorem walk_short (h : M.Ok) {B : Int} (hB : 100 ≤ B) : walkD M k B (.tuple [.tuple [], tS M.ls]) = false := by
  show (match wayOf M (tS []), wayOf M (tS M.ls) with
    | some a, some w => walkB M k B a w
    | _, _ => false) = false
  rw [wayOf_tS (fun _ h => (by cases h)), wayOf_tS (fun _ h => h)]
  show walkB M k B [] M.ls = false
  unfold walkB
  have := h.l9
  rw [decide_eq_false (by omega), Bool.false_and]
def Lr1 : Sf := (sPar (fCall D__law_any (aCons (fVar 0) (aCons (fLst (aCons (fC (.val (.int 9))) (aCons (fC (.val (.int 10))) (aCons (fC (.val (.int 12))) (aCons (fC (.val (.int 17))) (aCons (fC (.val (.int 40))) aNil)))))) aNil))) (fBin (f2e (fBin (f2n 1 (fC (.val (.int 1)))) gSub) 2) gSub) 4 5)
def Lr2 (pe : Ef) : Sf := (sAsg (fLst (aCons (fCall D_moves_past (aCons (fVar 1) (aCons (fVar 5) (aCons (fVar 4) aNil)))) (aCons (fCall D_moves_past (aCons (fVar 1) (aCons (fVar 5) (aCons (fBin (f2n 4 (fC (.val (.int 260)))) gAdd) aNil)))) (aCons (fCall D_is_moving (aCons (fVar 1) (aCons (fVar 5) (aCons pe (aCons (fTup (aCons (fTup aNil) (aCons (fBin (f2n 1 (fC (.val (.int 0)))) gSub) aNil))) aNil))))) aNil)))) (.nm 6))
def Lr3 : Sf := (sSeq (sIf (bNot (fTru (fFz (fCall D__law_same (aCons (fVar 6) (aCons (fLst (aCons (fVar 3) (aCons (fVar 3) (aCons (fC (.val (.bool false))) aNil)))) aNil)))))) (sRet (fC (.val (.bool false)))) sNil) (sSeq (sForW (wVal (fCall D__law_long (aCons (fVar 0) (aCons (fVar 1) (aCons (fVar 4) aNil))))) (.nm 7) L0__law_are_long_right) (sRet (fC (.val (.bool true))))))
theorem long_eq : B__law_are_long_right = sSeq Lr1 (sSeq (Lr2 (fBin (f2 (fC (.val (.int 10))) (fC (.val (.int 59)))) gPowI)) Lr3) := rfl
theorem lr2_ok (h : M.Ok) (hk : M.ks[k]? = some l) {pe : Ef} {B : Int} (hp : ∀ s, pe s = some (.val (.int B), s)) (hB : 100 ≤ B) {f : Nat} (hf : 8 ≤ f) (fs : FS) :
    Lr2 pe ⟨[some .fd, some (.val (mD M)), some (.val (.int k)), some (.val (.bool (due M k 8))), some (.val (.int f)), some (.val (.str l)), none, none], fs⟩ = some (.nx ⟨[some .fd, some (.val (mD M)), some (.val (.int k)), some (.val (.bool (due M k 8))), some (.val (.int f)), some (.val (.str l)), some (.ownL [.bool (due M k 8), .bool (due M k 8), .bool false]), none], fs⟩) := by
  have e1 := d_moves_past h hk (age := (f : Int)) (by omega) fs
  have e2 := d_moves_past h hk (age := (f : Int) + 260) (by omega) fs
  have ht : ThingOk (.tuple [.tuple [], tS M.ls]) := thing_pair (RowE.nil.row (by omega)) ((RowE.strs (n := 100) (okS_ls h (fun _ h => h)) (by have := h.l9; omega)).row (by omega))
  have e3 := d_is_moving h hk (age := B) (by omega) ht fs
  rw [past_far h (by omega)] at e1 e2
  rw [walk_short h hB] at e3
  simp [Lr2, sizeLine_eq, e1, e2, hp, e3]
theorem d_are_long_right (h : M.Ok) (hk : M.ks[k]? = some l) (fs : FS) : ∃ fs', D__law_are_long_right [.fd, .val (mD M), .val (.int k), .val (.bool (due M k 8))] fs = some (.val (.bool true), fs') := by
  obtain ⟨d, hd, f1, e1⟩ := d_any (ds := [.int 9, .int 10, .int 12, .int 17, .int 40]) (by simp) (by simp) fs
  obtain ⟨f, rfl, h9, h40⟩ : ∃ f : Nat, d = .int (f : Int) ∧ 9 ≤ f ∧ f ≤ 40 := by
    simp only [List.mem_cons, List.not_mem_nil, or_false] at hd
    rcases hd with rfl | rfl | rfl | rfl | rfl
    · exact ⟨9, rfl, by omega, by omega⟩
    · exact ⟨10, rfl, by omega, by omega⟩
    · exact ⟨12, rfl, by omega, by omega⟩
    · exact ⟨17, rfl, by omega, by omega⟩
    · exact ⟨40, rfl, by omega, by omega⟩
  have c1 : Lr1 ⟨[some .fd, some (.val (mD M)), some (.val (.int k)), some (.val (.bool (due M k 8))), none, none, none, none], fs⟩ = some (.nx ⟨[some .fd, some (.val (mD M)), some (.val (.int k)), some (.val (.bool (due M k 8))), some (.val (.int f)), some (.val (.str l)), none, none], f1⟩) := by
    simp [Lr1, sizeLine_eq, e1, hk]
  obtain ⟨B, hB⟩ : ∃ B : Int, (10 : Int) ^ 59 = B := ⟨_, rfl⟩
  have hB1 : 100 ≤ B := by rw [← hB]; decide +kernel
  have hp : ∀ s, (fBin (f2 (fC (.val (.int 10))) (fC (.val (.int 59)))) gPowI) s = some (.val (.int B), s) := fun s => by rw [← hB]; simp
  have hpp := long_eq
  generalize fBin (f2 (fC (.val (.int 10))) (fC (.val (.int 59)))) gPowI = pe at hp hpp
  have c2 := lr2_ok h hk hp hB1 (f := f) (by omega) f1
  obtain ⟨ds, f2', th, e3⟩ := d_long h h9 h40 f1
  have e4 := d_same (repr3 (due M k 8)) f1
  obtain ⟨q8, e5⟩ := sFor_keep (t := .nm 7) (f := L0__law_are_long_right) (fun q => ⟨[some .fd, some (.val (mD M)), some (.val (.int k)), some (.val (.bool (due M k 8))), some (.val (.int f)), some (.val (.str l)), some (.val (.list [.bool (due M k 8), .bool (due M k 8), .bool false])), q], f2'⟩) ThingOk ds none th (fun x q hx => by
    have := long_turn2 h hk (f := (f : Int)) (by omega) hx (some (.val (.bool (due M k 8)))) (some (.val (.list [.bool (due M k 8), .bool (due M k 8), .bool false]))) f2'
    simpa using this)
  have c3 : Lr3 ⟨[some .fd, some (.val (mD M)), some (.val (.int k)), some (.val (.bool (due M k 8))), some (.val (.int f)), some (.val (.str l)), some (.ownL [.bool (due M k 8), .bool (due M k 8), .bool false]), none], f1⟩ = some (.rt (.val (.bool true)) ⟨[some .fd, some (.val (mD M)), some (.val (.int k)), some (.val (.bool (due M k 8))), some (.val (.int f)), some (.val (.str l)), some (.val (.list [.bool (due M k 8), .bool (due M k 8), .bool false])), q8], f2'⟩) := by
    simp [Lr3, sizeLine_eq, e4, e3, e5]
  refine ⟨f2', ?_⟩
  have go : B__law_are_long_right ⟨[some .fd, some (.val (mD M)), some (.val (.int k)), some (.val (.bool (due M k 8))), none, none, none, none], fs⟩ = some (.rt (.val (.bool true)) ⟨[some .fd, some (.val (mD M)), some (.val (.int k)), some (.val (.bool (due M k 8))), some (.val (.int f)), some (.val (.str l)), some (.val (.list [.bool (due M k 8), .bool (due M k 8), .bool false])), q8], f2'⟩) := by
    rw [hpp, sSeq_ap, c1]
    show (sSeq (Lr2 pe) Lr3) _ = _
    rw [sSeq_ap, c2]
    exact c3
  simp [D__law_are_long_right, go]
end
end K8

set_option Elab.async false
set_option linter.all false
set_option maxRecDepth 100000
set_option maxHeartbeats 2000000
namespace K8
open PySem PySem.Spec PyProof.Rows L2 PD

def Ce0_law : Ef := (fCall D_moves_past (aCons (fVar 3) (aCons (fBin (f2e (fBin (f2n 3 (fC (.val (.int 1)))) gSub) 4) gSub) (aCons (fVar 8) aNil))))
def L0_law : Sf := (sSeq (sAsg (fCall D__law_ages (aCons (fVar 3) (aCons (fVar 4) aNil))) (.nm 5)) (sSeq (sAsg (fIf (fB (fBin (f2e (fC (.val (.bool false))) 5) (gIn false))) (fIdxL (fVar 5) (fC (.val (.bool false)))) (fC (.val .none))) (.nm 6)) (sSeq (sAsg (fLc [8] (wRange1 (fC (.val (.int 9)))) (.nm 8) bYes Ce0_law) (.nm 7)) (sSeq (sAsg (fBin (f2n 7 (fLst (aCons (fCall D_least_look_age (aCons (fVar 3) (aCons (fBin (f2e (fBin (f2n 3 (fC (.val (.int 1)))) gSub) 4) gSub) aNil))) (aCons (fCall D_least_look_age (aPick [1, 0] (aCons (fBin (f2e (fBin (f2n 3 (fC (.val (.int 1)))) gSub) 4) gSub) (aCons (fVar 3) aNil)))) aNil)))) gAdd) (.nm 7)) (sIf (bNot (fTru (fFz (fCall D__law_same (aCons (fVar 7) (aCons (fBin (f2n 5 (fLst (aCons (fVar 6) (aCons (fVar 6) aNil)))) gAdd) aNil)))))) (sRet (fC (.val (.bool false)))) sNil)))))
def L1_law : Sf := (sSeq (sAsg (fCall D__law_box (aCons (fVar 1) aNil)) (.nm 3)) (sSeq (sForW (wRange1 (fUn (fFz (fBin (f2n 3 (fC (.val (.int 1)))) gSub)) gLen)) (.nm 4) L0_law) (sSeq (sAsg (fTup (aCons (fCall D__law_draw (aCons (fVar 1) (aCons (fUn (fFz (fBin (f2n 3 (fC (.val (.int 1)))) gSub)) gLen) aNil))) (aCons (fCall D__law_any (aCons (fVar 1) (aCons (fLst (aCons (fC (.val (.int 0))) (aCons (fC (.val (.int 0))) (aCons (fC (.val (.int 1))) (aCons (fC (.val (.int 1))) (aCons (fC (.val (.int 2))) (aCons (fC (.val (.int 3))) (aCons (fC (.val (.int 5))) (aCons (fC (.val (.int 8))) aNil))))))))) aNil))) aNil))) (.tp [(.nm 4), (.nm 8)])) (sSeq (sAsg (fCall D__law_ages (aCons (fVar 3) (aCons (fVar 4) aNil))) (.nm 5)) (sSeq (sIf (bNot (fTru (fFz (fCall D__law_are_long_right (aCons (fVar 1) (aCons (fVar 3) (aCons (fVar 4) (aCons (fBin (f2n 5 (fC (.val (.int 8)))) gSub) aNil)))))))) (sRet (fC (.val (.bool false)))) sNil) (sSeq (sAsg (fBin (f2nn 5 8) gSub) (.nm 5)) (sSeq (sIf (bNot (fTru (fFz (fCall D__law_same (aCons (fCall D_moves_past (aPick [2, 1, 0] (aCons (fVar 8) (aCons (fBin (f2e (fBin (f2n 3 (fC (.val (.int 1)))) gSub) 4) gSub) (aCons (fVar 3) aNil))))) (aCons (fVar 5) aNil)))))) (sRet (fC (.val (.bool false)))) sNil) (sIf (bNot (fTru (fFz (fCall D__law_are_walks_right (aCons (fVar 1) (aCons (fVar 3) (aCons (fVar 4) (aCons (fVar 8) (aCons (fVar 5) aNil))))))))) (sRet (fC (.val (.bool false)))) sNil))))))))
def B_law : Sf := (sSeq (sForW (wRange1 (fC (.val (.int 2)))) (.nm 2) L1_law) (sRet (fC (.val (.bool true)))))
abbrev s_law : Stmt := topS 56
theorem sc_law : FnScope ["_law_script", "_law_feed_here", "_law_lap", "_law_box_here", "_law_k", "_law_due", "_law_least", "_law_told", "_law_limit"] ["_law_script"] (defScope s_law) := ⟨rfl, rfl, rfl, by decide +kernel, rfl, by decide +kernel, by decide +kernel⟩
theorem body_law {P : Program} {w : World} {K : PySem.W.Frag} {mg : Str → Option Value} {base : Heap} {f : Addr} (m_len : mg "len" = none) (m_range : mg "range" = none) (c__law_ages : Cd P w K mg base 2 "_law_ages" ["_law_box_here", "_law_k"] [] D__law_ages) (c__law_any : Cd P w K mg base 2 "_law_any" ["_law_feed_here", "_law_some"] [] D__law_any) (c__law_are_long_right : Cd P w K mg base 9 "_law_are_long_right" ["_law_feed_here", "_law_box_here", "_law_k", "_law_past"] [] D__law_are_long_right) (c__law_are_walks_right : Cd P w K mg base 9 "_law_are_walks_right" ["_law_feed_here", "_law_box_here", "_law_k", "_law_limit", "_law_past"] [] D__law_are_walks_right) (c__law_box : Cd P w K mg base 4 "_law_box" ["_law_feed_here"] [] D__law_box) (c__law_draw : Cd P w K mg base 1 "_law_draw" ["_law_feed_here", "_law_size"] [] D__law_draw) (c__law_same : Cd P w K mg base 1 "_law_same" ["_law_told", "_law_due"] [] D__law_same) (c_least_look_age : Cd P w K mg base 8 "least_look_age" ["machine", "look"] [(["look", "machine"], [1, 0])] D_least_look_age) (c_moves_past : Cd P w K mg base 8 "moves_past" ["machine", "look", "age"] [(["age", "look", "machine"], [2, 1, 0])] D_moves_past) (cdv : Value) (A : Around) (outer : List Env) (s : Shared) (H : Hp) (hr : Room 9 (A.deeper (envOfC "law" (defScope s_law) s.heap.objs.size f cdv))) (hgd : (A.deeper (envOfC "law" (defScope s_law) s.heap.objs.size f cdv)).guards = some []) (Γ : Gm) :
    PSSd (cxOf CX0 P w K mg base ["_law_script", "_law_feed_here", "_law_lap", "_law_box_here", "_law_k", "_law_due", "_law_least", "_law_told", "_law_limit"] "law" (defScope s_law) f cdv A outer s H E0).nox Γ (defBody s_law).tail B_law := by
  have hN := sc_law.nd
  have hu64 : (A.deeper (envOfC "law" (defScope s_law) s.heap.objs.size f cdv)).units + 64 < cLine := by have := hr.un; omega
  have hu65 : (A.deeper (envOfC "law" (defScope s_law) s.heap.objs.size f cdv)).units + 65 < cLine := by have := hr.un; omega
  have hu1 : (A.deeper (envOfC "law" (defScope s_law) s.heap.objs.size f cdv)).units + 1 < cLine := by have := hr.un; omega
  exact (pss_consD (ps_forD PassesOwn.never rfl (pid_range1 pd_int (by rfl) m_range) (pgd_name hN (i := 2) rfl (.inl rfl)) (pss_consD (ps_asgD (pd_cd c__law_box (hr.mono (by decide)) hgd (by rfl) (pad_cons (pd_var 1 (pv 1)) pad_nil)) (pgd_name hN (i := 3) rfl (.inr rfl))) (pss_consD (ps_forD PassesOwn.never rfl (pid_range1 (pd_len (p1_e (pd_sub hu1 (p2_ne 3 (pv 3) pd_int) (fun _ _ => rfl) (fun _ _ => rfl))) (by rfl) m_len) (by rfl) m_range) (pgd_name hN (i := 4) rfl (.inr rfl)) (pss_consD (ps_asgD (pd_cd c__law_ages (hr.mono (by decide)) hgd (by rfl) (pad_cons (pd_var 3 (pv 3)) (pad_cons (pd_var 4 (pv 4)) pad_nil))) (pgd_name hN (i := 5) rfl (.inl rfl))) (pss_consD (ps_asgD (pd_if (c_in hu65 (p2_en 5 pd_bl (pv 5))).t (pd_idxL hu65 (pd_var 5 (pv 5)) pd_bl) pd_non) (pgd_name hN (i := 6) rfl (.inl rfl))) (pss_consD (ps_setLcD (i := 7) rfl hN rfl rfl (by rfl) (own := [("_law_limit", 8)]) (pid_range1 pd_int (by rfl) m_range) (blkOk_by (by kernel_rfl)) (fun _ _ _ _ _ => (pgd_name hN (i := 8) rfl (.inl rfl))) (fun _ _ _ _ _ => ptsd_nil) (fun _ _ _ _ _ => (pd_cd c_moves_past (hr.mono (by decide)) hgd (by rfl) (pad_cons (pd_var 3 (pv 3)) (pad_cons (pd_sub hu1 (p2_en 4 (pd_sub hu1 (p2_ne 3 (pv 3) pd_int) (fun _ _ => rfl) (fun _ _ => rfl)) (pv 4)) (fun _ _ => rfl) (fun _ _ => rfl)) (pad_cons (pd_var 8 (pv 8)) pad_nil)))))) (pss_consD (ps_asgD (pd_add (p2_ne 7 (pv 7) (pd_lst (pad_cons (pd_cd c_least_look_age (hr.mono (by decide)) hgd (by rfl) (pad_cons (pd_var 3 (pv 3)) (pad_cons (pd_sub hu1 (p2_en 4 (pd_sub hu1 (p2_ne 3 (pv 3) pd_int) (fun _ _ => rfl) (fun _ _ => rfl)) (pv 4)) (fun _ _ => rfl) (fun _ _ => rfl)) pad_nil))) (pad_cons (pd_cdK (ks := ["look", "machine"]) [1, 0] c_least_look_age (List.mem_singleton.mpr rfl) (hr.mono (by decide)) hgd (by rfl) (pkd_cons (pd_sub hu1 (p2_en 4 (pd_sub hu1 (p2_ne 3 (pv 3) pd_int) (fun _ _ => rfl) (fun _ _ => rfl)) (pv 4)) (fun _ _ => rfl) (fun _ _ => rfl)) (pkd_cons (pd_var 3 (pv 3)) pkd_nil))) pad_nil))))) (pgd_name hN (i := 7) rfl (.inl rfl))) (pss_oneD (ps_ifD (ptd_not (pt_tru (p1_e (pd_cd c__law_same (hr.mono (by decide)) hgd (by rfl) (pad_cons (pd_var 7 (pv 7)) (pad_cons (pd_add (p2_ne 5 (pv 5) (pd_lst (pad_cons (pd_var 6 (pv 6)) (pad_cons (pd_var 6 (pv 6)) pad_nil))))) pad_nil)))))) (pss_oneD (ps_retD pd_bl)) pss_nilD))))))) (pss_consD (ps_asgD (pd_tup (pad_cons (pd_cd c__law_draw (hr.mono (by decide)) hgd (by rfl) (pad_cons (pd_var 1 (pv 1)) (pad_cons (pd_len (p1_e (pd_sub hu1 (p2_ne 3 (pv 3) pd_int) (fun _ _ => rfl) (fun _ _ => rfl))) (by rfl) m_len) pad_nil))) (pad_cons (pd_cd c__law_any (hr.mono (by decide)) hgd (by rfl) (pad_cons (pd_var 1 (pv 1)) (pad_cons (pd_lst (pad_cons pd_int (pad_cons pd_int (pad_cons pd_int (pad_cons pd_int (pad_cons pd_int (pad_cons pd_int (pad_cons pd_int (pad_cons pd_int pad_nil))))))))) pad_nil))) pad_nil))) (pgd_tup rfl (pgs_consD (pgd_name hN (i := 4) rfl (.inr rfl)) (pgs_consD (pgd_name hN (i := 8) rfl (.inl rfl)) pgs_nilD)) rfl)) (pss_consD (ps_asgD (pd_cd c__law_ages (hr.mono (by decide)) hgd (by rfl) (pad_cons (pd_var 3 (pv 3)) (pad_cons (pd_var 4 (pv 4)) pad_nil))) (pgd_name hN (i := 5) rfl (.inl rfl))) (pss_consD (ps_ifD (ptd_not (pt_tru (p1_e (pd_cd c__law_are_long_right (hr.mono (by decide)) hgd (by rfl) (pad_cons (pd_var 1 (pv 1)) (pad_cons (pd_var 3 (pv 3)) (pad_cons (pd_var 4 (pv 4)) (pad_cons (pd_sub hu1 (p2_ne 5 (pv 5) pd_int) (fun _ _ => rfl) (fun _ _ => rfl)) pad_nil)))))))) (pss_oneD (ps_retD pd_bl)) pss_nilD) (pss_consD (ps_asgD (pd_sub hu1 (p2_nn 5 8 (pv 5) (pv 8)) (fun _ _ => rfl) (fun _ _ => rfl)) (pgd_name hN (i := 5) rfl (.inl rfl))) (pss_consD (ps_ifD (ptd_not (pt_tru (p1_e (pd_cd c__law_same (hr.mono (by decide)) hgd (by rfl) (pad_cons (pd_cdK (ks := ["age", "look", "machine"]) [2, 1, 0] c_moves_past (List.mem_singleton.mpr rfl) (hr.mono (by decide)) hgd (by rfl) (pkd_cons (pd_var 8 (pv 8)) (pkd_cons (pd_sub hu1 (p2_en 4 (pd_sub hu1 (p2_ne 3 (pv 3) pd_int) (fun _ _ => rfl) (fun _ _ => rfl)) (pv 4)) (fun _ _ => rfl) (fun _ _ => rfl)) (pkd_cons (pd_var 3 (pv 3)) pkd_nil)))) (pad_cons (pd_var 5 (pv 5)) pad_nil)))))) (pss_oneD (ps_retD pd_bl)) pss_nilD) (pss_oneD (ps_ifD (ptd_not (pt_tru (p1_e (pd_cd c__law_are_walks_right (hr.mono (by decide)) hgd (by rfl) (pad_cons (pd_var 1 (pv 1)) (pad_cons (pd_var 3 (pv 3)) (pad_cons (pd_var 4 (pv 4)) (pad_cons (pd_var 8 (pv 8)) (pad_cons (pd_var 5 (pv 5)) pad_nil))))))))) (pss_oneD (ps_retD pd_bl)) pss_nilD)))))))))) (pss_oneD (ps_retD pd_bl)))
end K8

set_option Elab.async false
set_option linter.all false
set_option maxRecDepth 100000
set_option maxHeartbeats 2000000
/-! K9l: one look of the law. -/
namespace K8
open PySem PySem.Spec PyProof.Rows L2 PD
/-- the nine answers, from the least age -/
def blO (o : Option Nat) : List Bool := (List.range 9).map fun a : Nat => pastB o (a : Int)
theorem o_cases {o : Option Nat} (h : ∀ q, o = some q → q ≤ 8) : o = none ∨ o = some 0 ∨ o = some 1 ∨ o = some 2 ∨ o = some 3 ∨ o = some 4 ∨ o = some 5 ∨ o = some 6 ∨ o = some 7 ∨ o = some 8 := by
  cases o with
  | none => exact .inl rfl
  | some q =>
    have := h q rfl
    match q, this with
    | 0, _ => simp
    | 1, _ => simp
    | 2, _ => simp
    | 3, _ => simp
    | 4, _ => simp
    | 5, _ => simp
    | 6, _ => simp
    | 7, _ => simp
    | 8, _ => simp
theorem repr_told {o : Option Nat} (h : ∀ q, o = some q → q ≤ 8) : reprOk (.list ((blO o).map PyData.bool ++ [encO o, encO o])) = true := by
  rcases o_cases h with rfl | rfl | rfl | rfl | rfl | rfl | rfl | rfl | rfl | rfl <;> rfl
theorem bl_shaped (o : Option Nat) : SeqAt.shaped (.list ((blO o).map PyData.bool)) = true := shaped_listI fun e he => by
  obtain ⟨b, _, rfl⟩ := List.mem_map.mp he
  exact ⟨rfl, Nat.zero_le _⟩
theorem bl_any {o : Option Nat} (h : ∀ q, o = some q → q ≤ 8) : (((blO o).map PyData.bool).any fun z => PyData.eqv z (.bool false)) = o.isSome := by
  rcases o_cases h with rfl | rfl | rfl | rfl | rfl | rfl | rfl | rfl | rfl | rfl <;> rfl
theorem bl_idx {o : Option Nat} (h : ∀ q, o = some q → q ≤ 8) (ho : o.isSome = true) : gIdxL (.val (.list ((blO o).map PyData.bool))) (.val (.bool false)) = some (.val (encO o)) := by
  have e : gIdxL (.val (.list ((blO o).map PyData.bool))) (.val (.bool false)) = (((blO o).map PyData.bool).findIdx? fun y => PyData.eqv y (.bool false)).map fun j => .val (.int (j : Nat)) := by
    show (if (SeqAt.shaped (.list ((blO o).map PyData.bool)) && SeqAt.shaped (.bool false)) = true then (((blO o).map PyData.bool).findIdx? fun y => PyData.eqv y (.bool false)).map fun j => Pl.val (.int (j : Nat)) else none) = _
    rw [bl_shaped, show SeqAt.shaped (.bool false) = true from rfl]
    rfl
  rw [e]
  rcases o_cases h with rfl | rfl | rfl | rfl | rfl | rfl | rfl | rfl | rfl | rfl
  · cases ho
  all_goals rfl
section
variable {M : Mach} {k : Nat} {l : Str} {fs : FS}
def Ls1 : Sf := (sAsg (fCall D__law_ages (aCons (fVar 3) (aCons (fVar 4) aNil))) (.nm 5))
def Ls2 : Sf := (sAsg (fIf (fB (fBin (f2e (fC (.val (.bool false))) 5) (gIn false))) (fIdxL (fVar 5) (fC (.val (.bool false)))) (fC (.val .none))) (.nm 6))
def Ls3 : Sf := (sAsg (fLc [8] (wRange1 (fC (.val (.int 9)))) (.nm 8) bYes Ce0_law) (.nm 7))
def Ls4 : Sf := (sAsg (fBin (f2n 7 (fLst (aCons (fCall D_least_look_age (aCons (fVar 3) (aCons (fBin (f2e (fBin (f2n 3 (fC (.val (.int 1)))) gSub) 4) gSub) aNil))) (aCons (fCall D_least_look_age (aPick [1, 0] (aCons (fBin (f2e (fBin (f2n 3 (fC (.val (.int 1)))) gSub) 4) gSub) (aCons (fVar 3) aNil)))) aNil)))) gAdd) (.nm 7))
def Ls5 : Sf := (sIf (bNot (fTru (fFz (fCall D__law_same (aCons (fVar 7) (aCons (fBin (f2n 5 (fLst (aCons (fVar 6) (aCons (fVar 6) aNil)))) gAdd) aNil)))))) (sRet (fC (.val (.bool false)))) sNil)
theorem look_eq : L0_law = sSeq Ls1 (sSeq Ls2 (sSeq Ls3 (sSeq Ls4 Ls5))) := rfl
def StQ (M : Mach) (k : Nat) (q0 q2 q5 q6 q7 q8 : Option Pl) (fs : FS) : DS := ⟨[q0, some .fd, q2, some (.val (mD M)), some (.val (.int k)), q5, q6, q7, q8], fs⟩
theorem lO (h : M.Ok) : ∀ q, leastAge M k = some q → q ≤ 8 := fun q e => leastAge_le h e
theorem dueL_bl : dueL M k = blO (leastAge M k) := rfl
theorem look_turn (h : M.Ok) (hk : M.ks[k]? = some l) (q0 q2 q5 q6 q7 q8 : Option Pl) (h8 : q8 = none ∨ ∃ d, q8 = some (.val d)) (fs : FS) :
    ∃ q5' q6' q7', L0_law (StQ M k q0 q2 q5 q6 q7 q8 fs) = some (.nx (StQ M k q0 q2 q5' q6' q7' q8 fs)) := by
  have hkl := (List.getElem?_eq_some_iff.mp hk).1
  have hO := lO (k := k) h
  have ea := d_ages h hkl fs
  rw [dueL_bl] at ea
  have hsh := bl_shaped (leastAge M k)
  have hany := bl_any hO
  have hidx := bl_idx hO
  have hrep := repr_told hO
  have hlen : ((blO (leastAge M k)).map PyData.bool).length = 9 := by simp [blO]
  have emap : (List.range 9).map (fun n : Nat => PyData.bool (due M k n)) = (blO (leastAge M k)).map PyData.bool := by
    rw [blO, List.map_map]; rfl
  have ell := d_least_look_age h hk fs
  have enone : (leastAge M k).isSome = false → encO (leastAge M k) = .none := fun z => by
    cases e : leastAge M k with
    | none => rfl
    | some q => rw [e] at z; cases z
  have emp : ∀ n : Nat, D_moves_past [.val (mD M), .val (.str l), .val (.int n)] fs = some (.val (.bool (due M k n)), fs) := fun n => d_moves_past h hk (by omega) fs
  generalize (blO (leastAge M k)).map PyData.bool = L at *
  generalize hE : encO (leastAge M k) = E at *
  generalize (leastAge M k).isSome = b at *
  have c1 : Ls1 (StQ M k q0 q2 q5 q6 q7 q8 fs) = some (.nx (StQ M k q0 q2 (some (.ownL L)) q6 q7 q8 fs)) := by
    simp [Ls1, StQ, ea]
  have c2 : ∃ q5' , (q5' = .ownL L ∨ q5' = .val (.list L)) ∧ Ls2 (StQ M k q0 q2 (some (.ownL L)) q6 q7 q8 fs) = some (.nx (StQ M k q0 q2 (some q5') (some (.val E)) q7 q8 fs)) := by
    cases b with
    | true => exact ⟨.val (.list L), .inr rfl, by simp [Ls2, StQ, shaped_bool, hsh, hany, hidx]⟩
    | false => exact ⟨.ownL L, .inl rfl, by simp [Ls2, StQ, shaped_bool, hsh, hany, enone]⟩
  obtain ⟨q5', h5, c2⟩ := c2
  have c3 : Ls3 (StQ M k q0 q2 (some q5') (some (.val E)) q7 q8 fs) = some (.nx (StQ M k q0 q2 (some q5') (some (.val E)) (some (.ownL L)) q8 fs)) := by
    have e := lc_turn (vs := [8]) (t := .nm 8) (fe := Ce0_law) (fun n : Nat => .int (n : Int)) (fun n => .bool (due M k n)) (List.range 9) (StQ M k q0 q2 (some q5') (some (.val E)) q7 none fs) (by rw [sizeLine_eq]; simp) fun n hn => by
      have := emp n
      simp [Ce0_law, StQ, hk, this]
    rw [emap] at e
    have er : (List.range 9).map (fun n : Nat => PyData.int (n : Int)) = rangeD 0 9 := rfl
    rw [er] at e
    have hr9 : rOk (9 : Int) = true := rfl
    unfold StQ at e ⊢
    rcases h8 with rfl | ⟨d, rfl⟩
    · simp [Ls3, hr9, plainAt, e]
    · simp [Ls3, hr9, plainAt, e, Pl.own]
  have c4 : Ls4 (StQ M k q0 q2 (some q5') (some (.val E)) (some (.ownL L)) q8 fs) = some (.nx (StQ M k q0 q2 (some q5') (some (.val E)) (some (.ownL (L ++ [E, E]))) q8 fs)) := by
    simp [Ls4, StQ, pick, hk, ell, sizeLine_eq, hlen]
  have ds := d_same hrep fs
  have c5 : ∃ q5'' q7'', Ls5 (StQ M k q0 q2 (some q5') (some (.val E)) (some (.ownL (L ++ [E, E]))) q8 fs) = some (.nx (StQ M k q0 q2 q5'' (some (.val E)) q7'' q8 fs)) := by
    rcases h5 with rfl | rfl
    · exact ⟨_, _, by simp [Ls5, StQ, ds, sizeLine_eq, hlen]; exact ⟨rfl, rfl⟩⟩
    · exact ⟨_, _, by simp [Ls5, StQ, ds, sizeLine_eq, hlen]; exact ⟨rfl, rfl⟩⟩
  obtain ⟨q5'', q7'', c5⟩ := c5
  refine ⟨q5'', some (.val E), q7'', ?_⟩
  rw [look_eq, sSeq_ap, c1]
  show (sSeq Ls2 (sSeq Ls3 (sSeq Ls4 Ls5))) _ = _
  rw [sSeq_ap, c2]
  show (sSeq Ls3 (sSeq Ls4 Ls5)) _ = _
  rw [sSeq_ap, c3]
  show (sSeq Ls4 Ls5) _ = _
  rw [sSeq_ap, c4]
  exact c5
end
end K8

set_option Elab.async false
set_option linter.all false
set_option maxRecDepth 100000
set_option maxHeartbeats 2000000
/-! K9m: one lap of the law; its body. -/
namespace K8
open PySem PySem.Spec PyProof.Rows L2 PD
def Lp1 : Sf := (sAsg (fCall D__law_box (aCons (fVar 1) aNil)) (.nm 3))
def Lp2 : Sf := (sForW (wRange1 (fUn (fFz (fBin (f2n 3 (fC (.val (.int 1)))) gSub)) gLen)) (.nm 4) L0_law)
def Lp3 : Sf := (sAsg (fTup (aCons (fCall D__law_draw (aCons (fVar 1) (aCons (fUn (fFz (fBin (f2n 3 (fC (.val (.int 1)))) gSub)) gLen) aNil))) (aCons (fCall D__law_any (aCons (fVar 1) (aCons (fLst (aCons (fC (.val (.int 0))) (aCons (fC (.val (.int 0))) (aCons (fC (.val (.int 1))) (aCons (fC (.val (.int 1))) (aCons (fC (.val (.int 2))) (aCons (fC (.val (.int 3))) (aCons (fC (.val (.int 5))) (aCons (fC (.val (.int 8))) aNil))))))))) aNil))) aNil))) (.tp [(.nm 4), (.nm 8)]))
def Lp4 : Sf := (sAsg (fCall D__law_ages (aCons (fVar 3) (aCons (fVar 4) aNil))) (.nm 5))
def Lp5 : Sf := (sIf (bNot (fTru (fFz (fCall D__law_are_long_right (aCons (fVar 1) (aCons (fVar 3) (aCons (fVar 4) (aCons (fBin (f2n 5 (fC (.val (.int 8)))) gSub) aNil)))))))) (sRet (fC (.val (.bool false)))) sNil)
def Lp6 : Sf := (sAsg (fBin (f2nn 5 8) gSub) (.nm 5))
def Lp7 : Sf := (sIf (bNot (fTru (fFz (fCall D__law_same (aCons (fCall D_moves_past (aPick [2, 1, 0] (aCons (fVar 8) (aCons (fBin (f2e (fBin (f2n 3 (fC (.val (.int 1)))) gSub) 4) gSub) (aCons (fVar 3) aNil))))) (aCons (fVar 5) aNil)))))) (sRet (fC (.val (.bool false)))) sNil)
def Lp8 : Sf := (sIf (bNot (fTru (fFz (fCall D__law_are_walks_right (aCons (fVar 1) (aCons (fVar 3) (aCons (fVar 4) (aCons (fVar 8) (aCons (fVar 5) aNil))))))))) (sRet (fC (.val (.bool false)))) sNil)
theorem lap_eq : L1_law = sSeq Lp1 (sSeq Lp2 (sSeq Lp3 (sSeq Lp4 (sSeq Lp5 (sSeq Lp6 (sSeq Lp7 Lp8)))))) := rfl
theorem dueL_len (M : Mach) (k : Nat) : ((dueL M k).map PyData.bool).length = 9 := by simp [dueL]
theorem dueL_at (M : Mach) (k : Nat) {n : Nat} (hn : n ≤ 8) : ((dueL M k).map PyData.bool)[n]? = some (.bool (due M k n)) := by
  have e : (List.range 9)[n]? = some n := by rw [List.getElem?_range (by omega)]
  rw [dueL, List.map_map, List.getElem?_map, e]
  rfl
section
variable {M : Mach} {k : Nat} {l : Str} {fs : FS}
theorem looks_all (h : M.Ok) (q0 q2 q4 q5 q6 q7 q8 : Option Pl) (h8 : q8 = none ∨ ∃ d, q8 = some (.val d)) (fs : FS) :
    ∃ q4' q5' q6' q7', Lp2 ⟨[q0, some .fd, q2, some (.val (mD M)), q4, q5, q6, q7, q8], fs⟩ = some (.nx ⟨[q0, some .fd, q2, some (.val (mD M)), q4', q5', q6', q7', q8], fs⟩) := by
  have hz := sizeLine_eq
  have h9 := h.k9
  obtain ⟨s', e, q4', q5', q6', q7', rfl⟩ := sFor_inv (t := .nm 4) (f := L0_law) (fun n : Nat => .int (n : Int)) (fun i st => ∃ q4 q5 q6 q7, st = ⟨[q0, some .fd, q2, some (.val (mD M)), q4, q5, q6, q7, q8], fs⟩) (List.range M.ks.length) 0
    ⟨[q0, some .fd, q2, some (.val (mD M)), q4, q5, q6, q7, q8], fs⟩ (fun j x st hj hI => by
      obtain ⟨q4, q5, q6, q7, rfl⟩ := hI
      have hx : x < M.ks.length := List.mem_range.mp (List.mem_of_getElem? hj)
      obtain ⟨a, b, c, e⟩ := look_turn h (List.getElem?_eq_getElem hx) q0 q2 q5 q6 q7 q8 h8 fs
      refine ⟨_, ?_, some (.val (.int x)), a, b, c, rfl⟩
      unfold StQ at e
      simpa using e) ⟨q4, q5, q6, q7, rfl⟩
  rw [← lN_map, ← rangeD_lN] at e
  have hr : rOk (M.ks.length : Int) = true := by
    unfold rOk
    simp
    omega
  refine ⟨q4', q5', q6', q7', ?_⟩
  simp [Lp2, hr, e]
theorem lap_turn (q0 q2 q3 q4 q5 q6 q7 q8 : Option Pl) (h8 : q8 = none ∨ ∃ d, q8 = some (.val d)) (fs : FS) :
    ∃ q3' q4' q5' q6' q7' d fs', L1_law ⟨[q0, some .fd, q2, q3, q4, q5, q6, q7, q8], fs⟩ = some (.nx ⟨[q0, some .fd, q2, q3', q4', q5', q6', q7', some (.val d)], fs'⟩) := by
  have hz := sizeLine_eq
  obtain ⟨M, f1, h, e1⟩ := d_box fs
  have c1 : Lp1 ⟨[q0, some .fd, q2, q3, q4, q5, q6, q7, q8], fs⟩ = some (.nx ⟨[q0, some .fd, q2, some (.val (mD M)), q4, q5, q6, q7, q8], f1⟩) := by
    simp [Lp1, e1]
  obtain ⟨a4, a5, a6, a7, c2⟩ := looks_all h q0 q2 q4 q5 q6 q7 q8 h8 f1
  have hk1 := h.k1
  have hk9 := h.k9
  obtain ⟨kI, f2, e3, k0, k2⟩ := d_draw (n := (M.ks.length : Int)) (by omega) (by omega) f1
  obtain ⟨k, rfl⟩ : ∃ k : Nat, kI = (k : Int) := ⟨kI.toNat, by omega⟩
  have hkl : k < M.ks.length := by omega
  have hk : M.ks[k]? = some M.ks[k] := List.getElem?_eq_getElem hkl
  generalize M.ks[k] = l at hk
  obtain ⟨d, hd, f3, e4⟩ := d_any (ds := [.int 0, .int 0, .int 1, .int 1, .int 2, .int 3, .int 5, .int 8]) (by simp) (by simp) f2
  obtain ⟨n, rfl, hn⟩ : ∃ n : Nat, d = .int (n : Int) ∧ n ≤ 8 := by
    simp only [List.mem_cons, List.not_mem_nil, or_false] at hd
    rcases hd with rfl | rfl | rfl | rfl | rfl | rfl | rfl | rfl
    · exact ⟨0, rfl, by omega⟩
    · exact ⟨0, rfl, by omega⟩
    · exact ⟨1, rfl, by omega⟩
    · exact ⟨1, rfl, by omega⟩
    · exact ⟨2, rfl, by omega⟩
    · exact ⟨3, rfl, by omega⟩
    · exact ⟨5, rfl, by omega⟩
    · exact ⟨8, rfl, by omega⟩
  have c3 : Lp3 ⟨[q0, some .fd, q2, some (.val (mD M)), a4, a5, a6, a7, q8], f1⟩ = some (.nx ⟨[q0, some .fd, q2, some (.val (mD M)), some (.val (.int k)), a5, a6, a7, some (.val (.int n))], f3⟩) := by
    simp [Lp3, sizeLine_eq, e3, e4]
  have e5 := d_ages h hkl f3
  have hl8 := dueL_at M k (n := 8) (by omega)
  have hln := dueL_at M k hn
  generalize (dueL M k).map PyData.bool = L at e5 hl8 hln
  have c4 : Lp4 ⟨[q0, some .fd, q2, some (.val (mD M)), some (.val (.int k)), a5, a6, a7, some (.val (.int n))], f3⟩ = some (.nx ⟨[q0, some .fd, q2, some (.val (mD M)), some (.val (.int k)), some (.ownL L), a6, a7, some (.val (.int n))], f3⟩) := by
    simp [Lp4, e5]
  obtain ⟨f4, e6⟩ := d_are_long_right h hk f3
  have c5 : Lp5 ⟨[q0, some .fd, q2, some (.val (mD M)), some (.val (.int k)), some (.ownL L), a6, a7, some (.val (.int n))], f3⟩ = some (.nx ⟨[q0, some .fd, q2, some (.val (mD M)), some (.val (.int k)), some (.ownL L), a6, a7, some (.val (.int n))], f4⟩) := by
    simp [Lp5, hl8, e6]
  have c6 : Lp6 ⟨[q0, some .fd, q2, some (.val (mD M)), some (.val (.int k)), some (.ownL L), a6, a7, some (.val (.int n))], f4⟩ = some (.nx ⟨[q0, some .fd, q2, some (.val (mD M)), some (.val (.int k)), some (.val (.bool (due M k n))), a6, a7, some (.val (.int n))], f4⟩) := by
    simp [Lp6, hln]
  have e7 : D_moves_past [.val (mD M), .val (.str l), .val (.int n)] f4 = some (.val (.bool (due M k n)), f4) := d_moves_past h hk (by omega) f4
  have e8 := d_sameB (due M k n) f4
  have c7 : Lp7 ⟨[q0, some .fd, q2, some (.val (mD M)), some (.val (.int k)), some (.val (.bool (due M k n))), a6, a7, some (.val (.int n))], f4⟩ = some (.nx ⟨[q0, some .fd, q2, some (.val (mD M)), some (.val (.int k)), some (.val (.bool (due M k n))), a6, a7, some (.val (.int n))], f4⟩) := by
    simp [Lp7, pick, hk, e7, e8]
  obtain ⟨f5, e9⟩ := d_are_walks_right h hk (n := n) (by omega) f4
  have c8 : Lp8 ⟨[q0, some .fd, q2, some (.val (mD M)), some (.val (.int k)), some (.val (.bool (due M k n))), a6, a7, some (.val (.int n))], f4⟩ = some (.nx ⟨[q0, some .fd, q2, some (.val (mD M)), some (.val (.int k)), some (.val (.bool (due M k n))), a6, a7, some (.val (.int n))], f5⟩) := by
    simp [Lp8, e9]
  refine ⟨some (.val (mD M)), some (.val (.int k)), some (.val (.bool (due M k n))), a6, a7, .int n, f5, ?_⟩
  rw [lap_eq, sSeq_ap, c1]
  show (sSeq Lp2 (sSeq Lp3 (sSeq Lp4 (sSeq Lp5 (sSeq Lp6 (sSeq Lp7 Lp8)))))) _ = _
  rw [sSeq_ap, c2]
  show (sSeq Lp3 (sSeq Lp4 (sSeq Lp5 (sSeq Lp6 (sSeq Lp7 Lp8))))) _ = _
  rw [sSeq_ap, c3]
  show (sSeq Lp4 (sSeq Lp5 (sSeq Lp6 (sSeq Lp7 Lp8)))) _ = _
  rw [sSeq_ap, c4]
  show (sSeq Lp5 (sSeq Lp6 (sSeq Lp7 Lp8))) _ = _
  rw [sSeq_ap, c5]
  show (sSeq Lp6 (sSeq Lp7 Lp8)) _ = _
  rw [sSeq_ap, c6]
  show (sSeq Lp7 Lp8) _ = _
  rw [sSeq_ap, c7]
  exact c8
theorem law_run (fs : FS) : ∃ s', B_law ⟨[none, some .fd, none, none, none, none, none, none, none], fs⟩ = some (.rt (.val (.bool true)) s') := by
  obtain ⟨s', e, _⟩ := sFor_inv (t := .nm 2) (f := L1_law) (fun n : Nat => .int (n : Int)) (fun i st => ∃ q2 q3 q4 q5 q6 q7 q8 fs, (q8 = none ∨ ∃ d, q8 = some (.val d)) ∧ st = ⟨[none, some .fd, q2, q3, q4, q5, q6, q7, q8], fs⟩) (List.range 2) 0
    ⟨[none, some .fd, none, none, none, none, none, none, none], fs⟩ (fun j x st hj hI => by
      obtain ⟨q2, q3, q4, q5, q6, q7, q8, fs, h8, rfl⟩ := hI
      obtain ⟨b3, b4, b5, b6, b7, d, f', e⟩ := lap_turn none (some (.val (.int x))) q3 q4 q5 q6 q7 q8 h8 fs
      exact ⟨_, by simpa using e, _, b3, b4, b5, b6, b7, some (.val d), f', .inr ⟨d, rfl⟩, rfl⟩) ⟨_, _, _, _, _, _, _, fs, .inl rfl, rfl⟩
  rw [← lN_map, ← rangeD_lN] at e
  have hr : rOk (2 : Int) = true := rfl
  refine ⟨s', ?_⟩
  simp [B_law, hr, e]
end
end K8

set_option Elab.async false
set_option linter.all false
set_option maxRecDepth 100000
set_option maxHeartbeats 2000000
/-! PDu: a law over the layer: its call by nobody's leave; the feed. -/
namespace PD
open PySem PySem.Spec PyProof.Rows L2
/-- a block whose reading may choose what it starts from -/
theorem pss_data {X : Cx} {sts : List Stmt} {f : Sf} (h : ∀ Γ, PSSd X Γ sts f) : ∃ t : TS, PSs X sts t ∧ ∀ (σ : L2.St) (H : Hp) (D : Ends) (Γ : Gm) (G : Hp) (s : DS) (o : Out), Sta X.K Γ σ H G s → f s = some o → PostS X.K Γ G o D → t D σ H :=
  ⟨fun D σ H => ∃ Γ, (h Γ).choose D σ H, ⟨fun pins s σ H D I ⟨Γ, z⟩ => (h Γ).choose_spec.1.run pins s σ H D I z⟩, fun σ H D Γ G s o S e p => ⟨Γ, (h Γ).choose_spec.2 σ H G s o D S e p⟩⟩
/-- a def, called where no display is on the way -/
structure FnG (P : Program) (w : World) (K : PySem.W.Frag) (mg : Str → Option Value) (base : Heap) (k : Nat) (f : Addr) (fd : FuncData) (ps : List Str) (sp : List V → Hp → VK → Prop) : Prop where
  run : ∀ (A : Around) (outer : List Env) (s : Shared) (H : Hp) (args : Args) (us : List Value) (vs : List V) (Q : VK), Room k A → A.guards = some [] → Env0 P w K mg base A outer s H → BindsTo s fd args (ps.zip us) → Vals vs us → vs.length = ps.length →
    sp vs H Q → codeAny (model P w) A (.call (.ref f) args) (CR CX0 outer P w H s Q E0) s
theorem fnG_of {P : Program} {w : World} {K : PySem.W.Frag} {mg : Str → Option Value} {base : Heap} {k : Nat} {f : Addr} {name qual : Str} {params : Arguments} {body : List Stmt} {scope : Scope} {dV kV doc pm cdv ct oc : Value} {an od : Option Addr}
    {osl : Array (Option Value)} {N ps : List Str} {sp : List V → Hp → VK → Prop} (lk : K.lookup f = some ⟨oc, od, .func (PySem.W.fnOf name qual params body scope dV kV doc pm an cdv ct), osl⟩) (hcd : PySem.W.codeIn K cdv qual = true) (S : FnScope N ps scope)
    (hbody : ∀ (A : Around) (outer : List Env) (s : Shared) (H : Hp), Room k (A.deeper (envOfC qual scope s.heap.objs.size f cdv)) → (A.deeper (envOfC qual scope s.heap.objs.size f cdv)).guards = some [] →
      ∃ t : TS, PSs (cxOf CX0 P w K mg base N qual scope f cdv A outer s H E0).nox body t ∧ ∀ vs Q, sp vs H Q → t { nx := fun _ H' => Q .non H', rt := Q } (start N vs) H) :
    FnG P w K mg base (k + 1) f (PySem.W.fnOf name qual params body scope dV kV doc pm an cdv ct) ps sp := by
  refine ⟨fun A outer s H args us vs Q hr hgd e0 hb r hl h => ?_⟩
  have KX : K.In s.heap := e0.mod.kin.keeps fun b o e => (e0.bs b o e).1
  have lim : s.heap.NoLimit := e0.mod.nolimit.keeps fun b o e => (e0.bs b o e).1
  have hkind : ∀ y ∈ ps.zip us, scope.names.lookup y.1 = some .local ∨ (scope.names.lookup y.1 = some .cell ∧ ((cellsFrom (s.heap.objs.size + 1) scope.names []).lookup y.1).isSome = true) := fun ⟨n, v⟩ hy => by
    rcases S.par n (List.of_mem_zip hy).1 with q | q
    · exact .inl q
    · exact .inr ⟨q, PySem.W.cellsFrom_some _ _ _ (.inl q)⟩
  refine codeAny_call_function hr.depth (KX _ _ lk) rfl S.co S.gen rfl (PySem.W.codeRec_of KX hcd) (hb _ _ _ _ ?_)
  refine wpAny_newFunctionEnv_cells S.kind hkind fun env he s1 x => ?_
  subst he
  refine ⟨lim.keeps x.toInCall.keep, codeAny_func ?_⟩
  obtain ⟨t, ht, hk⟩ := hbody A outer s H (hr.deeper _) hgd
  have ht := ht.nox
  have I : Inv (cxOf CX0 P w K mg base N qual scope f cdv A outer s H E0) [] (start N vs) H s1 := inv_start S hr.hd e0 hl r x
  refine wpAny_mono (ht.run [] s1 (start N vs) H _ I (hk vs Q h)) (fun fl s' hs => ?_) fun e s' hs => hs
  have fin : ∀ {σ' : L2.St} {H' : Hp} {v : V} {u : Value}, Inv (cxOf CX0 P w K mg base N qual scope f cdv A outer s H E0) [] σ' H' s' → RelV v u → Q v H' → CE outer P w H s Q u s' :=
    fun {σ' H' v u} J rv q => ⟨v, H', J.os, J.bare, J.base, J.hok, rv, q⟩
  cases fl with
  | ret u =>
    obtain ⟨v, σ', H', J, rv, q⟩ := hs
    exact fin J rv q
  | next =>
    obtain ⟨σ', H', J, q⟩ := hs
    exact fin (v := V.non) (u := Value.none) J rfl q
  | brk =>
    obtain ⟨_, _, _, q⟩ := hs
    exact False.elim q
  | cont =>
    obtain ⟨_, _, _, q⟩ := hs
    exact False.elim q
theorem fun_of {K : PySem.W.Frag} {x qual : Str} {st : Stmt} {f : Addr} {fd : FuncData} (F : FunD K x qual (defArgs st) (defBody st) (defScope st) [] [] f fd) : Fun K x qual st f fd := by
  obtain ⟨oc, od, dV, kV, doc, pm, an, cdv, ct, osl, h1, h2, h3, h4, h5⟩ := F.ex
  rcases h4 with ⟨_, rfl⟩ | ⟨z, _⟩
  · exact ⟨⟨oc, od, kV, doc, pm, an, cdv, ct, osl, h1, h2, h3⟩, F.kp⟩
  · exact absurd rfl z
/-! ### the call from outside -/
theorem script_hp {P : Program} {w : World} {K : PySem.W.Frag} {a : Addr} {h : Heap} {vs : List Value} {ns : List Int} (KX : K.In h) (la : h.get? a = some { cls := .type "list", data := .seq vs.toArray }) (li : IntsAre vs ns) (ll : ns.length ≤ sizeLine) :
    ∃ H : Hp, SqL K H a (ns.map V.int) ∧ HOk P w H h ∧ (∀ b, H b ≠ none → b = a ∧ K.lookup a = none ∧ ∃ o xs, H b = some (.frz o (.lst xs))) := by
  have rv := vals_ints li
  cases hk : K.lookup a with
  | some o =>
    have e : o = { cls := .type "list", data := .seq vs.toArray } := Option.some.inj ((KX a o hk).symm.trans la)
    subst e
    refine ⟨fun _ => none, .inr ⟨_, vs.toArray, _, hk, rfl, rfl, rfl, ?_, by simpa using rv⟩, fun b u z => (by cases z), fun b z => absurd rfl z⟩
    rw [List.size_toArray, li.length]
    exact ll
  | none =>
    have at_ : ∀ b (u : HO), (if b = a then some (HO.frz { cls := .type "list", data := .seq vs.toArray } (.lst (ns.map V.int))) else none) = some u → b = a ∧ u = .frz { cls := .type "list", data := .seq vs.toArray } (.lst (ns.map V.int)) := fun b u z => by
      by_cases q : b = a
      · rw [if_pos q] at z
        exact ⟨q, (Option.some.inj z).symm⟩
      · rw [if_neg q] at z
        cases z
    refine ⟨fun b => if b = a then some (.frz { cls := .type "list", data := .seq vs.toArray } (.lst (ns.map V.int))) else none, .inl (.inr ⟨_, if_pos rfl⟩), fun b u z => ?_, fun b z => ?_⟩
    · obtain ⟨rfl, rfl⟩ := at_ b u z
      exact ⟨la, by rw [List.length_map]; exact ll, vs, _, rv, la⟩
    · cases q : (if b = a then some (HO.frz { cls := .type "list", data := .seq vs.toArray } (.lst (ns.map V.int))) else none) with
      | none => exact absurd q z
      | some u =>
        obtain ⟨r1, r2⟩ := at_ b u q
        exact ⟨r1, rfl, _, _, q.trans (by rw [r2])⟩
theorem law_at {P : Program} {w : World} {K : PySem.W.Frag} {mg mb : Str → Option Value} {fa a : Addr} {s : Shared} {vs : List Value} {ns : List Int} (KX : K.In s.heap) (g1 : s.heap.Ns mainGlobals mg) (g2 : s.heap.Ns builtinsNs mb)
    (g3 : ∀ y : Str, y ≠ "__name__" → mb y = bootBuiltins y) (g4 : s.heap.NoLimit) (g5 : s.gens = #[]) (la : s.heap.get? a = some { cls := .type "list", data := .seq vs.toArray }) (li : IntsAre vs ns) (ll : ns.length ≤ sizeLine)
    (F : ∀ (base : Heap) (H : Hp), K.In base → base.Ns mainGlobals mg → Env0 P w K mg base callerA [] s H → SqL K H a (ns.map V.int) → codeAny (model P w) callerA (.call (.ref fa) ⟨[.ref a], []⟩) (CR CX0 [] P w H s (fun v _ => v = .bl true) E0) s) :
    codeAny (model P w) callerA (.call (.ref fa) ⟨[.ref a], []⟩) (fun r t => r = .ok (.ret (.bool true)) ∧ OldK s.heap t.heap ∧ t.os = s.os ∧ AllBare t.gens) s := by
  obtain ⟨H, hS, hok, hH⟩ := script_hp (P := P) (w := w) KX la li ll
  have up : ∀ {b : Addr} {o : Obj}, s.heap.get? b = some o → (b = a → K.lookup a = none → False) → (hidT s.heap H).get? b = some o := fun {b o} e n => hidT_get e (by
    cases q : H b with
    | none => rfl
    | some u =>
      obtain ⟨r1, r2, _⟩ := hH b (by rw [q]; simp)
      exact (n r1 r2).elim)
  have upN : ∀ {b : Addr} {m : Str → Option Value}, s.heap.Ns b m → (hidT s.heap H).Ns b m := fun {b m} ⟨o, es, ep, e, d, r⟩ => ⟨o, es, ep, up e (fun z _ => by
    subst z
    have e2 := Option.some.inj (e.symm.trans la)
    subst e2
    cases d), d, r⟩
  have kb : K.In (hidT s.heap H) := fun b o e => up (KX b o e) fun z n => by
    rw [z, n] at e
    cases e
  obtain ⟨mc, c1, c2⟩ := g4
  have E : Env0 P w K mg (hidT s.heap H) callerA [] s H := ⟨rfl, ⟨kb, upN g1, ⟨mb, upN g2, g3⟩, ⟨mc, upN c1, c2⟩⟩, fun b o e => of_hidT e, Nat.le_of_eq (hidT_size _ _), trivial, fun b hb => (by cases hb), hok, .of_eq g5⟩
  refine codeAny_mono (F _ H kb (upN g1) E hS) fun r t h => ?_
  match r, h with
  | .error e, h => exact h.elim
  | .ok .next, h => exact h.elim
  | .ok .brk, h => exact h.elim
  | .ok .cont, h => exact h.elim
  | .ok (.ret u), h =>
    obtain ⟨v, H', os, bare, un, hok', rv, q⟩ := h
    subst q
    obtain rfl : u = Value.bool true := rv
    refine ⟨rfl, OldK.of_keep fun b o e => ?_, os, bare⟩
    cases q : H b with
    | none => exact un.keep b o e q (by intro z; cases z) (by simp)
    | some u =>
      obtain ⟨_, _, ob, xs, z⟩ := hH b (by rw [q]; simp)
      have z2 := un.frzs b ob _ z
      have k1 := (hok b _ z).1
      have k2 := (hok' b _ z2).1
      rw [e] at k1
      cases k1
      exact k2
/-! ### the feed -/
def spFeed (K : PySem.W.Frag) : Sp := fun vs H Q _ => ∃ (a : Addr) (ns : List Int), vs = [.ref a] ∧ SqL K H a (ns.map V.int) ∧ ns.length ≤ 63 ∧
  ∀ (fa c : Addr) (H' : Hp), Same H H' → H' fa = some (.dK [(kCells, .ref c), (kSpot, .int 0), (kRest, .int 0), (kTurn, .int 0)]) → H' c = some (.lst (ns.map V.int)) → c ≠ fa → Q (.ref fa) H'
theorem sta_feed {K : PySem.W.Frag} {σ : L2.St} {H : Hp} {fa c : Addr} {ns : List Int} (n : Nat) (h1 : H fa = some (.dK [(kCells, .ref c), (kSpot, .int 0), (kRest, .int 0), (kTurn, .int 0)])) (h2 : H c = some (.lst (ns.map V.int))) (h3 : c ≠ fa) (h4 : σ.length = n + 2) (h5 : σ[1]? = some (some (.ref fa))) :
    Sta K ⟨fa, H, fun b => if b = c then some (.lst (ns.map V.int)) else none⟩ σ H (fun b => if b = c then some (.lst (ns.map V.int)) else none) ⟨none :: some .fd :: List.replicate n none, ⟨ns, 0, 0, 0⟩⟩ := by
  have only : ∀ (i : Nat) (sl : Pl), (none :: some Pl.fd :: List.replicate n none)[i]? = some (some sl) → i = 1 ∧ sl = .fd := fun i sl e => by
    match i, e with
    | 0, e => simp at e
    | 1, e => simp at e; exact ⟨rfl, e.symm⟩
    | i + 2, e =>
      simp only [List.getElem?_cons_succ, List.getElem?_replicate] at e
      split at e <;> cases e
  refine ⟨fun b o e => ?_, Same.refl _, fun b e => .inl e, fun b o _ e => e, by simp [h4], fun i sl e => ?_, fun i j a d v e _ o => ?_, fun b ⟨i, a, e, o, _⟩ => ?_, c, h1, if_neg (fun z => h3 z.symm), if_pos rfl⟩
  · by_cases z : b = c
    · rw [if_pos z] at e
      rw [z, h2, ← e]
    · rw [if_neg z] at e
      cases e
  · obtain ⟨rfl, rfl⟩ := only i sl e
    exact ⟨_, h5, rfl⟩
  · obtain ⟨_, rfl⟩ := only i a e
    cases o
  · obtain ⟨_, rfl⟩ := only i a e
    cases o
end PD

set_option Elab.async false
set_option linter.all false
set_option maxRecDepth 100000
set_option maxHeartbeats 2000000
/-! K9n: the feed made; the law called. -/
namespace K8
open PySem PySem.Spec PyProof.Rows L2 PD
abbrev s__law_feed : Stmt := topS 38
theorem sc__law_feed : FnScope ["_law_script", "_law_cell"] ["_law_script"] (defScope s__law_feed) := ⟨rfl, rfl, rfl, by decide +kernel, rfl, by decide +kernel, by decide +kernel⟩
theorem ok__law_feed {P : Program} {w : World} {K : PySem.W.Frag} {mg : Str → Option Value} {base : Heap} {f : Addr} {fd : FuncData} (F : Fun K "_law_feed" "_law_feed" s__law_feed f fd) (m_int : mg "int" = none) :
    FnOk P w K mg base CX0 1 f fd ["_law_script"] (spFeed K) := by
  have nd := sc__law_feed.nd
  refine F.ok sc__law_feed (fun vs H Q E h => ?_) (fun cdv A outer s H vs Q E hr h => ⟨_, PSs.nox (pss_one (ps_ret (pe_disp (pps_cons pe_str (pe_lc (own := [("_law_cell", 1)]) (g := gName 1) (tt := tYes) rfl nd (pi_list (pe_slice sl_list (pv 0) po_none (po_some pe_int)))
    (blkOk_by (by kernel_rfl)) (fun _ _ _ _ _ => pg_name (i := 1) nd rfl (Or.inl rfl)) (fun _ _ _ _ _ => pts_nil) (fun _ _ _ _ _ => pe_callTy call_int1 (by rfl) m_int boot_int (pa_cons (pv 1) pa_nil)))
    (pps_cons pe_str pe_int (pps_cons pe_str pe_int (pps_cons pe_str pe_int pps_nil)))) (by rfl) (by rfl) (fun z => by cases z) (by decide)))), ?_⟩)
  · obtain ⟨a, ns, rfl, _⟩ := h
    rfl
  · obtain ⟨a, ns, rfl, hS, hl, hQ⟩ := h
    intro p np
    have S1 : Same H (upd H p (.dK [])) := same_upd' np
    refine ⟨_, rfl, 63, rfl, a, _, rfl, S1.seq hS, fun q nq => ?_⟩
    have hcut : cutV (ns.map V.int) none (some 63) = ns.map V.int := by
      unfold cutV
      rw [HT.sIx_none]
      show ((ns.map V.int).drop 0).take (HT.sIx (ns.map V.int).length (ns.map V.int).length (some ((63 : Nat) : Int)) - 0) = _
      rw [HT.sIx_nat, List.drop_zero, Nat.sub_zero, List.take_of_length_le]
      rw [List.length_map]
      omega
    rw [hcut]
    have hqp : q ≠ p := fun z => by
      rw [z, upd_same] at nq
      cases nq
    refine ⟨q, rfl, ⟨_, .inl (.inl (upd_same ..))⟩, fun D nD => ?_⟩
    have hDq : D ≠ q := fun z => by
      rw [z, upd_same] at nD
      cases nD
    have hDp : D ≠ p := fun z => by
      rw [z, upd_ne (fun y => hqp y.symm), upd_same] at nD
      cases nD
    have nq' : upd H p (.dK []) q = none := nq
    have hD0 : H D = none := by
      rw [upd_ne hDq, upd_ne hDp] at nD
      exact nD
    have S2 : Same H (upd (upd (upd H p (.dK [])) q (.lst (ns.map V.int))) D (.lst [])) := (S1.trans (same_upd' nq)).trans (same_upd' nD)
    refine lc_list (K := K) (a := q) (xs := ns.map V.int) (fun i H' => Same H H' ∧ H' p = some (.dK []) ∧ H' q = some (.lst (ns.map V.int)) ∧ H' D = some (.lst ((ns.take i).map V.int)))
      ⟨S2, by rw [upd_ne (fun y => hDp y.symm), upd_ne (fun y => hqp y.symm), upd_same], by rw [upd_ne (fun y => hDq y.symm), upd_same], by rw [upd_same]; rfl⟩ (fun i H' _ h => .inl (.inl h.2.2.1)) (fun i x H' hx h => ?_) (fun H' h => ?_)
    · obtain ⟨h1, h2, h3, h4⟩ := h
      rw [List.getElem?_map] at hx
      cases e : ns[i]? with
      | none => rw [e] at hx; cases hx
      | some k =>
        rw [e] at hx
        cases hx
        refine ⟨rfl, ?_⟩
        simp only [tYes, if_true]
        refine ⟨.int k, rfl, .inl ⟨k, rfl, _, h4, ?_, fun b o hb => ?_, ?_, ?_, ?_⟩⟩
        · rw [List.length_map, List.length_take, sizeLine_eq]
          omega
        · rw [upd_ne (fun z => by
            rw [z, hD0] at hb
            cases hb)]
          exact h1 b o hb
        · rw [upd_ne (fun y => hDp y.symm)]
          exact h2
        · rw [upd_ne (fun y => hDq y.symm)]
          exact h3
        · rw [upd_same, List.take_add_one, e]
          simp
    · obtain ⟨h1, h2, h3, h4⟩ := h
      rw [List.length_map, List.take_length] at h4
      refine ⟨h2, [(kCells, .ref D), (kSpot, .int 0), (kRest, .int 0), (kTurn, .int 0)], rfl, by simp, hQ p D _ (fun b o hb => ?_) ?_ ?_ hDp⟩
      · rw [upd_ne (fun z => by
          rw [z, np] at hb
          cases hb)]
        exact h1 b o hb
      · rw [upd_same]
        rfl
      · rw [upd_ne hDp]
        exact h4
/-- the law, from what its defs do -/
def spLaw (K : PySem.W.Frag) : List V → Hp → VK → Prop := fun vs H Q => ∃ (a : Addr) (ns : List Int), vs = [.ref a] ∧ SqL K H a (ns.map V.int) ∧ ns.length ≤ 63 ∧ ∀ H', Q (.bl true) H'
theorem ok_law {P : Program} {w : World} {K : PySem.W.Frag} {mg : Str → Option Value} {base : Heap} {f fF : Addr} {fd fdF : FuncData} (F : Fun K "law" "law" s_law f fd) (FF : Fun K "_law_feed" "_law_feed" s__law_feed fF fdF) (gF : mg "_law_feed" = some (.ref fF)) (m_int : mg "int" = none) (m_len : mg "len" = none) (m_range : mg "range" = none)
    (c__law_ages : Cd P w K mg base 2 "_law_ages" ["_law_box_here", "_law_k"] [] D__law_ages) (c__law_any : Cd P w K mg base 2 "_law_any" ["_law_feed_here", "_law_some"] [] D__law_any) (c__law_are_long_right : Cd P w K mg base 9 "_law_are_long_right" ["_law_feed_here", "_law_box_here", "_law_k", "_law_past"] [] D__law_are_long_right) (c__law_are_walks_right : Cd P w K mg base 9 "_law_are_walks_right" ["_law_feed_here", "_law_box_here", "_law_k", "_law_limit", "_law_past"] [] D__law_are_walks_right) (c__law_box : Cd P w K mg base 4 "_law_box" ["_law_feed_here"] [] D__law_box) (c__law_draw : Cd P w K mg base 1 "_law_draw" ["_law_feed_here", "_law_size"] [] D__law_draw) (c__law_same : Cd P w K mg base 1 "_law_same" ["_law_told", "_law_due"] [] D__law_same) (c_least_look_age : Cd P w K mg base 8 "least_look_age" ["machine", "look"] [(["look", "machine"], [1, 0])] D_least_look_age) (c_moves_past : Cd P w K mg base 8 "moves_past" ["machine", "look", "age"] [(["age", "look", "machine"], [2, 1, 0])] D_moves_past) :
    FnG P w K mg base 10 f fd ["_law_script"] (spLaw K) := by
  obtain ⟨oc, od, kV, doc, pm, an, cdv, ct, osl, rfl, lk, hcd⟩ := F.ex
  refine fnG_of lk hcd sc_law fun A outer s H hr hgd => ?_
  have GF := ok__law_feed (P := P) (w := w) (mg := mg) (base := base) FF m_int
  have bF : Binds K fdF ["_law_script"] [] := FF.binds fun _ _ _ _ _ _ us hl => match us, hl with | [_], _ => rfl
  obtain ⟨t, ht, hk⟩ := pss_data fun Γ => body_law m_len m_range c__law_ages c__law_any c__law_are_long_right c__law_are_walks_right c__law_box c__law_draw c__law_same c_least_look_age c_moves_past cdv A outer s H hr hgd Γ
  refine ⟨_, pss_cons (ps_set (i := 1) sc_law.nd rfl (.inl rfl) (pe_call GF (hr.mono (by decide)) (by rfl) gF FF.kp bF .nil pass0 (pa_cons (pv 0) pa_nil))) ht, ?_⟩
  intro vs Q h
  obtain ⟨a, ns, rfl, hS, hl, hQ⟩ := h
  refine ⟨_, rfl, a, ns, rfl, hS, hl, fun fa c H' h1 h2 h3 h4 => ?_⟩
  obtain ⟨s', e⟩ := law_run ⟨ns, 0, 0, 0⟩
  refine hk _ H' _ ⟨fa, H', _⟩ _ _ _ (sta_feed 7 h2 h3 h4 rfl rfl) e fun v σ' H'' G' S g q => ?_
  have q := q.rp
  cases q
  exact hQ H''
end K8

set_option Elab.async false
set_option linter.all false
set_option maxRecDepth 100000
set_option maxHeartbeats 0
/-! the head: what the top leaves, by names. -/
namespace K8
open PySem PySem.Spec PyProof.Rows L2 PD
def d_at_is_integer : He.DefD := ⟨("is_integer", none), "is_integer", "is_integer", defArgs (topS 2), defBody (topS 2), defScope (topS 2), [], []⟩
def d_at_is_number : He.DefD := ⟨("is_number", none), "is_number", "is_number", defArgs (topS 3), defBody (topS 3), defScope (topS 3), [], []⟩
def d_at_is_name : He.DefD := ⟨("is_name", none), "is_name", "is_name", defArgs (topS 4), defBody (topS 4), defScope (topS 4), [], []⟩
def d_at_is_tuple : He.DefD := ⟨("is_tuple", none), "is_tuple", "is_tuple", defArgs (topS 5), defBody (topS 5), defScope (topS 5), [], []⟩
def d_at_ascends : He.DefD := ⟨("ascends", none), "ascends", "ascends", defArgs (topS 6), defBody (topS 6), defScope (topS 6), [], []⟩
def d_at_are_names : He.DefD := ⟨("are_names", none), "are_names", "are_names", defArgs (topS 7), defBody (topS 7), defScope (topS 7), [], []⟩
def d_at_is_machine : He.DefD := ⟨("is_machine", none), "is_machine", "is_machine", defArgs (topS 8), defBody (topS 8), defScope (topS 8), [], []⟩
def d_at_machine_fault : He.DefD := ⟨("machine_fault", none), "machine_fault", "machine_fault", defArgs (topS 9), defBody (topS 9), defScope (topS 9), [], []⟩
def d_at_are_numbers : He.DefD := ⟨("are_numbers", none), "are_numbers", "are_numbers", defArgs (topS 10), defBody (topS 10), defScope (topS 10), [], []⟩
def d_at_is_row : He.DefD := ⟨("is_row", none), "is_row", "is_row", defArgs (topS 11), defBody (topS 11), defScope (topS 11), [], []⟩
def d_at_need : He.DefD := ⟨("need", none), "need", "need", defArgs (topS 17), defBody (topS 17), defScope (topS 17), [], []⟩
def d_at_need_machine : He.DefD := ⟨("need_machine", none), "need_machine", "need_machine", defArgs (topS 18), defBody (topS 18), defScope (topS 18), [], []⟩
def d_at_need_look : He.DefD := ⟨("need_look", none), "need_look", "need_look", defArgs (topS 19), defBody (topS 19), defScope (topS 19), [], []⟩
def d_at_answer_at : He.DefD := ⟨("answer_at", none), "answer_at", "answer_at", defArgs (topS 21), defBody (topS 21), defScope (topS 21), [], []⟩
def d_at_come_to : He.DefD := ⟨("come_to", none), "come_to", "come_to", defArgs (topS 22), defBody (topS 22), defScope (topS 22), [], []⟩
def d_at_least_rows : He.DefD := ⟨("least_rows", none), "least_rows", "least_rows", defArgs (topS 24), defBody (topS 24), defScope (topS 24), [], []⟩
def d_at_moves_past : He.DefD := ⟨("moves_past", none), "moves_past", "moves_past", defArgs (topS 26), defBody (topS 26), defScope (topS 26), [], []⟩
def d_at_least_look_age : He.DefD := ⟨("least_look_age", none), "least_look_age", "least_look_age", defArgs (topS 27), defBody (topS 27), defScope (topS 27), [], []⟩
def d_at_moving_walk : He.DefD := ⟨("moving_walk", none), "moving_walk", "moving_walk", defArgs (topS 28), defBody (topS 28), defScope (topS 28), [], []⟩
def d_at_walk_past : He.DefD := ⟨("walk_past", none), "walk_past", "walk_past", defArgs (topS 29), defBody (topS 29), defScope (topS 29), [], []⟩
def d_at_is_moving : He.DefD := ⟨("is_moving", none), "is_moving", "is_moving", defArgs (topS 30), defBody (topS 30), defScope (topS 30), [], []⟩
def d_at_is_past : He.DefD := ⟨("is_past", none), "is_past", "is_past", defArgs (topS 31), defBody (topS 31), defScope (topS 31), [], []⟩
def d_at_least_age_of : He.DefD := ⟨("least_age_of", none), "least_age_of", "least_age_of", defArgs (topS 32), defBody (topS 32), defScope (topS 32), [], []⟩
def d_at_longest_stay : He.DefD := ⟨("longest_stay", none), "longest_stay", "longest_stay", defArgs (topS 33), defBody (topS 33), defScope (topS 33), [], []⟩
def d_at_other_states : He.DefD := ⟨("other_states", none), "other_states", "other_states", defArgs (topS 34), defBody (topS 34), defScope (topS 34), [], []⟩
def d_at_leading_on : He.DefD := ⟨("leading_on", none), "leading_on", "leading_on", defArgs (topS 35), defBody (topS 35), defScope (topS 35), [], []⟩
def d_at_leaving_row : He.DefD := ⟨("leaving_row", none), "leaving_row", "leaving_row", defArgs (topS 36), defBody (topS 36), defScope (topS 36), [], []⟩
def d_at__law_feed : He.DefD := ⟨("_law_feed", none), "_law_feed", "_law_feed", defArgs (topS 38), defBody (topS 38), defScope (topS 38), [], []⟩
def d_at__law_draw : He.DefD := ⟨("_law_draw", none), "_law_draw", "_law_draw", defArgs (topS 39), defBody (topS 39), defScope (topS 39), [], []⟩
def d_at__law_any : He.DefD := ⟨("_law_any", none), "_law_any", "_law_any", defArgs (topS 40), defBody (topS 40), defScope (topS 40), [], []⟩
def d_at__law_same : He.DefD := ⟨("_law_same", none), "_law_same", "_law_same", defArgs (topS 41), defBody (topS 41), defScope (topS 41), [], []⟩
def d_at__law_name : He.DefD := ⟨("_law_name", none), "_law_name", "_law_name", defArgs (topS 42), defBody (topS 42), defScope (topS 42), [], []⟩
def d_at__law_names : He.DefD := ⟨("_law_names", none), "_law_names", "_law_names", defArgs (topS 43), defBody (topS 43), defScope (topS 43), [], []⟩
def d_at__law_move : He.DefD := ⟨("_law_move", none), "_law_move", "_law_move", defArgs (topS 44), defBody (topS 44), defScope (topS 44), [], []⟩
def d_at__law_box : He.DefD := ⟨("_law_box", none), "_law_box", "_law_box", defArgs (topS 45), defBody (topS 45), defScope (topS 45), [], []⟩
def d_at__law_ages : He.DefD := ⟨("_law_ages", none), "_law_ages", "_law_ages", defArgs (topS 46), defBody (topS 46), defScope (topS 46), [], []⟩
def d_at__law_come_from : He.DefD := ⟨("_law_come_from", none), "_law_come_from", "_law_come_from", defArgs (topS 47), defBody (topS 47), defScope (topS 47), [], []⟩
def d_at__law_is_way : He.DefD := ⟨("_law_is_way", none), "_law_is_way", "_law_is_way", defArgs (topS 48), defBody (topS 48), defScope (topS 48), [], []⟩
def d_at__law_gone : He.DefD := ⟨("_law_gone", none), "_law_gone", "_law_gone", defArgs (topS 49), defBody (topS 49), defScope (topS 49), [], []⟩
def d_at__law_is_walk : He.DefD := ⟨("_law_is_walk", none), "_law_is_walk", "_law_is_walk", defArgs (topS 50), defBody (topS 50), defScope (topS 50), [], []⟩
def d_at__law_way : He.DefD := ⟨("_law_way", none), "_law_way", "_law_way", defArgs (topS 51), defBody (topS 51), defScope (topS 51), [], []⟩
def d_at__law_things : He.DefD := ⟨("_law_things", none), "_law_things", "_law_things", defArgs (topS 52), defBody (topS 52), defScope (topS 52), [], []⟩
def d_at__law_are_walks_right : He.DefD := ⟨("_law_are_walks_right", none), "_law_are_walks_right", "_law_are_walks_right", defArgs (topS 53), defBody (topS 53), defScope (topS 53), [], []⟩
def d_at__law_long : He.DefD := ⟨("_law_long", none), "_law_long", "_law_long", defArgs (topS 54), defBody (topS 54), defScope (topS 54), [], []⟩
def d_at__law_are_long_right : He.DefD := ⟨("_law_are_long_right", none), "_law_are_long_right", "_law_are_long_right", defArgs (topS 55), defBody (topS 55), defScope (topS 55), [], []⟩
def d_at_law : He.DefD := ⟨("law", none), "law", "law", defArgs (topS 56), defBody (topS 56), defScope (topS 56), [], []⟩
def fnL : List He.DefD := [d_at_is_integer, d_at_is_number, d_at_is_name, d_at_is_tuple, d_at_ascends, d_at_are_names, d_at_is_machine, d_at_machine_fault, d_at_are_numbers, d_at_is_row, d_at_need, d_at_need_machine, d_at_need_look, d_at_answer_at, d_at_come_to, d_at_least_rows, d_at_moves_past, d_at_least_look_age, d_at_moving_walk, d_at_walk_past, d_at_is_moving, d_at_is_past, d_at_least_age_of, d_at_longest_stay, d_at_other_states, d_at_leading_on, d_at_leaving_row, d_at__law_feed, d_at__law_draw, d_at__law_any]
def fnM : List He.DefD := [d_at__law_same, d_at__law_name, d_at__law_names, d_at__law_move, d_at__law_box, d_at__law_ages, d_at__law_come_from, d_at__law_is_way, d_at__law_gone, d_at__law_is_walk, d_at__law_way, d_at__law_things, d_at__law_are_walks_right, d_at__law_long, d_at__law_are_long_right, d_at_law]
def fa0 : List He.Fa := [.glo "is_integer", .glo "is_number", .glo "is_name", .glo "is_tuple", .glo "ascends", .glo "are_names", .glo "is_machine", .glo "machine_fault", .glo "are_numbers", .glo "is_row", .glo "need", .glo "need_machine", .glo "need_look", .glo "answer_at", .glo "come_to", .glo "least_rows", .glo "moves_past", .glo "least_look_age", .glo "moving_walk", .glo "walk_past", .glo "is_moving", .glo "is_past", .glo "least_age_of", .glo "longest_stay", .glo "other_states", .glo "leading_on", .glo "leaving_row", .glo "_law_feed", .glo "_law_draw", .glo "_law_any"]
def fa1 : List He.Fa := [.glo "_law_same", .glo "_law_name", .glo "_law_names", .glo "_law_move", .glo "_law_box", .glo "_law_ages", .glo "_law_come_from", .glo "_law_is_way", .glo "_law_gone", .glo "_law_is_walk", .glo "_law_way", .glo "_law_things", .glo "_law_are_walks_right", .glo "_law_long", .glo "_law_are_long_right", .glo "law", .free "all", .free "any", .free "bool", .free "enumerate", .free "int", .free "isinstance", .free "len", .free "list", .free "max", .free "min", .free "range", .free "repr", .free "reversed", .free "sorted"]
def fa2 : List He.Fa := [.free "str", .free "tuple", .free "zip", .str "LOWERCASE" "abcdefghijklmnopqrstuvwxyz"]
def faL : List He.Fa := fa0 ++ fa1 ++ fa2
def fnA : List He.DefD := fnL ++ fnM
def lo0 : List PySem.Str := ["LOWERCASE", "CopyError", "BookError", "NotUsable", "is_integer", "is_number", "is_name", "is_tuple", "ascends", "are_names", "is_machine", "machine_fault", "are_numbers", "is_row", "need", "need_machine", "need_look", "answer_at", "come_to", "least_rows", "moves_past", "least_look_age", "moving_walk", "walk_past", "is_moving", "is_past", "least_age_of", "longest_stay", "other_states", "leading_on"]
def lo1 : List PySem.Str := ["leaving_row", "_law_feed", "_law_draw", "_law_any", "_law_same", "_law_name", "_law_names", "_law_move", "_law_box", "_law_ages", "_law_come_from", "_law_is_way", "_law_gone", "_law_is_walk", "_law_way", "_law_things", "_law_are_walks_right", "_law_long", "_law_are_long_right"]
def loL : List PySem.Str := lo0 ++ lo1
abbrev RR : PySem.W.OpenRow := PySem.W.OpenLaw.row PySem.Challenge.rw_actasone_k08_whole_looks_that_move
abbrev hk : PySem.W.Hook := He.hookD 4 faL fnA
def ob (s : PySem.W.SharedT) : He.AlD := He.obsDG 4 faL fnA (HandSHeadRun.getT s)
theorem ob_eq (s : PySem.W.SharedT) : ob s = hk.obs s.abs := He.obsDG_eq (HandSHeadRun.getT_eq s)
theorem run (w : World) : HandSHeadRun.RunEq RR (PySem.W.view RR.prog [56]) hk ob 4000 loL w := by
  intro os
  kernel_rfl
end K8

set_option Elab.async false
set_option linter.all false
set_option maxRecDepth 100000
set_option maxHeartbeats 1000000
namespace K8
open PySem PySem.Spec PyProof.Rows L2 PD

abbrev s_is_integer : Stmt := topS 2
theorem sc_is_integer : FnScope ["thing"] ["thing"] (defScope s_is_integer) := ⟨rfl, rfl, rfl, by decide +kernel, rfl, by decide +kernel, by decide +kernel⟩
theorem ok_is_integer {P : Program} {w : World} {K : PySem.W.Frag} {mg : Str → Option Value} {base : Heap} {f : Addr} {fd : FuncData} (F : Fun K "is_integer" "is_integer" s_is_integer f fd) (hm : mg "is_integer" = some (.ref f)) (m_bool : mg "bool" = none) (m_int : mg "int" = none) (m_isinstance : mg "isinstance" = none) :
    Cd P w K mg base 1 "is_integer" ["thing"] [] D_is_integer := by
  refine Cd.of (k := 0) (N := ["thing"]) (bf := B_is_integer) F hm sc_is_integer (fun _ _ _ _ _ _ us hl => match us, hl with | [_], _ => rfl) (fun _ hq => nomatch hq) (fun cdv A outer s H hr hgd Γ => ?_)
  have hN := sc_is_integer.nd
  have hu64 : (A.deeper (envOfC "is_integer" (defScope s_is_integer) s.heap.objs.size f cdv)).units + 64 < cLine := by have := hr.un; omega
  have hu65 : (A.deeper (envOfC "is_integer" (defScope s_is_integer) s.heap.objs.size f cdv)).units + 65 < cLine := by have := hr.un; omega
  have hu1 : (A.deeper (envOfC "is_integer" (defScope s_is_integer) s.heap.objs.size f cdv)).units + 1 < cLine := by have := hr.un; omega
  exact (pss_oneD (ps_retD (pd_and (pd_isi (T := "int") (by simp) (p1_n 0 (pv 0)) (by rfl) m_isinstance (by rfl) m_int (by decide +kernel)) (pd_one (pd_not (pd_isi (T := "bool") (by simp) (p1_n 0 (pv 0)) (by rfl) m_isinstance (by rfl) m_bool (by decide +kernel)))))))
abbrev s_is_number : Stmt := topS 3
theorem sc_is_number : FnScope ["thing"] ["thing"] (defScope s_is_number) := ⟨rfl, rfl, rfl, by decide +kernel, rfl, by decide +kernel, by decide +kernel⟩
theorem ok_is_number {P : Program} {w : World} {K : PySem.W.Frag} {mg : Str → Option Value} {base : Heap} {f : Addr} {fd : FuncData} (F : Fun K "is_number" "is_number" s_is_number f fd) (hm : mg "is_number" = some (.ref f)) (c_is_integer : Cd P w K mg base 1 "is_integer" ["thing"] [] D_is_integer) :
    Cd P w K mg base 2 "is_number" ["thing"] [] D_is_number := by
  refine Cd.of (k := 1) (N := ["thing"]) (bf := B_is_number) F hm sc_is_number (fun _ _ _ _ _ _ us hl => match us, hl with | [_], _ => rfl) (fun _ hq => nomatch hq) (fun cdv A outer s H hr hgd Γ => ?_)
  have hN := sc_is_number.nd
  have hu64 : (A.deeper (envOfC "is_number" (defScope s_is_number) s.heap.objs.size f cdv)).units + 64 < cLine := by have := hr.un; omega
  have hu65 : (A.deeper (envOfC "is_number" (defScope s_is_number) s.heap.objs.size f cdv)).units + 65 < cLine := by have := hr.un; omega
  have hu1 : (A.deeper (envOfC "is_number" (defScope s_is_number) s.heap.objs.size f cdv)).units + 1 < cLine := by have := hr.un; omega
  exact (pss_oneD (ps_retD (pd_and (pd_cd c_is_integer (hr.mono (by decide)) hgd (by rfl) (pad_cons (pd_var 0 (pv 0)) pad_nil)) (pd_one (c_ge (p2_ne 0 (pv 0) pd_int)).v))))
abbrev s_is_name : Stmt := topS 4
theorem sc_is_name : FnScope ["thing", "letter"] ["thing"] (defScope s_is_name) := ⟨rfl, rfl, rfl, by decide +kernel, rfl, by decide +kernel, by decide +kernel⟩
theorem ok_is_name {P : Program} {w : World} {K : PySem.W.Frag} {mg : Str → Option Value} {base : Heap} {f : Addr} {fd : FuncData} (F : Fun K "is_name" "is_name" s_is_name f fd) (hm : mg "is_name" = some (.ref f)) (m_all : mg "all" = none) (m_isinstance : mg "isinstance" = none) (m_len : mg "len" = none) (m_str : mg "str" = none) {t_LOWERCASE : Tok} (g_LOWERCASE : mg "LOWERCASE" = some (.str "abcdefghijklmnopqrstuvwxyz" t_LOWERCASE)) :
    Cd P w K mg base 1 "is_name" ["thing"] [] D_is_name := by
  refine Cd.of (k := 0) (N := ["thing", "letter"]) (bf := B_is_name) F hm sc_is_name (fun _ _ _ _ _ _ us hl => match us, hl with | [_], _ => rfl) (fun _ hq => nomatch hq) (fun cdv A outer s H hr hgd Γ => ?_)
  have hN := sc_is_name.nd
  have hu64 : (A.deeper (envOfC "is_name" (defScope s_is_name) s.heap.objs.size f cdv)).units + 64 < cLine := by have := hr.un; omega
  have hu65 : (A.deeper (envOfC "is_name" (defScope s_is_name) s.heap.objs.size f cdv)).units + 65 < cLine := by have := hr.un; omega
  have hu1 : (A.deeper (envOfC "is_name" (defScope s_is_name) s.heap.objs.size f cdv)).units + 1 < cLine := by have := hr.un; omega
  exact (pss_consD (ps_ifD ((pwd_or (ptd_not (pt_tru (p1_e (pd_isi (T := "str") (by simp) (p1_n 0 (pv 0)) (by rfl) m_isinstance (by rfl) m_str (by decide +kernel))))) (pwd_or (c_eq hu64 (p2_ne 0 (pv 0) pd_str)).t (pw_one (ptd_not (ptd_chain op_le op_le pd_int (pd_len (p1_n 0 (pv 0)) (by rfl) m_len) pd_int)))))).pt (pss_oneD (ps_retD pd_bl)) pss_nilD) (pss_oneD (ps_retD (pd_all rfl (p1_e (pd_lc rfl hN (own := [("letter", 1)]) (pid_str (pd_var 0 (pv 0))) (blkOk_by (by kernel_rfl)) (fun _ _ _ _ _ => (pgd_name hN (i := 1) rfl (.inl rfl))) (fun _ _ _ _ _ => ptsd_nil) (fun _ _ _ _ _ => (c_in hu65 (p2_ne 1 (pv 1) (pd_glob (by rfl) g_LOWERCASE ⟨_, rfl⟩))).v))) (by rfl) m_all))))
abbrev s_is_tuple : Stmt := topS 5
theorem sc_is_tuple : FnScope ["thing", "many"] ["thing", "many"] (defScope s_is_tuple) := ⟨rfl, rfl, rfl, by decide +kernel, rfl, by decide +kernel, by decide +kernel⟩
theorem ok_is_tuple {P : Program} {w : World} {K : PySem.W.Frag} {mg : Str → Option Value} {base : Heap} {f : Addr} {fd : FuncData} (F : Fun K "is_tuple" "is_tuple" s_is_tuple f fd) (hm : mg "is_tuple" = some (.ref f)) (m_isinstance : mg "isinstance" = none) (m_len : mg "len" = none) (m_tuple : mg "tuple" = none) :
    Cd P w K mg base 1 "is_tuple" ["thing", "many"] [] D_is_tuple := by
  refine Cd.of (k := 0) (N := ["thing", "many"]) (bf := B_is_tuple) F hm sc_is_tuple (fun _ _ _ _ _ _ us hl => match us, hl with | [_, _], _ => rfl) (fun _ hq => nomatch hq) (fun cdv A outer s H hr hgd Γ => ?_)
  have hN := sc_is_tuple.nd
  have hu64 : (A.deeper (envOfC "is_tuple" (defScope s_is_tuple) s.heap.objs.size f cdv)).units + 64 < cLine := by have := hr.un; omega
  have hu65 : (A.deeper (envOfC "is_tuple" (defScope s_is_tuple) s.heap.objs.size f cdv)).units + 65 < cLine := by have := hr.un; omega
  have hu1 : (A.deeper (envOfC "is_tuple" (defScope s_is_tuple) s.heap.objs.size f cdv)).units + 1 < cLine := by have := hr.un; omega
  exact (pss_oneD (ps_retD (pd_and (pd_isi (T := "tuple") (by simp) (p1_n 0 (pv 0)) (by rfl) m_isinstance (by rfl) m_tuple (by decide +kernel)) (pd_one (c_eq hu64 (p2_en 1 (pd_len (p1_n 0 (pv 0)) (by rfl) m_len) (pv 1))).v))))
abbrev s_ascends : Stmt := topS 6
theorem sc_ascends : FnScope ["things", "low", "high"] ["things"] (defScope s_ascends) := ⟨rfl, rfl, rfl, by decide +kernel, rfl, by decide +kernel, by decide +kernel⟩
theorem ok_ascends {P : Program} {w : World} {K : PySem.W.Frag} {mg : Str → Option Value} {base : Heap} {f : Addr} {fd : FuncData} (F : Fun K "ascends" "ascends" s_ascends f fd) (hm : mg "ascends" = some (.ref f)) (m_all : mg "all" = none) (m_zip : mg "zip" = none) :
    Cd P w K mg base 1 "ascends" ["things"] [] D_ascends := by
  refine Cd.of (k := 0) (N := ["things", "low", "high"]) (bf := B_ascends) F hm sc_ascends (fun _ _ _ _ _ _ us hl => match us, hl with | [_], _ => rfl) (fun _ hq => nomatch hq) (fun cdv A outer s H hr hgd Γ => ?_)
  have hN := sc_ascends.nd
  have hu64 : (A.deeper (envOfC "ascends" (defScope s_ascends) s.heap.objs.size f cdv)).units + 64 < cLine := by have := hr.un; omega
  have hu65 : (A.deeper (envOfC "ascends" (defScope s_ascends) s.heap.objs.size f cdv)).units + 65 < cLine := by have := hr.un; omega
  have hu1 : (A.deeper (envOfC "ascends" (defScope s_ascends) s.heap.objs.size f cdv)).units + 1 < cLine := by have := hr.un; omega
  exact (pss_oneD (ps_retD (pd_all rfl (p1_e (pd_lc rfl hN (own := [("low", 1), ("high", 2)]) (pid_zip (pd_var 0 (pv 0)) (pd_cutN 0 (pv 0) (pod_some pd_int) pod_none) (by rfl) m_zip) (blkOk_by (by kernel_rfl)) (fun _ _ _ _ _ => (pgd_tup rfl (pgs_consD (pgd_name hN (i := 1) rfl (.inl rfl)) (pgs_consD (pgd_name hN (i := 2) rfl (.inl rfl)) pgs_nilD)) rfl)) (fun _ _ _ _ _ => ptsd_nil) (fun _ _ _ _ _ => (c_lt (p2_nn 1 2 (pv 1) (pv 2))).v))) (by rfl) m_all)))
abbrev s_are_names : Stmt := topS 7
theorem sc_are_names : FnScope ["thing", "least", "name"] ["thing", "least"] (defScope s_are_names) := ⟨rfl, rfl, rfl, by decide +kernel, rfl, by decide +kernel, by decide +kernel⟩
theorem ok_are_names {P : Program} {w : World} {K : PySem.W.Frag} {mg : Str → Option Value} {base : Heap} {f : Addr} {fd : FuncData} (F : Fun K "are_names" "are_names" s_are_names f fd) (hm : mg "are_names" = some (.ref f)) (m_all : mg "all" = none) (m_isinstance : mg "isinstance" = none) (m_len : mg "len" = none) (m_tuple : mg "tuple" = none) (c_ascends : Cd P w K mg base 1 "ascends" ["things"] [] D_ascends) (c_is_name : Cd P w K mg base 1 "is_name" ["thing"] [] D_is_name) :
    Cd P w K mg base 2 "are_names" ["thing", "least"] [] D_are_names := by
  refine Cd.of (k := 1) (N := ["thing", "least", "name"]) (bf := B_are_names) F hm sc_are_names (fun _ _ _ _ _ _ us hl => match us, hl with | [_, _], _ => rfl) (fun _ hq => nomatch hq) (fun cdv A outer s H hr hgd Γ => ?_)
  have hN := sc_are_names.nd
  have hu64 : (A.deeper (envOfC "are_names" (defScope s_are_names) s.heap.objs.size f cdv)).units + 64 < cLine := by have := hr.un; omega
  have hu65 : (A.deeper (envOfC "are_names" (defScope s_are_names) s.heap.objs.size f cdv)).units + 65 < cLine := by have := hr.un; omega
  have hu1 : (A.deeper (envOfC "are_names" (defScope s_are_names) s.heap.objs.size f cdv)).units + 1 < cLine := by have := hr.un; omega
  exact (pss_consD (ps_ifD ((pwd_or (ptd_not (pt_tru (p1_e (pd_isi (T := "tuple") (by simp) (p1_n 0 (pv 0)) (by rfl) m_isinstance (by rfl) m_tuple (by decide +kernel))))) (pw_one (c_lt (p2_en 1 (pd_len (p1_n 0 (pv 0)) (by rfl) m_len) (pv 1))).t))).pt (pss_oneD (ps_retD pd_bl)) pss_nilD) (pss_oneD (ps_retD (pd_and (pd_all rfl (p1_e (pd_lc rfl hN (own := [("name", 2)]) (pid_val (pd_var 0 (pv 0))) (blkOk_by (by kernel_rfl)) (fun _ _ _ _ _ => (pgd_name hN (i := 2) rfl (.inl rfl))) (fun _ _ _ _ _ => ptsd_nil) (fun _ _ _ _ _ => (pd_cd c_is_name (hr.mono (by decide)) hgd (by rfl) (pad_cons (pd_var 2 (pv 2)) pad_nil))))) (by rfl) m_all) (pd_one (pd_cd c_ascends (hr.mono (by decide)) hgd (by rfl) (pad_cons (pd_var 0 (pv 0)) pad_nil)))))))
abbrev s_is_machine : Stmt := topS 8
theorem sc_is_machine : FnScope ["thing"] ["thing"] (defScope s_is_machine) := ⟨rfl, rfl, rfl, by decide +kernel, rfl, by decide +kernel, by decide +kernel⟩
theorem ok_is_machine {P : Program} {w : World} {K : PySem.W.Frag} {mg : Str → Option Value} {base : Heap} {f : Addr} {fd : FuncData} (F : Fun K "is_machine" "is_machine" s_is_machine f fd) (hm : mg "is_machine" = some (.ref f)) (c_machine_fault : Cd P w K mg base 4 "machine_fault" ["thing"] [] D_machine_fault) :
    Cd P w K mg base 5 "is_machine" ["thing"] [] D_is_machine := by
  refine Cd.of (k := 4) (N := ["thing"]) (bf := B_is_machine) F hm sc_is_machine (fun _ _ _ _ _ _ us hl => match us, hl with | [_], _ => rfl) (fun _ hq => nomatch hq) (fun cdv A outer s H hr hgd Γ => ?_)
  have hN := sc_is_machine.nd
  have hu64 : (A.deeper (envOfC "is_machine" (defScope s_is_machine) s.heap.objs.size f cdv)).units + 64 < cLine := by have := hr.un; omega
  have hu65 : (A.deeper (envOfC "is_machine" (defScope s_is_machine) s.heap.objs.size f cdv)).units + 65 < cLine := by have := hr.un; omega
  have hu1 : (A.deeper (envOfC "is_machine" (defScope s_is_machine) s.heap.objs.size f cdv)).units + 1 < cLine := by have := hr.un; omega
  exact (pss_oneD (ps_retD (c_isN (p1_e (pd_cd c_machine_fault (hr.mono (by decide)) hgd (by rfl) (pad_cons (pd_var 0 (pv 0)) pad_nil)))).v))
abbrev s_machine_fault : Stmt := topS 9
theorem sc_machine_fault : FnScope ["thing", "letters", "looks", "moves", "answers", "state", "row"] ["thing"] (defScope s_machine_fault) := ⟨rfl, rfl, rfl, by decide +kernel, rfl, by decide +kernel, by decide +kernel⟩
theorem ok_machine_fault {P : Program} {w : World} {K : PySem.W.Frag} {mg : Str → Option Value} {base : Heap} {f : Addr} {fd : FuncData} (F : Fun K "machine_fault" "machine_fault" s_machine_fault f fd) (hm : mg "machine_fault" = some (.ref f)) (m_enumerate : mg "enumerate" = none) (m_isinstance : mg "isinstance" = none) (m_len : mg "len" = none) (m_max : mg "max" = none) (m_tuple : mg "tuple" = none) (c_are_names : Cd P w K mg base 2 "are_names" ["thing", "least"] [] D_are_names) (c_are_numbers : Cd P w K mg base 3 "are_numbers" ["thing", "many"] [] D_are_numbers) (c_is_tuple : Cd P w K mg base 1 "is_tuple" ["thing", "many"] [] D_is_tuple) :
    Cd P w K mg base 4 "machine_fault" ["thing"] [] D_machine_fault := by
  refine Cd.of (k := 3) (N := ["thing", "letters", "looks", "moves", "answers", "state", "row"]) (bf := B_machine_fault) F hm sc_machine_fault (fun _ _ _ _ _ _ us hl => match us, hl with | [_], _ => rfl) (fun _ hq => nomatch hq) (fun cdv A outer s H hr hgd Γ => ?_)
  have hN := sc_machine_fault.nd
  have hu64 : (A.deeper (envOfC "machine_fault" (defScope s_machine_fault) s.heap.objs.size f cdv)).units + 64 < cLine := by have := hr.un; omega
  have hu65 : (A.deeper (envOfC "machine_fault" (defScope s_machine_fault) s.heap.objs.size f cdv)).units + 65 < cLine := by have := hr.un; omega
  have hu1 : (A.deeper (envOfC "machine_fault" (defScope s_machine_fault) s.heap.objs.size f cdv)).units + 1 < cLine := by have := hr.un; omega
  exact (pss_consD (ps_ifD (ptd_not (pt_tru (p1_e (pd_cd c_is_tuple (hr.mono (by decide)) hgd (by rfl) (pad_cons (pd_var 0 (pv 0)) (pad_cons pd_int pad_nil)))))) (pss_oneD (ps_retD (pd_tup (pad_cons pd_str (pad_cons (pd_neg pd_int) pad_nil))))) pss_nilD) (pss_consD (ps_asgD (pd_var 0 (pv 0)) (pgd_tup rfl (pgs_consD (pgd_name hN (i := 1) rfl (.inl rfl)) (pgs_consD (pgd_name hN (i := 2) rfl (.inl rfl)) (pgs_consD (pgd_name hN (i := 3) rfl (.inl rfl)) (pgs_consD (pgd_name hN (i := 4) rfl (.inl rfl)) pgs_nilD)))) rfl)) (pss_consD (ps_ifD (ptd_not (pt_tru (p1_e (pd_cd c_are_names (hr.mono (by decide)) hgd (by rfl) (pad_cons (pd_var 1 (pv 1)) (pad_cons pd_int pad_nil)))))) (pss_oneD (ps_retD (pd_tup (pad_cons pd_str (pad_cons (pd_neg pd_int) pad_nil))))) pss_nilD) (pss_consD (ps_ifD (ptd_not (pt_tru (p1_e (pd_cd c_are_names (hr.mono (by decide)) hgd (by rfl) (pad_cons (pd_var 2 (pv 2)) (pad_cons pd_int pad_nil)))))) (pss_oneD (ps_retD (pd_tup (pad_cons pd_str (pad_cons (pd_neg pd_int) pad_nil))))) pss_nilD) (pss_consD (ps_ifD ((pwd_or (ptd_not (pt_tru (p1_e (pd_isi (T := "tuple") (by simp) (p1_n 3 (pv 3)) (by rfl) m_isinstance (by rfl) m_tuple (by decide +kernel))))) (pw_one (ptd_not (pt_tru (p1_n 3 (pv 3))))))).pt (pss_oneD (ps_retD (pd_tup (pad_cons pd_str (pad_cons (pd_neg pd_int) pad_nil))))) pss_nilD) (pss_consD (ps_forD PassesOwn.never rfl (pid_enum (pd_var 3 (pv 3)) (by rfl) m_enumerate) (pgd_tup rfl (pgs_consD (pgd_name hN (i := 5) rfl (.inl rfl)) (pgs_consD (pgd_name hN (i := 6) rfl (.inl rfl)) pgs_nilD)) rfl) (pss_oneD (ps_ifD ((pwd_or (ptd_not (pt_tru (p1_e (pd_cd c_are_numbers (hr.mono (by decide)) hgd (by rfl) (pad_cons (pd_var 6 (pv 6)) (pad_cons (pd_len (p1_n 1 (pv 1)) (by rfl) m_len) pad_nil)))))) (pw_one (c_ge (p2_ee (pd_max hr rfl (p1_n 6 (pv 6)) (by rfl) m_max) (pd_len (p1_n 3 (pv 3)) (by rfl) m_len))).t))).pt (pss_oneD (ps_retD (pd_tup (pad_cons pd_str (pad_cons (pd_var 5 (pv 5)) pad_nil))))) pss_nilD))) (pss_consD (ps_ifD (ptd_not (pt_tru (p1_e (pd_cd c_is_tuple (hr.mono (by decide)) hgd (by rfl) (pad_cons (pd_var 4 (pv 4)) (pad_cons (pd_len (p1_n 3 (pv 3)) (by rfl) m_len) pad_nil)))))) (pss_oneD (ps_retD (pd_tup (pad_cons pd_str (pad_cons (pd_neg pd_int) pad_nil))))) pss_nilD) (pss_consD (ps_forD PassesOwn.never rfl (pid_enum (pd_var 4 (pv 4)) (by rfl) m_enumerate) (pgd_tup rfl (pgs_consD (pgd_name hN (i := 5) rfl (.inl rfl)) (pgs_consD (pgd_name hN (i := 6) rfl (.inl rfl)) pgs_nilD)) rfl) (pss_oneD (ps_ifD (ptd_not (pt_tru (p1_e (pd_cd c_are_numbers (hr.mono (by decide)) hgd (by rfl) (pad_cons (pd_var 6 (pv 6)) (pad_cons (pd_len (p1_n 2 (pv 2)) (by rfl) m_len) pad_nil)))))) (pss_oneD (ps_retD (pd_tup (pad_cons pd_str (pad_cons (pd_var 5 (pv 5)) pad_nil))))) pss_nilD))) (pss_oneD (ps_retD pd_non))))))))))
abbrev s_are_numbers : Stmt := topS 10
theorem sc_are_numbers : FnScope ["thing", "many", "number"] ["thing", "many"] (defScope s_are_numbers) := ⟨rfl, rfl, rfl, by decide +kernel, rfl, by decide +kernel, by decide +kernel⟩
theorem ok_are_numbers {P : Program} {w : World} {K : PySem.W.Frag} {mg : Str → Option Value} {base : Heap} {f : Addr} {fd : FuncData} (F : Fun K "are_numbers" "are_numbers" s_are_numbers f fd) (hm : mg "are_numbers" = some (.ref f)) (m_all : mg "all" = none) (c_is_number : Cd P w K mg base 2 "is_number" ["thing"] [] D_is_number) (c_is_tuple : Cd P w K mg base 1 "is_tuple" ["thing", "many"] [] D_is_tuple) :
    Cd P w K mg base 3 "are_numbers" ["thing", "many"] [] D_are_numbers := by
  refine Cd.of (k := 2) (N := ["thing", "many", "number"]) (bf := B_are_numbers) F hm sc_are_numbers (fun _ _ _ _ _ _ us hl => match us, hl with | [_, _], _ => rfl) (fun _ hq => nomatch hq) (fun cdv A outer s H hr hgd Γ => ?_)
  have hN := sc_are_numbers.nd
  have hu64 : (A.deeper (envOfC "are_numbers" (defScope s_are_numbers) s.heap.objs.size f cdv)).units + 64 < cLine := by have := hr.un; omega
  have hu65 : (A.deeper (envOfC "are_numbers" (defScope s_are_numbers) s.heap.objs.size f cdv)).units + 65 < cLine := by have := hr.un; omega
  have hu1 : (A.deeper (envOfC "are_numbers" (defScope s_are_numbers) s.heap.objs.size f cdv)).units + 1 < cLine := by have := hr.un; omega
  exact (pss_oneD (ps_retD (pd_and (pd_cd c_is_tuple (hr.mono (by decide)) hgd (by rfl) (pad_cons (pd_var 0 (pv 0)) (pad_cons (pd_var 1 (pv 1)) pad_nil))) (pd_one (pd_all rfl (p1_e (pd_lc rfl hN (own := [("number", 2)]) (pid_val (pd_var 0 (pv 0))) (blkOk_by (by kernel_rfl)) (fun _ _ _ _ _ => (pgd_name hN (i := 2) rfl (.inl rfl))) (fun _ _ _ _ _ => ptsd_nil) (fun _ _ _ _ _ => (pd_cd c_is_number (hr.mono (by decide)) hgd (by rfl) (pad_cons (pd_var 2 (pv 2)) pad_nil))))) (by rfl) m_all)))))
abbrev s_is_row : Stmt := topS 11
theorem sc_is_row : FnScope ["machine", "thing", "letter"] ["machine", "thing"] (defScope s_is_row) := ⟨rfl, rfl, rfl, by decide +kernel, rfl, by decide +kernel, by decide +kernel⟩
theorem ok_is_row {P : Program} {w : World} {K : PySem.W.Frag} {mg : Str → Option Value} {base : Heap} {f : Addr} {fd : FuncData} (F : Fun K "is_row" "is_row" s_is_row f fd) (hm : mg "is_row" = some (.ref f)) (m_all : mg "all" = none) (m_isinstance : mg "isinstance" = none) (m_tuple : mg "tuple" = none) :
    Cd P w K mg base 1 "is_row" ["machine", "thing"] [] D_is_row := by
  refine Cd.of (k := 0) (N := ["machine", "thing", "letter"]) (bf := B_is_row) F hm sc_is_row (fun _ _ _ _ _ _ us hl => match us, hl with | [_, _], _ => rfl) (fun _ hq => nomatch hq) (fun cdv A outer s H hr hgd Γ => ?_)
  have hN := sc_is_row.nd
  have hu64 : (A.deeper (envOfC "is_row" (defScope s_is_row) s.heap.objs.size f cdv)).units + 64 < cLine := by have := hr.un; omega
  have hu65 : (A.deeper (envOfC "is_row" (defScope s_is_row) s.heap.objs.size f cdv)).units + 65 < cLine := by have := hr.un; omega
  have hu1 : (A.deeper (envOfC "is_row" (defScope s_is_row) s.heap.objs.size f cdv)).units + 1 < cLine := by have := hr.un; omega
  exact (pss_oneD (ps_retD (pd_and (pd_isi (T := "tuple") (by simp) (p1_n 1 (pv 1)) (by rfl) m_isinstance (by rfl) m_tuple (by decide +kernel)) (pd_one (pd_all rfl (p1_e (pd_lc rfl hN (own := [("letter", 2)]) (pid_val (pd_var 1 (pv 1))) (blkOk_by (by kernel_rfl)) (fun _ _ _ _ _ => (pgd_name hN (i := 2) rfl (.inl rfl))) (fun _ _ _ _ _ => ptsd_nil) (fun _ _ _ _ _ => (c_in hu65 (p2_ne 2 (pv 2) (pd_sub hu1 (p2_ne 0 (pv 0) pd_int) (fun _ _ => rfl) (fun _ _ => rfl)))).v))) (by rfl) m_all)))))
abbrev s_need : Stmt := topS 17
theorem sc_need : FnScope ["holds", "word"] ["holds", "word"] (defScope s_need) := ⟨rfl, rfl, rfl, by decide +kernel, rfl, by decide +kernel, by decide +kernel⟩
theorem ok_need {P : Program} {w : World} {K : PySem.W.Frag} {mg : Str → Option Value} {base : Heap} {f : Addr} {fd : FuncData} (F : Fun K "need" "need" s_need f fd) (hm : mg "need" = some (.ref f)) :
    Cd P w K mg base 1 "need" ["holds", "word"] [] D_need := by
  refine Cd.of (k := 0) (N := ["holds", "word"]) (bf := B_need) F hm sc_need (fun _ _ _ _ _ _ us hl => match us, hl with | [_, _], _ => rfl) (fun _ hq => nomatch hq) (fun cdv A outer s H hr hgd Γ => ?_)
  have hN := sc_need.nd
  have hu64 : (A.deeper (envOfC "need" (defScope s_need) s.heap.objs.size f cdv)).units + 64 < cLine := by have := hr.un; omega
  have hu65 : (A.deeper (envOfC "need" (defScope s_need) s.heap.objs.size f cdv)).units + 65 < cLine := by have := hr.un; omega
  have hu1 : (A.deeper (envOfC "need" (defScope s_need) s.heap.objs.size f cdv)).units + 1 < cLine := by have := hr.un; omega
  exact (pss_oneD (ps_ifD (ptd_not (pt_tru (p1_n 0 (pv 0)))) (pss_oneD ps_neverD) pss_nilD))
abbrev s_need_machine : Stmt := topS 18
theorem sc_need_machine : FnScope ["machine"] ["machine"] (defScope s_need_machine) := ⟨rfl, rfl, rfl, by decide +kernel, rfl, by decide +kernel, by decide +kernel⟩
theorem ok_need_machine {P : Program} {w : World} {K : PySem.W.Frag} {mg : Str → Option Value} {base : Heap} {f : Addr} {fd : FuncData} (F : Fun K "need_machine" "need_machine" s_need_machine f fd) (hm : mg "need_machine" = some (.ref f)) (c_is_machine : Cd P w K mg base 5 "is_machine" ["thing"] [] D_is_machine) (c_need : Cd P w K mg base 1 "need" ["holds", "word"] [] D_need) :
    Cd P w K mg base 6 "need_machine" ["machine"] [] D_need_machine := by
  refine Cd.of (k := 5) (N := ["machine"]) (bf := B_need_machine) F hm sc_need_machine (fun _ _ _ _ _ _ us hl => match us, hl with | [_], _ => rfl) (fun _ hq => nomatch hq) (fun cdv A outer s H hr hgd Γ => ?_)
  have hN := sc_need_machine.nd
  have hu64 : (A.deeper (envOfC "need_machine" (defScope s_need_machine) s.heap.objs.size f cdv)).units + 64 < cLine := by have := hr.un; omega
  have hu65 : (A.deeper (envOfC "need_machine" (defScope s_need_machine) s.heap.objs.size f cdv)).units + 65 < cLine := by have := hr.un; omega
  have hu1 : (A.deeper (envOfC "need_machine" (defScope s_need_machine) s.heap.objs.size f cdv)).units + 1 < cLine := by have := hr.un; omega
  exact (pss_oneD (ps_exprD (pd_cd c_need (hr.mono (by decide)) hgd (by rfl) (pad_cons (pd_cd c_is_machine (hr.mono (by decide)) hgd (by rfl) (pad_cons (pd_var 0 (pv 0)) pad_nil)) (pad_cons pd_str pad_nil)))))
abbrev s_need_look : Stmt := topS 19
theorem sc_need_look : FnScope ["machine", "look"] ["machine", "look"] (defScope s_need_look) := ⟨rfl, rfl, rfl, by decide +kernel, rfl, by decide +kernel, by decide +kernel⟩
theorem ok_need_look {P : Program} {w : World} {K : PySem.W.Frag} {mg : Str → Option Value} {base : Heap} {f : Addr} {fd : FuncData} (F : Fun K "need_look" "need_look" s_need_look f fd) (hm : mg "need_look" = some (.ref f)) (c_need : Cd P w K mg base 1 "need" ["holds", "word"] [] D_need) (c_need_machine : Cd P w K mg base 6 "need_machine" ["machine"] [] D_need_machine) :
    Cd P w K mg base 7 "need_look" ["machine", "look"] [] D_need_look := by
  refine Cd.of (k := 6) (N := ["machine", "look"]) (bf := B_need_look) F hm sc_need_look (fun _ _ _ _ _ _ us hl => match us, hl with | [_, _], _ => rfl) (fun _ hq => nomatch hq) (fun cdv A outer s H hr hgd Γ => ?_)
  have hN := sc_need_look.nd
  have hu64 : (A.deeper (envOfC "need_look" (defScope s_need_look) s.heap.objs.size f cdv)).units + 64 < cLine := by have := hr.un; omega
  have hu65 : (A.deeper (envOfC "need_look" (defScope s_need_look) s.heap.objs.size f cdv)).units + 65 < cLine := by have := hr.un; omega
  have hu1 : (A.deeper (envOfC "need_look" (defScope s_need_look) s.heap.objs.size f cdv)).units + 1 < cLine := by have := hr.un; omega
  exact (pss_consD (ps_exprD (pd_cd c_need_machine (hr.mono (by decide)) hgd (by rfl) (pad_cons (pd_var 0 (pv 0)) pad_nil))) (pss_oneD (ps_exprD (pd_cd c_need (hr.mono (by decide)) hgd (by rfl) (pad_cons (c_in hu65 (p2_ne 1 (pv 1) (pd_sub hu1 (p2_ne 0 (pv 0) pd_int) (fun _ _ => rfl) (fun _ _ => rfl)))).v (pad_cons pd_str pad_nil))))))
abbrev s_answer_at : Stmt := topS 21
theorem sc_answer_at : FnScope ["machine", "state", "look"] ["machine", "state", "look"] (defScope s_answer_at) := ⟨rfl, rfl, rfl, by decide +kernel, rfl, by decide +kernel, by decide +kernel⟩
theorem ok_answer_at {P : Program} {w : World} {K : PySem.W.Frag} {mg : Str → Option Value} {base : Heap} {f : Addr} {fd : FuncData} (F : Fun K "answer_at" "answer_at" s_answer_at f fd) (hm : mg "answer_at" = some (.ref f)) :
    Cd P w K mg base 1 "answer_at" ["machine", "state", "look"] [] D_answer_at := by
  refine Cd.of (k := 0) (N := ["machine", "state", "look"]) (bf := B_answer_at) F hm sc_answer_at (fun _ _ _ _ _ _ us hl => match us, hl with | [_, _, _], _ => rfl) (fun _ hq => nomatch hq) (fun cdv A outer s H hr hgd Γ => ?_)
  have hN := sc_answer_at.nd
  have hu64 : (A.deeper (envOfC "answer_at" (defScope s_answer_at) s.heap.objs.size f cdv)).units + 64 < cLine := by have := hr.un; omega
  have hu65 : (A.deeper (envOfC "answer_at" (defScope s_answer_at) s.heap.objs.size f cdv)).units + 65 < cLine := by have := hr.un; omega
  have hu1 : (A.deeper (envOfC "answer_at" (defScope s_answer_at) s.heap.objs.size f cdv)).units + 1 < cLine := by have := hr.un; omega
  exact (pss_oneD (ps_retD (pd_sub hu1 (p2_ee (pd_sub hu1 (p2_en 1 (pd_sub hu1 (p2_ne 0 (pv 0) pd_int) (fun _ _ => rfl) (fun _ _ => rfl)) (pv 1)) (fun _ _ => rfl) (fun _ _ => rfl)) (pd_idx (pd_sub hu1 (p2_ne 0 (pv 0) pd_int) (fun _ _ => rfl) (fun _ _ => rfl)) (pd_var 2 (pv 2)))) (fun _ _ => rfl) (fun _ _ => rfl))))
abbrev s_come_to : Stmt := topS 22
theorem sc_come_to : FnScope ["machine", "state", "row", "states", "letter"] ["machine", "state", "row"] (defScope s_come_to) := ⟨rfl, rfl, rfl, by decide +kernel, rfl, by decide +kernel, by decide +kernel⟩
theorem ok_come_to {P : Program} {w : World} {K : PySem.W.Frag} {mg : Str → Option Value} {base : Heap} {f : Addr} {fd : FuncData} (F : Fun K "come_to" "come_to" s_come_to f fd) (hm : mg "come_to" = some (.ref f)) (m_tuple : mg "tuple" = none) :
    Cd P w K mg base 1 "come_to" ["machine", "state", "row"] [] D_come_to := by
  refine Cd.of (k := 0) (N := ["machine", "state", "row", "states", "letter"]) (bf := B_come_to) F hm sc_come_to (fun _ _ _ _ _ _ us hl => match us, hl with | [_, _, _], _ => rfl) (fun _ hq => nomatch hq) (fun cdv A outer s H hr hgd Γ => ?_)
  have hN := sc_come_to.nd
  have hu64 : (A.deeper (envOfC "come_to" (defScope s_come_to) s.heap.objs.size f cdv)).units + 64 < cLine := by have := hr.un; omega
  have hu65 : (A.deeper (envOfC "come_to" (defScope s_come_to) s.heap.objs.size f cdv)).units + 65 < cLine := by have := hr.un; omega
  have hu1 : (A.deeper (envOfC "come_to" (defScope s_come_to) s.heap.objs.size f cdv)).units + 1 < cLine := by have := hr.un; omega
  exact (pss_consD (ps_asgD (pd_lst (pad_cons (pd_var 1 (pv 1)) pad_nil)) (pgd_name hN (i := 3) rfl (.inl rfl))) (pss_consD (ps_forD PassesOwn.never rfl (pid_val (pd_var 2 (pv 2))) (pgd_name hN (i := 4) rfl (.inl rfl)) (pss_oneD (ps_exprD (pd_append (pv 3) (pd_sub hu1 (p2_ee (pd_sub hu1 (p2_ee (pd_sub hu1 (p2_ne 0 (pv 0) pd_int) (fun _ _ => rfl) (fun _ _ => rfl)) (pd_sub hu1 (p2_ne 3 (pv 3) (pd_neg pd_int)) (fun _ _ => rfl) (fun _ _ => rfl))) (fun _ _ => rfl) (fun _ _ => rfl)) (pd_idx (pd_sub hu1 (p2_ne 0 (pv 0) pd_int) (fun _ _ => rfl) (fun _ _ => rfl)) (pd_var 4 (pv 4)))) (fun _ _ => rfl) (fun _ _ => rfl)))))) (pss_oneD (ps_retD (pd_tupleOf (p1_n 3 (pv 3)) (by rfl) m_tuple)))))
end K8

set_option Elab.async false
set_option linter.all false
set_option maxRecDepth 100000
set_option maxHeartbeats 1000000
namespace K8
open PySem PySem.Spec PyProof.Rows L2 PD

abbrev s_least_rows : Stmt := topS 24
theorem sc_least_rows : FnScope ["machine", "begin", "rows", "order", "k", "state", "letter", "late"] ["machine", "begin"] (defScope s_least_rows) := ⟨rfl, rfl, rfl, by decide +kernel, rfl, by decide +kernel, by decide +kernel⟩
theorem ok_least_rows {P : Program} {w : World} {K : PySem.W.Frag} {mg : Str → Option Value} {base : Heap} {f : Addr} {fd : FuncData} (F : Fun K "least_rows" "least_rows" s_least_rows f fd) (hm : mg "least_rows" = some (.ref f)) (m_len : mg "len" = none) (m_zip : mg "zip" = none) :
    Cd P w K mg base 1 "least_rows" ["machine", "begin"] [] D_least_rows := by
  refine Cd.of (k := 0) (N := ["machine", "begin", "rows", "order", "k", "state", "letter", "late"]) (bf := B_least_rows) F hm sc_least_rows (fun _ _ _ _ _ _ us hl => match us, hl with | [_, _], _ => rfl) (fun _ hq => nomatch hq) (fun cdv A outer s H hr hgd Γ => ?_)
  have hN := sc_least_rows.nd
  have hu64 : (A.deeper (envOfC "least_rows" (defScope s_least_rows) s.heap.objs.size f cdv)).units + 64 < cLine := by have := hr.un; omega
  have hu65 : (A.deeper (envOfC "least_rows" (defScope s_least_rows) s.heap.objs.size f cdv)).units + 65 < cLine := by have := hr.un; omega
  have hu1 : (A.deeper (envOfC "least_rows" (defScope s_least_rows) s.heap.objs.size f cdv)).units + 1 < cLine := by have := hr.un; omega
  exact (pss_consD (ps_asgD (pd_dic (pd_var 1 (pv 1)) (pd_tup pad_nil)) (pgd_name hN (i := 2) rfl (.inl rfl))) (pss_consD (ps_asgD (pd_lst (pad_cons (pd_var 1 (pv 1)) pad_nil)) (pgd_name hN (i := 3) rfl (.inl rfl))) (pss_consD (ps_asgD pd_int (pgd_name hN (i := 4) rfl (.inl rfl))) (pss_consD (ps_whileD 64 PassesOwn.never (c_lt (p2_ne 4 (pv 4) (pd_len (p1_n 3 (pv 3)) (by rfl) m_len))).t (pss_consD (ps_asgD (pd_sub hu1 (p2_nn 3 4 (pv 3) (pv 4)) (fun _ _ => rfl) (fun _ _ => rfl)) (pgd_name hN (i := 5) rfl (.inl rfl))) (pss_consD (ps_forD PassesOwn.never rfl (pid_zip (pd_sub hu1 (p2_ne 0 (pv 0) pd_int) (fun _ _ => rfl) (fun _ _ => rfl)) (pd_sub hu1 (p2_en 5 (pd_sub hu1 (p2_ne 0 (pv 0) pd_int) (fun _ _ => rfl) (fun _ _ => rfl)) (pv 5)) (fun _ _ => rfl) (fun _ _ => rfl)) (by rfl) m_zip) (pgd_tup rfl (pgs_consD (pgd_name hN (i := 6) rfl (.inl rfl)) (pgs_consD (pgd_name hN (i := 7) rfl (.inl rfl)) pgs_nilD)) rfl) (pss_oneD (ps_ifD (c_notIn hu65 (p2_nn 7 2 (pv 7) (pv 2))).t (pss_consD (ps_setKD hu1 (pv 2) (pd_add (p2_ee (pd_sub hu1 (p2_nn 2 5 (pv 2) (pv 5)) (fun _ _ => rfl) (fun _ _ => rfl)) (pd_tup (pad_cons (pd_var 6 (pv 6)) pad_nil)))) (pd_var 7 (pv 7))) (pss_oneD (ps_exprD (pd_append (pv 3) (pd_var 7 (pv 7)))))) pss_nilD))) (pss_oneD (ps_asgD (pd_add (p2_ne 4 (pv 4) pd_int)) (pgd_name hN (i := 4) rfl (.inl rfl))))))) (pss_oneD (ps_retVD (i := 2) (pv 2)))))))
abbrev s_moves_past : Stmt := topS 26
theorem sc_moves_past : FnScope ["machine", "look", "age"] ["machine", "look", "age"] (defScope s_moves_past) := ⟨rfl, rfl, rfl, by decide +kernel, rfl, by decide +kernel, by decide +kernel⟩
theorem ok_moves_past {P : Program} {w : World} {K : PySem.W.Frag} {mg : Str → Option Value} {base : Heap} {f : Addr} {fd : FuncData} (F : Fun K "moves_past" "moves_past" s_moves_past f fd) (hm : mg "moves_past" = some (.ref f)) (c_is_number : Cd P w K mg base 2 "is_number" ["thing"] [] D_is_number) (c_is_past : Cd P w K mg base 1 "is_past" ["least", "age"] [] D_is_past) (c_least_age_of : Cd P w K mg base 4 "least_age_of" ["machine", "look"] [] D_least_age_of) (c_need : Cd P w K mg base 1 "need" ["holds", "word"] [] D_need) (c_need_look : Cd P w K mg base 7 "need_look" ["machine", "look"] [] D_need_look) :
    Cd P w K mg base 8 "moves_past" ["machine", "look", "age"] [(["age", "look", "machine"], [2, 1, 0])] D_moves_past := by
  refine Cd.of (k := 7) (N := ["machine", "look", "age"]) (bf := B_moves_past) F hm sc_moves_past (fun _ _ _ _ _ _ us hl => match us, hl with | [_, _, _], _ => rfl) (fun q hq => by cases List.mem_singleton.mp hq; exact fun _ _ _ _ _ _ us hl => match us, hl with | [_, _, _], _ => rfl) (fun cdv A outer s H hr hgd Γ => ?_)
  have hN := sc_moves_past.nd
  have hu64 : (A.deeper (envOfC "moves_past" (defScope s_moves_past) s.heap.objs.size f cdv)).units + 64 < cLine := by have := hr.un; omega
  have hu65 : (A.deeper (envOfC "moves_past" (defScope s_moves_past) s.heap.objs.size f cdv)).units + 65 < cLine := by have := hr.un; omega
  have hu1 : (A.deeper (envOfC "moves_past" (defScope s_moves_past) s.heap.objs.size f cdv)).units + 1 < cLine := by have := hr.un; omega
  exact (pss_consD (ps_exprD (pd_cd c_need_look (hr.mono (by decide)) hgd (by rfl) (pad_cons (pd_var 0 (pv 0)) (pad_cons (pd_var 1 (pv 1)) pad_nil)))) (pss_consD (ps_exprD (pd_cd c_need (hr.mono (by decide)) hgd (by rfl) (pad_cons (pd_cd c_is_number (hr.mono (by decide)) hgd (by rfl) (pad_cons (pd_var 2 (pv 2)) pad_nil)) (pad_cons pd_str pad_nil)))) (pss_oneD (ps_retD (pd_cd c_is_past (hr.mono (by decide)) hgd (by rfl) (pad_cons (pd_cd c_least_age_of (hr.mono (by decide)) hgd (by rfl) (pad_cons (pd_var 0 (pv 0)) (pad_cons (pd_var 1 (pv 1)) pad_nil))) (pad_cons (pd_var 2 (pv 2)) pad_nil)))))))
abbrev s_least_look_age : Stmt := topS 27
theorem sc_least_look_age : FnScope ["machine", "look"] ["machine", "look"] (defScope s_least_look_age) := ⟨rfl, rfl, rfl, by decide +kernel, rfl, by decide +kernel, by decide +kernel⟩
theorem ok_least_look_age {P : Program} {w : World} {K : PySem.W.Frag} {mg : Str → Option Value} {base : Heap} {f : Addr} {fd : FuncData} (F : Fun K "least_look_age" "least_look_age" s_least_look_age f fd) (hm : mg "least_look_age" = some (.ref f)) (c_least_age_of : Cd P w K mg base 4 "least_age_of" ["machine", "look"] [] D_least_age_of) (c_need_look : Cd P w K mg base 7 "need_look" ["machine", "look"] [] D_need_look) :
    Cd P w K mg base 8 "least_look_age" ["machine", "look"] [(["look", "machine"], [1, 0])] D_least_look_age := by
  refine Cd.of (k := 7) (N := ["machine", "look"]) (bf := B_least_look_age) F hm sc_least_look_age (fun _ _ _ _ _ _ us hl => match us, hl with | [_, _], _ => rfl) (fun q hq => by cases List.mem_singleton.mp hq; exact fun _ _ _ _ _ _ us hl => match us, hl with | [_, _], _ => rfl) (fun cdv A outer s H hr hgd Γ => ?_)
  have hN := sc_least_look_age.nd
  have hu64 : (A.deeper (envOfC "least_look_age" (defScope s_least_look_age) s.heap.objs.size f cdv)).units + 64 < cLine := by have := hr.un; omega
  have hu65 : (A.deeper (envOfC "least_look_age" (defScope s_least_look_age) s.heap.objs.size f cdv)).units + 65 < cLine := by have := hr.un; omega
  have hu1 : (A.deeper (envOfC "least_look_age" (defScope s_least_look_age) s.heap.objs.size f cdv)).units + 1 < cLine := by have := hr.un; omega
  exact (pss_consD (ps_exprD (pd_cd c_need_look (hr.mono (by decide)) hgd (by rfl) (pad_cons (pd_var 0 (pv 0)) (pad_cons (pd_var 1 (pv 1)) pad_nil)))) (pss_oneD (ps_retD (pd_cd c_least_age_of (hr.mono (by decide)) hgd (by rfl) (pad_cons (pd_var 0 (pv 0)) (pad_cons (pd_var 1 (pv 1)) pad_nil))))))
abbrev s_walk_past : Stmt := topS 29
theorem sc_walk_past : FnScope ["machine", "look", "age", "state", "ahead"] ["machine", "look", "age"] (defScope s_walk_past) := ⟨rfl, rfl, rfl, by decide +kernel, rfl, by decide +kernel, by decide +kernel⟩
theorem ok_walk_past {P : Program} {w : World} {K : PySem.W.Frag} {mg : Str → Option Value} {base : Heap} {f : Addr} {fd : FuncData} (F : Fun K "walk_past" "walk_past" s_walk_past f fd) (hm : mg "walk_past" = some (.ref f)) (c_is_past : Cd P w K mg base 1 "is_past" ["least", "age"] [] D_is_past) (c_least_rows : Cd P w K mg base 1 "least_rows" ["machine", "begin"] [] D_least_rows) (c_leaving_row : Cd P w K mg base 3 "leaving_row" ["machine", "look", "state", "age"] [] D_leaving_row) (c_longest_stay : Cd P w K mg base 3 "longest_stay" ["machine", "look", "state"] [] D_longest_stay) :
    Cd P w K mg base 4 "walk_past" ["machine", "look", "age"] [] D_walk_past := by
  refine Cd.of (k := 3) (N := ["machine", "look", "age", "state", "ahead"]) (bf := B_walk_past) F hm sc_walk_past (fun _ _ _ _ _ _ us hl => match us, hl with | [_, _, _], _ => rfl) (fun _ hq => nomatch hq) (fun cdv A outer s H hr hgd Γ => ?_)
  have hN := sc_walk_past.nd
  have hu64 : (A.deeper (envOfC "walk_past" (defScope s_walk_past) s.heap.objs.size f cdv)).units + 64 < cLine := by have := hr.un; omega
  have hu65 : (A.deeper (envOfC "walk_past" (defScope s_walk_past) s.heap.objs.size f cdv)).units + 65 < cLine := by have := hr.un; omega
  have hu1 : (A.deeper (envOfC "walk_past" (defScope s_walk_past) s.heap.objs.size f cdv)).units + 1 < cLine := by have := hr.un; omega
  exact (pss_consD (ps_forD PassesOwn.never rfl (pid_items (pd_cd c_least_rows (hr.mono (by decide)) hgd (by rfl) (pad_cons (pd_var 0 (pv 0)) (pad_cons pd_int pad_nil)))) (pgd_tup rfl (pgs_consD (pgd_name hN (i := 3) rfl (.inl rfl)) (pgs_consD (pgd_name hN (i := 4) rfl (.inl rfl)) pgs_nilD)) rfl) (pss_oneD (ps_ifD (pt_tru (p1_e (pd_cd c_is_past (hr.mono (by decide)) hgd (by rfl) (pad_cons (pd_cd c_longest_stay (hr.mono (by decide)) hgd (by rfl) (pad_cons (pd_var 0 (pv 0)) (pad_cons (pd_var 1 (pv 1)) (pad_cons (pd_var 3 (pv 3)) pad_nil)))) (pad_cons (pd_var 2 (pv 2)) pad_nil))))) (pss_oneD (ps_retD (pd_tup (pad_cons (pd_var 4 (pv 4)) (pad_cons (pd_cd c_leaving_row (hr.mono (by decide)) hgd (by rfl) (pad_cons (pd_var 0 (pv 0)) (pad_cons (pd_var 1 (pv 1)) (pad_cons (pd_var 3 (pv 3)) (pad_cons (pd_var 2 (pv 2)) pad_nil))))) pad_nil))))) pss_nilD))) (pss_oneD (ps_retD pd_non)))
abbrev s_moving_walk : Stmt := topS 28
theorem sc_moving_walk : FnScope ["machine", "look", "age"] ["machine", "look", "age"] (defScope s_moving_walk) := ⟨rfl, rfl, rfl, by decide +kernel, rfl, by decide +kernel, by decide +kernel⟩
theorem ok_moving_walk {P : Program} {w : World} {K : PySem.W.Frag} {mg : Str → Option Value} {base : Heap} {f : Addr} {fd : FuncData} (F : Fun K "moving_walk" "moving_walk" s_moving_walk f fd) (hm : mg "moving_walk" = some (.ref f)) (c_is_number : Cd P w K mg base 2 "is_number" ["thing"] [] D_is_number) (c_need : Cd P w K mg base 1 "need" ["holds", "word"] [] D_need) (c_need_look : Cd P w K mg base 7 "need_look" ["machine", "look"] [] D_need_look) (c_walk_past : Cd P w K mg base 4 "walk_past" ["machine", "look", "age"] [] D_walk_past) :
    Cd P w K mg base 8 "moving_walk" ["machine", "look", "age"] [(["age", "look", "machine"], [2, 1, 0])] D_moving_walk := by
  refine Cd.of (k := 7) (N := ["machine", "look", "age"]) (bf := B_moving_walk) F hm sc_moving_walk (fun _ _ _ _ _ _ us hl => match us, hl with | [_, _, _], _ => rfl) (fun q hq => by cases List.mem_singleton.mp hq; exact fun _ _ _ _ _ _ us hl => match us, hl with | [_, _, _], _ => rfl) (fun cdv A outer s H hr hgd Γ => ?_)
  have hN := sc_moving_walk.nd
  have hu64 : (A.deeper (envOfC "moving_walk" (defScope s_moving_walk) s.heap.objs.size f cdv)).units + 64 < cLine := by have := hr.un; omega
  have hu65 : (A.deeper (envOfC "moving_walk" (defScope s_moving_walk) s.heap.objs.size f cdv)).units + 65 < cLine := by have := hr.un; omega
  have hu1 : (A.deeper (envOfC "moving_walk" (defScope s_moving_walk) s.heap.objs.size f cdv)).units + 1 < cLine := by have := hr.un; omega
  exact (pss_consD (ps_exprD (pd_cd c_need_look (hr.mono (by decide)) hgd (by rfl) (pad_cons (pd_var 0 (pv 0)) (pad_cons (pd_var 1 (pv 1)) pad_nil)))) (pss_consD (ps_exprD (pd_cd c_need (hr.mono (by decide)) hgd (by rfl) (pad_cons (pd_cd c_is_number (hr.mono (by decide)) hgd (by rfl) (pad_cons (pd_var 2 (pv 2)) pad_nil)) (pad_cons pd_str pad_nil)))) (pss_oneD (ps_retD (pd_cd c_walk_past (hr.mono (by decide)) hgd (by rfl) (pad_cons (pd_var 0 (pv 0)) (pad_cons (pd_var 1 (pv 1)) (pad_cons (pd_var 2 (pv 2)) pad_nil))))))))
abbrev s_is_moving : Stmt := topS 30
theorem sc_is_moving : FnScope ["machine", "look", "age", "thing", "ahead", "row", "state", "last", "answer", "late"] ["machine", "look", "age", "thing"] (defScope s_is_moving) := ⟨rfl, rfl, rfl, by decide +kernel, rfl, by decide +kernel, by decide +kernel⟩
theorem ok_is_moving {P : Program} {w : World} {K : PySem.W.Frag} {mg : Str → Option Value} {base : Heap} {f : Addr} {fd : FuncData} (F : Fun K "is_moving" "is_moving" s_is_moving f fd) (hm : mg "is_moving" = some (.ref f)) (m_all : mg "all" = none) (m_len : mg "len" = none) (c_answer_at : Cd P w K mg base 1 "answer_at" ["machine", "state", "look"] [] D_answer_at) (c_come_to : Cd P w K mg base 1 "come_to" ["machine", "state", "row"] [] D_come_to) (c_is_number : Cd P w K mg base 2 "is_number" ["thing"] [] D_is_number) (c_is_row : Cd P w K mg base 1 "is_row" ["machine", "thing"] [] D_is_row) (c_is_tuple : Cd P w K mg base 1 "is_tuple" ["thing", "many"] [] D_is_tuple) (c_need : Cd P w K mg base 1 "need" ["holds", "word"] [] D_need) (c_need_look : Cd P w K mg base 7 "need_look" ["machine", "look"] [] D_need_look) :
    Cd P w K mg base 8 "is_moving" ["machine", "look", "age", "thing"] [(["thing", "age", "look", "machine"], [3, 2, 1, 0])] D_is_moving := by
  refine Cd.of (k := 7) (N := ["machine", "look", "age", "thing", "ahead", "row", "state", "last", "answer", "late"]) (bf := B_is_moving) F hm sc_is_moving (fun _ _ _ _ _ _ us hl => match us, hl with | [_, _, _, _], _ => rfl) (fun q hq => by cases List.mem_singleton.mp hq; exact fun _ _ _ _ _ _ us hl => match us, hl with | [_, _, _, _], _ => rfl) (fun cdv A outer s H hr hgd Γ => ?_)
  have hN := sc_is_moving.nd
  have hu64 : (A.deeper (envOfC "is_moving" (defScope s_is_moving) s.heap.objs.size f cdv)).units + 64 < cLine := by have := hr.un; omega
  have hu65 : (A.deeper (envOfC "is_moving" (defScope s_is_moving) s.heap.objs.size f cdv)).units + 65 < cLine := by have := hr.un; omega
  have hu1 : (A.deeper (envOfC "is_moving" (defScope s_is_moving) s.heap.objs.size f cdv)).units + 1 < cLine := by have := hr.un; omega
  exact (pss_consD (ps_exprD (pd_cd c_need_look (hr.mono (by decide)) hgd (by rfl) (pad_cons (pd_var 0 (pv 0)) (pad_cons (pd_var 1 (pv 1)) pad_nil)))) (pss_consD (ps_exprD (pd_cd c_need (hr.mono (by decide)) hgd (by rfl) (pad_cons (pd_cd c_is_number (hr.mono (by decide)) hgd (by rfl) (pad_cons (pd_var 2 (pv 2)) pad_nil)) (pad_cons pd_str pad_nil)))) (pss_consD (ps_ifD ((pwd_or (ptd_not (pt_tru (p1_e (pd_cd c_is_tuple (hr.mono (by decide)) hgd (by rfl) (pad_cons (pd_var 3 (pv 3)) (pad_cons pd_int pad_nil)))))) (pwd_or (ptd_not (pt_tru (p1_e (pd_cd c_is_row (hr.mono (by decide)) hgd (by rfl) (pad_cons (pd_var 0 (pv 0)) (pad_cons (pd_sub hu1 (p2_ne 3 (pv 3) pd_int) (fun _ _ => rfl) (fun _ _ => rfl)) pad_nil)))))) (pw_one (ptd_not (pt_tru (p1_e (pd_cd c_is_row (hr.mono (by decide)) hgd (by rfl) (pad_cons (pd_var 0 (pv 0)) (pad_cons (pd_sub hu1 (p2_ne 3 (pv 3) pd_int) (fun _ _ => rfl) (fun _ _ => rfl)) pad_nil)))))))))).pt (pss_oneD (ps_retD pd_bl)) pss_nilD) (pss_consD (ps_asgD (pd_var 3 (pv 3)) (pgd_tup rfl (pgs_consD (pgd_name hN (i := 4) rfl (.inl rfl)) (pgs_consD (pgd_name hN (i := 5) rfl (.inl rfl)) pgs_nilD)) rfl)) (pss_consD (ps_ifD (c_le (p2_en 2 (pd_len (p1_n 5 (pv 5)) (by rfl) m_len) (pv 2))).t (pss_oneD (ps_retD pd_bl)) pss_nilD) (pss_consD (ps_asgD (pd_sub hu1 (p2_ee (pd_cd c_come_to (hr.mono (by decide)) hgd (by rfl) (pad_cons (pd_var 0 (pv 0)) (pad_cons pd_int (pad_cons (pd_var 4 (pv 4)) pad_nil)))) (pd_neg pd_int)) (fun _ _ => rfl) (fun _ _ => rfl)) (pgd_name hN (i := 6) rfl (.inl rfl))) (pss_consD (ps_asgD (pd_cut (pd_cd c_come_to (hr.mono (by decide)) hgd (by rfl) (pad_cons (pd_var 0 (pv 0)) (pad_cons (pd_var 6 (pv 6)) (pad_cons (pd_var 5 (pv 5)) pad_nil)))) (pod_some (pd_subI (p2_en 2 (pd_len (p1_n 5 (pv 5)) (by rfl) m_len) (pv 2)))) pod_none) (pgd_name hN (i := 7) rfl (.inl rfl))) (pss_consD (ps_asgD (pd_cd c_answer_at (hr.mono (by decide)) hgd (by rfl) (pad_cons (pd_var 0 (pv 0)) (pad_cons (pd_var 6 (pv 6)) (pad_cons (pd_var 1 (pv 1)) pad_nil)))) (pgd_name hN (i := 8) rfl (.inr rfl))) (pss_oneD (ps_retD (pd_all rfl (p1_e (pd_lc rfl hN (own := [("late", 9)]) (pid_val (pd_var 7 (pv 7))) (blkOk_by (by kernel_rfl)) (fun _ _ _ _ _ => (pgd_name hN (i := 9) rfl (.inl rfl))) (fun _ _ _ _ _ => ptsd_nil) (fun _ _ _ _ _ => (c_ne hu64 (p2_en 8 (pd_cd c_answer_at (hr.mono (by decide)) hgd (by rfl) (pad_cons (pd_var 0 (pv 0)) (pad_cons (pd_var 9 (pv 9)) (pad_cons (pd_var 1 (pv 1)) pad_nil)))) (pv 8))).v))) (by rfl) m_all)))))))))))
abbrev s_is_past : Stmt := topS 31
theorem sc_is_past : FnScope ["least", "age"] ["least", "age"] (defScope s_is_past) := ⟨rfl, rfl, rfl, by decide +kernel, rfl, by decide +kernel, by decide +kernel⟩
theorem ok_is_past {P : Program} {w : World} {K : PySem.W.Frag} {mg : Str → Option Value} {base : Heap} {f : Addr} {fd : FuncData} (F : Fun K "is_past" "is_past" s_is_past f fd) (hm : mg "is_past" = some (.ref f)) :
    Cd P w K mg base 1 "is_past" ["least", "age"] [] D_is_past := by
  refine Cd.of (k := 0) (N := ["least", "age"]) (bf := B_is_past) F hm sc_is_past (fun _ _ _ _ _ _ us hl => match us, hl with | [_, _], _ => rfl) (fun _ hq => nomatch hq) (fun cdv A outer s H hr hgd Γ => ?_)
  have hN := sc_is_past.nd
  have hu64 : (A.deeper (envOfC "is_past" (defScope s_is_past) s.heap.objs.size f cdv)).units + 64 < cLine := by have := hr.un; omega
  have hu65 : (A.deeper (envOfC "is_past" (defScope s_is_past) s.heap.objs.size f cdv)).units + 65 < cLine := by have := hr.un; omega
  have hu1 : (A.deeper (envOfC "is_past" (defScope s_is_past) s.heap.objs.size f cdv)).units + 1 < cLine := by have := hr.un; omega
  exact (pss_oneD (ps_retD (pd_or (c_isN (p1_n 0 (pv 0))).v (pd_one (c_lt (p2_nn 1 0 (pv 1) (pv 0))).v))))
abbrev s_least_age_of : Stmt := topS 32
theorem sc_least_age_of : FnScope ["machine", "look", "stays", "state"] ["machine", "look"] (defScope s_least_age_of) := ⟨rfl, rfl, rfl, by decide +kernel, rfl, by decide +kernel, by decide +kernel⟩
theorem ok_least_age_of {P : Program} {w : World} {K : PySem.W.Frag} {mg : Str → Option Value} {base : Heap} {f : Addr} {fd : FuncData} (F : Fun K "least_age_of" "least_age_of" s_least_age_of f fd) (hm : mg "least_age_of" = some (.ref f)) (m_max : mg "max" = none) (c_least_rows : Cd P w K mg base 1 "least_rows" ["machine", "begin"] [] D_least_rows) (c_longest_stay : Cd P w K mg base 3 "longest_stay" ["machine", "look", "state"] [] D_longest_stay) :
    Cd P w K mg base 4 "least_age_of" ["machine", "look"] [] D_least_age_of := by
  refine Cd.of (k := 3) (N := ["machine", "look", "stays", "state"]) (bf := B_least_age_of) F hm sc_least_age_of (fun _ _ _ _ _ _ us hl => match us, hl with | [_, _], _ => rfl) (fun _ hq => nomatch hq) (fun cdv A outer s H hr hgd Γ => ?_)
  have hN := sc_least_age_of.nd
  have hu64 : (A.deeper (envOfC "least_age_of" (defScope s_least_age_of) s.heap.objs.size f cdv)).units + 64 < cLine := by have := hr.un; omega
  have hu65 : (A.deeper (envOfC "least_age_of" (defScope s_least_age_of) s.heap.objs.size f cdv)).units + 65 < cLine := by have := hr.un; omega
  have hu1 : (A.deeper (envOfC "least_age_of" (defScope s_least_age_of) s.heap.objs.size f cdv)).units + 1 < cLine := by have := hr.un; omega
  exact (pss_consD (ps_setLcD (i := 2) rfl hN rfl rfl (by rfl) (own := [("state", 3)]) (pid_keys (pd_cd c_least_rows (hr.mono (by decide)) hgd (by rfl) (pad_cons (pd_var 0 (pv 0)) (pad_cons pd_int pad_nil)))) (blkOk_by (by kernel_rfl)) (fun _ _ _ _ _ => (pgd_name hN (i := 3) rfl (.inl rfl))) (fun _ _ _ _ _ => ptsd_nil) (fun _ _ _ _ _ => (pd_cd c_longest_stay (hr.mono (by decide)) hgd (by rfl) (pad_cons (pd_var 0 (pv 0)) (pad_cons (pd_var 1 (pv 1)) (pad_cons (pd_var 3 (pv 3)) pad_nil)))))) (pss_oneD (ps_retD (pd_if (c_in hu65 (p2_en 2 pd_non (pv 2))).t pd_non (pd_max hr rfl (p1_n 2 (pv 2)) (by rfl) m_max)))))
abbrev s_longest_stay : Stmt := topS 33
theorem sc_longest_stay : FnScope ["machine", "look", "state", "stays", "many"] ["machine", "look", "state"] (defScope s_longest_stay) := ⟨rfl, rfl, rfl, by decide +kernel, rfl, by decide +kernel, by decide +kernel⟩
theorem ok_longest_stay {P : Program} {w : World} {K : PySem.W.Frag} {mg : Str → Option Value} {base : Heap} {f : Addr} {fd : FuncData} (F : Fun K "longest_stay" "longest_stay" s_longest_stay f fd) (hm : mg "longest_stay" = some (.ref f)) (m_len : mg "len" = none) (c_leading_on : Cd P w K mg base 1 "leading_on" ["machine", "states"] [] D_leading_on) (c_other_states : Cd P w K mg base 2 "other_states" ["machine", "look", "state"] [] D_other_states) :
    Cd P w K mg base 3 "longest_stay" ["machine", "look", "state"] [] D_longest_stay := by
  refine Cd.of (k := 2) (N := ["machine", "look", "state", "stays", "many"]) (bf := B_longest_stay) F hm sc_longest_stay (fun _ _ _ _ _ _ us hl => match us, hl with | [_, _, _], _ => rfl) (fun _ hq => nomatch hq) (fun cdv A outer s H hr hgd Γ => ?_)
  have hN := sc_longest_stay.nd
  have hu64 : (A.deeper (envOfC "longest_stay" (defScope s_longest_stay) s.heap.objs.size f cdv)).units + 64 < cLine := by have := hr.un; omega
  have hu65 : (A.deeper (envOfC "longest_stay" (defScope s_longest_stay) s.heap.objs.size f cdv)).units + 65 < cLine := by have := hr.un; omega
  have hu1 : (A.deeper (envOfC "longest_stay" (defScope s_longest_stay) s.heap.objs.size f cdv)).units + 1 < cLine := by have := hr.un; omega
  exact (pss_consD (ps_asgD (pd_cd c_other_states (hr.mono (by decide)) hgd (by rfl) (pad_cons (pd_var 0 (pv 0)) (pad_cons (pd_var 1 (pv 1)) (pad_cons (pd_var 2 (pv 2)) pad_nil)))) (pgd_name hN (i := 3) rfl (.inl rfl))) (pss_consD (ps_asgD pd_int (pgd_name hN (i := 4) rfl (.inl rfl))) (pss_consD (ps_whileD 64 PassesOwn.never (c_ne hu64 (p2_ne 3 (pv 3) (pd_lst pad_nil))).t (pss_consD (ps_asgD (pd_add (p2_ne 4 (pv 4) pd_int)) (pgd_name hN (i := 4) rfl (.inl rfl))) (pss_consD (ps_ifD (c_gt (p2_ne 4 (pv 4) (pd_len (p1_e (pd_sub hu1 (p2_ne 0 (pv 0) pd_int) (fun _ _ => rfl) (fun _ _ => rfl))) (by rfl) m_len))).t (pss_oneD (ps_retD pd_non)) pss_nilD) (pss_oneD (ps_asgD (pd_cd c_leading_on (hr.mono (by decide)) hgd (by rfl) (pad_cons (pd_var 0 (pv 0)) (pad_cons (pd_var 3 (pv 3)) pad_nil))) (pgd_name hN (i := 3) rfl (.inl rfl))))))) (pss_oneD (ps_retVD (i := 4) (pv 4))))))
abbrev s_other_states : Stmt := topS 34
theorem sc_other_states : FnScope ["machine", "look", "state", "answer", "late"] ["machine", "look", "state"] (defScope s_other_states) := ⟨rfl, rfl, rfl, by decide +kernel, rfl, by decide +kernel, by decide +kernel⟩
theorem ok_other_states {P : Program} {w : World} {K : PySem.W.Frag} {mg : Str → Option Value} {base : Heap} {f : Addr} {fd : FuncData} (F : Fun K "other_states" "other_states" s_other_states f fd) (hm : mg "other_states" = some (.ref f)) (c_answer_at : Cd P w K mg base 1 "answer_at" ["machine", "state", "look"] [] D_answer_at) (c_least_rows : Cd P w K mg base 1 "least_rows" ["machine", "begin"] [] D_least_rows) :
    Cd P w K mg base 2 "other_states" ["machine", "look", "state"] [] D_other_states := by
  refine Cd.of (k := 1) (N := ["machine", "look", "state", "answer", "late"]) (bf := B_other_states) F hm sc_other_states (fun _ _ _ _ _ _ us hl => match us, hl with | [_, _, _], _ => rfl) (fun _ hq => nomatch hq) (fun cdv A outer s H hr hgd Γ => ?_)
  have hN := sc_other_states.nd
  have hu64 : (A.deeper (envOfC "other_states" (defScope s_other_states) s.heap.objs.size f cdv)).units + 64 < cLine := by have := hr.un; omega
  have hu65 : (A.deeper (envOfC "other_states" (defScope s_other_states) s.heap.objs.size f cdv)).units + 65 < cLine := by have := hr.un; omega
  have hu1 : (A.deeper (envOfC "other_states" (defScope s_other_states) s.heap.objs.size f cdv)).units + 1 < cLine := by have := hr.un; omega
  exact (pss_consD (ps_asgD (pd_cd c_answer_at (hr.mono (by decide)) hgd (by rfl) (pad_cons (pd_var 0 (pv 0)) (pad_cons (pd_var 2 (pv 2)) (pad_cons (pd_var 1 (pv 1)) pad_nil)))) (pgd_name hN (i := 3) rfl (.inr rfl))) (pss_oneD (ps_retD (pd_lc rfl hN (own := [("late", 4)]) (pid_keys (pd_cd c_least_rows (hr.mono (by decide)) hgd (by rfl) (pad_cons (pd_var 0 (pv 0)) (pad_cons (pd_var 2 (pv 2)) pad_nil)))) (blkOk_by (by kernel_rfl)) (fun _ _ _ _ _ => (pgd_name hN (i := 4) rfl (.inl rfl))) (fun _ _ _ _ _ => (ptsd_one (c_ne hu64 (p2_en 3 (pd_cd c_answer_at (hr.mono (by decide)) hgd (by rfl) (pad_cons (pd_var 0 (pv 0)) (pad_cons (pd_var 4 (pv 4)) (pad_cons (pd_var 1 (pv 1)) pad_nil)))) (pv 3))).t)) (fun _ _ _ _ _ => (pd_var 4 (pv 4)))))))
abbrev s_leading_on : Stmt := topS 35
theorem sc_leading_on : FnScope ["machine", "states", "state", "late"] ["machine", "states"] (defScope s_leading_on) := ⟨rfl, rfl, rfl, by decide +kernel, rfl, by decide +kernel, by decide +kernel⟩
theorem ok_leading_on {P : Program} {w : World} {K : PySem.W.Frag} {mg : Str → Option Value} {base : Heap} {f : Addr} {fd : FuncData} (F : Fun K "leading_on" "leading_on" s_leading_on f fd) (hm : mg "leading_on" = some (.ref f)) (m_any : mg "any" = none) :
    Cd P w K mg base 1 "leading_on" ["machine", "states"] [] D_leading_on := by
  refine Cd.of (k := 0) (N := ["machine", "states", "state", "late"]) (bf := B_leading_on) F hm sc_leading_on (fun _ _ _ _ _ _ us hl => match us, hl with | [_, _], _ => rfl) (fun _ hq => nomatch hq) (fun cdv A outer s H hr hgd Γ => ?_)
  have hN := sc_leading_on.nd
  have hu64 : (A.deeper (envOfC "leading_on" (defScope s_leading_on) s.heap.objs.size f cdv)).units + 64 < cLine := by have := hr.un; omega
  have hu65 : (A.deeper (envOfC "leading_on" (defScope s_leading_on) s.heap.objs.size f cdv)).units + 65 < cLine := by have := hr.un; omega
  have hu1 : (A.deeper (envOfC "leading_on" (defScope s_leading_on) s.heap.objs.size f cdv)).units + 1 < cLine := by have := hr.un; omega
  exact (pss_oneD (ps_retD (pd_lc rfl hN (own := [("state", 2)]) (pid_val (pd_var 1 (pv 1))) (blkOk_by (by kernel_rfl)) (fun _ _ _ _ _ => (pgd_name hN (i := 2) rfl (.inl rfl))) (fun _ _ _ _ _ => (ptsd_one (pt_tru (p1_e (pd_any rfl (p1_e (pd_lc rfl hN (own := [("late", 3)]) (pid_val (pd_sub hu1 (p2_en 2 (pd_sub hu1 (p2_ne 0 (pv 0) pd_int) (fun _ _ => rfl) (fun _ _ => rfl)) (pv 2)) (fun _ _ => rfl) (fun _ _ => rfl))) (blkOk_by (by kernel_rfl)) (fun _ _ _ _ _ => (pgd_name hN (i := 3) rfl (.inl rfl))) (fun _ _ _ _ _ => ptsd_nil) (fun _ _ _ _ _ => (c_in hu65 (p2_nn 3 1 (pv 3) (pv 1))).v))) (by rfl) m_any))))) (fun _ _ _ _ _ => (pd_var 2 (pv 2))))))
abbrev s_leaving_row : Stmt := topS 36
theorem sc_leaving_row : FnScope ["machine", "look", "state", "age", "stays", "_", "late", "row", "goal", "at", "k", "led"] ["machine", "look", "state", "age"] (defScope s_leaving_row) := ⟨rfl, rfl, rfl, by decide +kernel, rfl, by decide +kernel, by decide +kernel⟩
theorem ok_leaving_row {P : Program} {w : World} {K : PySem.W.Frag} {mg : Str → Option Value} {base : Heap} {f : Addr} {fd : FuncData} (F : Fun K "leaving_row" "leaving_row" s_leaving_row f fd) (hm : mg "leaving_row" = some (.ref f)) (m_enumerate : mg "enumerate" = none) (m_list : mg "list" = none) (m_min : mg "min" = none) (m_range : mg "range" = none) (m_reversed : mg "reversed" = none) (c_leading_on : Cd P w K mg base 1 "leading_on" ["machine", "states"] [] D_leading_on) (c_least_rows : Cd P w K mg base 1 "least_rows" ["machine", "begin"] [] D_least_rows) (c_other_states : Cd P w K mg base 2 "other_states" ["machine", "look", "state"] [] D_other_states) :
    Cd P w K mg base 3 "leaving_row" ["machine", "look", "state", "age"] [] D_leaving_row := by
  refine Cd.of (k := 2) (N := ["machine", "look", "state", "age", "stays", "_", "late", "row", "goal", "at", "k", "led"]) (bf := B_leaving_row) F hm sc_leaving_row (fun _ _ _ _ _ _ us hl => match us, hl with | [_, _, _, _], _ => rfl) (fun _ hq => nomatch hq) (fun cdv A outer s H hr hgd Γ => ?_)
  have hN := sc_leaving_row.nd
  have hu64 : (A.deeper (envOfC "leaving_row" (defScope s_leaving_row) s.heap.objs.size f cdv)).units + 64 < cLine := by have := hr.un; omega
  have hu65 : (A.deeper (envOfC "leaving_row" (defScope s_leaving_row) s.heap.objs.size f cdv)).units + 65 < cLine := by have := hr.un; omega
  have hu1 : (A.deeper (envOfC "leaving_row" (defScope s_leaving_row) s.heap.objs.size f cdv)).units + 1 < cLine := by have := hr.un; omega
  exact (pss_consD (ps_asgD (pd_lst (pad_cons (pd_cd c_other_states (hr.mono (by decide)) hgd (by rfl) (pad_cons (pd_var 0 (pv 0)) (pad_cons (pd_var 1 (pv 1)) (pad_cons (pd_var 2 (pv 2)) pad_nil)))) pad_nil)) (pgd_name hN (i := 4) rfl (.inl rfl))) (pss_consD (ps_forD PassesOwn.never rfl (pid_range1 (pd_var 3 (pv 3)) (by rfl) m_range) (pgd_name hN (i := 5) rfl (.inl rfl)) (pss_oneD (ps_exprD (pd_append (pv 4) (pd_cd c_leading_on (hr.mono (by decide)) hgd (by rfl) (pad_cons (pd_var 0 (pv 0)) (pad_cons (pd_sub hu1 (p2_ne 4 (pv 4) (pd_neg pd_int)) (fun _ _ => rfl) (fun _ _ => rfl)) pad_nil))))))) (pss_consD (ps_asgD (pd_sub hu1 (p2_ee (pd_sub hu1 (p2_ne 4 (pv 4) (pd_neg pd_int)) (fun _ _ => rfl) (fun _ _ => rfl)) pd_int) (fun _ _ => rfl) (fun _ _ => rfl)) (pgd_name hN (i := 6) rfl (.inl rfl))) (pss_consD (ps_asgD (pd_sub hu1 (p2_en 6 (pd_cd c_least_rows (hr.mono (by decide)) hgd (by rfl) (pad_cons (pd_var 0 (pv 0)) (pad_cons (pd_var 2 (pv 2)) pad_nil))) (pv 6)) (fun _ _ => rfl) (fun _ _ => rfl)) (pgd_name hN (i := 7) rfl (.inl rfl))) (pss_consD (ps_forD PassesOwn.never rfl (pid_rev (pd_listOf rfl (p1_e (pd_cutN 4 (pv 4) pod_none (pod_some (pd_neg pd_int)))) (by rfl) m_list) (by rfl) m_reversed) (pgd_name hN (i := 8) rfl (.inr rfl)) (pss_consD (ps_asgD (pd_min rfl (p1_e (pd_lc rfl hN (own := [("k", 10), ("led", 11)]) (pid_enum (pd_sub hu1 (p2_en 6 (pd_sub hu1 (p2_ne 0 (pv 0) pd_int) (fun _ _ => rfl) (fun _ _ => rfl)) (pv 6)) (fun _ _ => rfl) (fun _ _ => rfl)) (by rfl) m_enumerate) (blkOk_by (by kernel_rfl)) (fun _ _ _ _ _ => (pgd_tup rfl (pgs_consD (pgd_name hN (i := 10) rfl (.inl rfl)) (pgs_consD (pgd_name hN (i := 11) rfl (.inl rfl)) pgs_nilD)) rfl)) (fun _ _ _ _ _ => (ptsd_one (c_in hu65 (p2_nn 11 8 (pv 11) (pv 8))).t)) (fun _ _ _ _ _ => (pd_var 10 (pv 10))))) (by rfl) m_min) (pgd_name hN (i := 9) rfl (.inl rfl))) (pss_consD (ps_asgD (pd_add (p2_ne 7 (pv 7) (pd_tup (pad_cons (pd_sub hu1 (p2_en 9 (pd_sub hu1 (p2_ne 0 (pv 0) pd_int) (fun _ _ => rfl) (fun _ _ => rfl)) (pv 9)) (fun _ _ => rfl) (fun _ _ => rfl)) pad_nil)))) (pgd_name hN (i := 7) rfl (.inl rfl))) (pss_oneD (ps_asgD (pd_sub hu1 (p2_en 9 (pd_sub hu1 (p2_en 6 (pd_sub hu1 (p2_ne 0 (pv 0) pd_int) (fun _ _ => rfl) (fun _ _ => rfl)) (pv 6)) (fun _ _ => rfl) (fun _ _ => rfl)) (pv 9)) (fun _ _ => rfl) (fun _ _ => rfl)) (pgd_name hN (i := 6) rfl (.inl rfl))))))) (pss_oneD (ps_retVD (i := 7) (pv 7))))))))
end K8

set_option Elab.async false
set_option linter.all false
set_option maxRecDepth 100000
set_option maxHeartbeats 1000000
namespace K8
open PySem PySem.Spec PyProof.Rows L2 PD

abbrev s__law_draw : Stmt := topS 39
theorem sc__law_draw : FnScope ["_law_feed_here", "_law_size", "_law_digit", "_law_cells", "_law_spot", "_law_cell", "_law_mixed"] ["_law_feed_here", "_law_size"] (defScope s__law_draw) := ⟨rfl, rfl, rfl, by decide +kernel, rfl, by decide +kernel, by decide +kernel⟩
theorem ok__law_draw {P : Program} {w : World} {K : PySem.W.Frag} {mg : Str → Option Value} {base : Heap} {f : Addr} {fd : FuncData} (F : Fun K "_law_draw" "_law_draw" s__law_draw f fd) (hm : mg "_law_draw" = some (.ref f)) (m_int : mg "int" = none) (m_len : mg "len" = none) :
    Cd P w K mg base 1 "_law_draw" ["_law_feed_here", "_law_size"] [] D__law_draw := by
  refine Cd.of (k := 0) (N := ["_law_feed_here", "_law_size", "_law_digit", "_law_cells", "_law_spot", "_law_cell", "_law_mixed"]) (bf := B__law_draw) F hm sc__law_draw (fun _ _ _ _ _ _ us hl => match us, hl with | [_, _], _ => rfl) (fun _ hq => nomatch hq) (fun cdv A outer s H hr hgd Γ => ?_)
  have hN := sc__law_draw.nd
  have hu64 : (A.deeper (envOfC "_law_draw" (defScope s__law_draw) s.heap.objs.size f cdv)).units + 64 < cLine := by have := hr.un; omega
  have hu65 : (A.deeper (envOfC "_law_draw" (defScope s__law_draw) s.heap.objs.size f cdv)).units + 65 < cLine := by have := hr.un; omega
  have hu1 : (A.deeper (envOfC "_law_draw" (defScope s__law_draw) s.heap.objs.size f cdv)).units + 1 < cLine := by have := hr.un; omega
  exact (pss_consD (ps_fset hu1 (pv 0) (pd_add (p2_ee (pd_fget hu1 (pv 0)) pd_int))) (pss_consD (ps_ifD (c_gt (p2_ee (pd_fget hu1 (pv 0)) pd_int)).t (pss_consD (ps_asgD (pd_mod (p2_en 1 (pd_int1 (p1_e (pd_fget hu1 (pv 0))) (by rfl) m_int) (pv 1))) (pgd_name hN (i := 2) rfl (.inl rfl))) (pss_consD (ps_fset hu1 (pv 0) (pd_fdiv (p2_en 1 (pd_fget hu1 (pv 0)) (pv 1)))) (pss_oneD (ps_retVD (i := 2) (pv 2))))) pss_nilD) (pss_consD (ps_parD (i := 3) (j := 4) rfl hN rfl rfl (by decide) rfl rfl (pd_fget hu1 (pv 0)) (pd_fget hu1 (pv 0)) (by rfl)) (pss_consD (ps_fset hu1 (pv 0) (pd_add (p2_ne 4 (pv 4) pd_int))) (pss_consD (ps_asgD (pd_if (c_ne hu64 (p2_ne 3 (pv 3) (pd_lst pad_nil))).t (pd_sub hu1 (p2_ne 3 (pv 3) (pd_mod (p2_ee (pd_int1 (p1_n 4 (pv 4)) (by rfl) m_int) (pd_len (p1_n 3 (pv 3)) (by rfl) m_len)))) (fun _ _ => rfl) (fun _ _ => rfl)) pd_int) (pgd_name hN (i := 5) rfl (.inl rfl))) (pss_consD (ps_ifD ((pwd_and (c_ge (p2_ne 5 (pv 5) (pd_pow (p2_ee pd_int pd_int)))).t (pw_one (c_lt (p2_ne 4 (pv 4) (pd_len (p1_n 3 (pv 3)) (by rfl) m_len))).t))).pt (pss_consD (ps_fset hu1 (pv 0) (pd_fdiv (p2_nn 5 1 (pv 5) (pv 1)))) (pss_oneD (ps_retD (pd_mod (p2_en 1 (pd_int1 (p1_n 5 (pv 5)) (by rfl) m_int) (pv 1)))))) pss_nilD) (pss_consD (ps_asgD (pd_mod (p2_ee (pd_int1 (p1_e (pd_add (p2_ee (pd_add (p2_ee (pd_mod (p2_ee (pd_int1 (p1_n 5 (pv 5)) (by rfl) m_int) pd_int)) (pd_mul (p2_ee pd_int (pd_fget hu1 (pv 0)))))) pd_int))) (by rfl) m_int) pd_int)) (pgd_name hN (i := 6) rfl (.inl rfl))) (pss_consD (ps_asgD (pd_mod (p2_ee (pd_int1 (p1_e (pd_add (p2_ee (pd_add (p2_ee (pd_mul (p2_nn 6 6 (pv 6) (pv 6))) (pd_mul (p2_ee pd_int (pd_fget hu1 (pv 0)))))) pd_int))) (by rfl) m_int) pd_int)) (pgd_name hN (i := 6) rfl (.inl rfl))) (pss_oneD (ps_retD (pd_mod (p2_en 1 (pd_int1 (p1_e (pd_fdiv (p2_ee (pd_mod (p2_ee (pd_int1 (p1_e (pd_add (p2_ee (pd_mul (p2_nn 6 6 (pv 6) (pv 6))) (pd_mul (p2_en 6 pd_int (pv 6)))))) (by rfl) m_int) pd_int)) pd_int))) (by rfl) m_int) (pv 1)))))))))))))
abbrev s__law_any : Stmt := topS 40
theorem sc__law_any : FnScope ["_law_feed_here", "_law_some"] ["_law_feed_here", "_law_some"] (defScope s__law_any) := ⟨rfl, rfl, rfl, by decide +kernel, rfl, by decide +kernel, by decide +kernel⟩
theorem ok__law_any {P : Program} {w : World} {K : PySem.W.Frag} {mg : Str → Option Value} {base : Heap} {f : Addr} {fd : FuncData} (F : Fun K "_law_any" "_law_any" s__law_any f fd) (hm : mg "_law_any" = some (.ref f)) (m_len : mg "len" = none) (c__law_draw : Cd P w K mg base 1 "_law_draw" ["_law_feed_here", "_law_size"] [] D__law_draw) :
    Cd P w K mg base 2 "_law_any" ["_law_feed_here", "_law_some"] [] D__law_any := by
  refine Cd.of (k := 1) (N := ["_law_feed_here", "_law_some"]) (bf := B__law_any) F hm sc__law_any (fun _ _ _ _ _ _ us hl => match us, hl with | [_, _], _ => rfl) (fun _ hq => nomatch hq) (fun cdv A outer s H hr hgd Γ => ?_)
  have hN := sc__law_any.nd
  have hu64 : (A.deeper (envOfC "_law_any" (defScope s__law_any) s.heap.objs.size f cdv)).units + 64 < cLine := by have := hr.un; omega
  have hu65 : (A.deeper (envOfC "_law_any" (defScope s__law_any) s.heap.objs.size f cdv)).units + 65 < cLine := by have := hr.un; omega
  have hu1 : (A.deeper (envOfC "_law_any" (defScope s__law_any) s.heap.objs.size f cdv)).units + 1 < cLine := by have := hr.un; omega
  exact (pss_oneD (ps_retD (pd_sub hu1 (p2_ne 1 (pv 1) (pd_cd c__law_draw (hr.mono (by decide)) hgd (by rfl) (pad_cons (pd_var 0 (pv 0)) (pad_cons (pd_len (p1_n 1 (pv 1)) (by rfl) m_len) pad_nil)))) (fun _ _ => rfl) (fun _ _ => rfl))))
abbrev s__law_same : Stmt := topS 41
theorem sc__law_same : FnScope ["_law_told", "_law_due"] ["_law_told", "_law_due"] (defScope s__law_same) := ⟨rfl, rfl, rfl, by decide +kernel, rfl, by decide +kernel, by decide +kernel⟩
theorem ok__law_same {P : Program} {w : World} {K : PySem.W.Frag} {mg : Str → Option Value} {base : Heap} {f : Addr} {fd : FuncData} (F : Fun K "_law_same" "_law_same" s__law_same f fd) (hm : mg "_law_same" = some (.ref f)) (m_repr : mg "repr" = none) :
    Cd P w K mg base 1 "_law_same" ["_law_told", "_law_due"] [] D__law_same := by
  refine Cd.of (k := 0) (N := ["_law_told", "_law_due"]) (bf := B__law_same) F hm sc__law_same (fun _ _ _ _ _ _ us hl => match us, hl with | [_, _], _ => rfl) (fun _ hq => nomatch hq) (fun cdv A outer s H hr hgd Γ => ?_)
  have hN := sc__law_same.nd
  have hu64 : (A.deeper (envOfC "_law_same" (defScope s__law_same) s.heap.objs.size f cdv)).units + 64 < cLine := by have := hr.un; omega
  have hu65 : (A.deeper (envOfC "_law_same" (defScope s__law_same) s.heap.objs.size f cdv)).units + 65 < cLine := by have := hr.un; omega
  have hu1 : (A.deeper (envOfC "_law_same" (defScope s__law_same) s.heap.objs.size f cdv)).units + 1 < cLine := by have := hr.un; omega
  exact (pss_oneD (ps_retD (c_eqS (p2_ee (pd_repr hgd hu65 (p1_n 0 (pv 0)) (by rfl) m_repr) (pd_repr hgd hu65 (p1_n 1 (pv 1)) (by rfl) m_repr))).v))
abbrev s__law_name : Stmt := topS 42
theorem sc__law_name : FnScope ["_law_feed_here", "_law_size", "_law_stem", "_law_text", "_law_lap"] ["_law_feed_here"] (defScope s__law_name) := ⟨rfl, rfl, rfl, by decide +kernel, rfl, by decide +kernel, by decide +kernel⟩
theorem ok__law_name {P : Program} {w : World} {K : PySem.W.Frag} {mg : Str → Option Value} {base : Heap} {f : Addr} {fd : FuncData} (F : Fun K "_law_name" "_law_name" s__law_name f fd) (hm : mg "_law_name" = some (.ref f)) (m_int : mg "int" = none) (m_range : mg "range" = none) (c__law_draw : Cd P w K mg base 1 "_law_draw" ["_law_feed_here", "_law_size"] [] D__law_draw) :
    Cd P w K mg base 2 "_law_name" ["_law_feed_here"] [] D__law_name := by
  refine Cd.of (k := 1) (N := ["_law_feed_here", "_law_size", "_law_stem", "_law_text", "_law_lap"]) (bf := B__law_name) F hm sc__law_name (fun _ _ _ _ _ _ us hl => match us, hl with | [_], _ => rfl) (fun _ hq => nomatch hq) (fun cdv A outer s H hr hgd Γ => ?_)
  have hN := sc__law_name.nd
  have hu64 : (A.deeper (envOfC "_law_name" (defScope s__law_name) s.heap.objs.size f cdv)).units + 64 < cLine := by have := hr.un; omega
  have hu65 : (A.deeper (envOfC "_law_name" (defScope s__law_name) s.heap.objs.size f cdv)).units + 65 < cLine := by have := hr.un; omega
  have hu1 : (A.deeper (envOfC "_law_name" (defScope s__law_name) s.heap.objs.size f cdv)).units + 1 < cLine := by have := hr.un; omega
  exact (pss_consD (ps_parD (i := 1) (j := 2) rfl hN rfl rfl (by decide) rfl rfl (pd_add (p2_ee pd_int (pd_cd c__law_draw (hr.mono (by decide)) hgd (by rfl) (pad_cons (pd_var 0 (pv 0)) (pad_cons pd_int pad_nil))))) (pd_cd c__law_draw (hr.mono (by decide)) hgd (by rfl) (pad_cons (pd_var 0 (pv 0)) (pad_cons pd_int pad_nil))) (by rfl)) (pss_consD (ps_asgD pd_str (pgd_name hN (i := 3) rfl (.inl rfl))) (pss_consD (ps_forD PassesOwn.never rfl (pid_range1 pd_int (by rfl) m_range) (pgd_name hN (i := 4) rfl (.inl rfl)) (pss_oneD (ps_parD (i := 3) (j := 2) rfl hN rfl rfl (by decide) rfl rfl (pd_add (p2_ne 3 (pv 3) (pd_sub hu1 (p2_ee pd_str (pd_mod (p2_ee (pd_int1 (p1_n 2 (pv 2)) (by rfl) m_int) pd_int))) (fun _ _ => rfl) (fun _ _ => rfl)))) (pd_fdiv (p2_ne 2 (pv 2) pd_int)) (by rfl)))) (pss_consD (ps_asgD (pd_cut (pd_add (p2_ne 3 (pv 3) (pd_revS (pd_var 3 (pv 3))))) pod_none (pod_some (pd_var 1 (pv 1)))) (pgd_name hN (i := 3) rfl (.inl rfl))) (pss_oneD (ps_retD (pd_if (c_ne hu64 (p2_ne 3 (pv 3) pd_str)).t (pd_var 3 (pv 3)) pd_str)))))))
abbrev s__law_names : Stmt := topS 43
theorem sc__law_names : FnScope ["_law_feed_here", "_law_many", "_law_found", "_law_lap", "_law_late"] ["_law_feed_here", "_law_many"] (defScope s__law_names) := ⟨rfl, rfl, rfl, by decide +kernel, rfl, by decide +kernel, by decide +kernel⟩
theorem ok__law_names {P : Program} {w : World} {K : PySem.W.Frag} {mg : Str → Option Value} {base : Heap} {f : Addr} {fd : FuncData} (F : Fun K "_law_names" "_law_names" s__law_names f fd) (hm : mg "_law_names" = some (.ref f)) (m_len : mg "len" = none) (m_range : mg "range" = none) (m_sorted : mg "sorted" = none) (m_tuple : mg "tuple" = none) (c__law_name : Cd P w K mg base 2 "_law_name" ["_law_feed_here"] [] D__law_name) :
    Cd P w K mg base 3 "_law_names" ["_law_feed_here", "_law_many"] [] D__law_names := by
  refine Cd.of (k := 2) (N := ["_law_feed_here", "_law_many", "_law_found", "_law_lap", "_law_late"]) (bf := B__law_names) F hm sc__law_names (fun _ _ _ _ _ _ us hl => match us, hl with | [_, _], _ => rfl) (fun _ hq => nomatch hq) (fun cdv A outer s H hr hgd Γ => ?_)
  have hN := sc__law_names.nd
  have hu64 : (A.deeper (envOfC "_law_names" (defScope s__law_names) s.heap.objs.size f cdv)).units + 64 < cLine := by have := hr.un; omega
  have hu65 : (A.deeper (envOfC "_law_names" (defScope s__law_names) s.heap.objs.size f cdv)).units + 65 < cLine := by have := hr.un; omega
  have hu1 : (A.deeper (envOfC "_law_names" (defScope s__law_names) s.heap.objs.size f cdv)).units + 1 < cLine := by have := hr.un; omega
  exact (pss_consD (ps_asgD (pd_lst pad_nil) (pgd_name hN (i := 2) rfl (.inl rfl))) (pss_consD (ps_forD PassesOwn.never rfl (pid_range1 (pd_var 1 (pv 1)) (by rfl) m_range) (pgd_name hN (i := 3) rfl (.inl rfl)) (pss_consD (ps_asgD (pd_cd c__law_name (hr.mono (by decide)) hgd (by rfl) (pad_cons (pd_var 0 (pv 0)) pad_nil)) (pgd_name hN (i := 4) rfl (.inl rfl))) (pss_oneD (ps_asgD (pd_if (c_notIn hu65 (p2_nn 4 2 (pv 4) (pv 2))).t (pd_add (p2_ne 2 (pv 2) (pd_lst (pad_cons (pd_var 4 (pv 4)) pad_nil)))) (pd_var 2 (pv 2))) (pgd_name hN (i := 2) rfl (.inl rfl)))))) (pss_consD (ps_forD PassesOwn.never rfl (pid_val (pd_lst (pad_cons pd_str (pad_cons pd_str (pad_cons pd_str (pad_cons pd_str pad_nil)))))) (pgd_name hN (i := 4) rfl (.inl rfl)) (pss_oneD (ps_asgD (pd_if ((pwd_and (c_notIn hu65 (p2_nn 4 2 (pv 4) (pv 2))).t (pw_one (c_lt (p2_en 1 (pd_len (p1_n 2 (pv 2)) (by rfl) m_len) (pv 1))).t))).pt (pd_add (p2_ne 2 (pv 2) (pd_lst (pad_cons (pd_var 4 (pv 4)) pad_nil)))) (pd_var 2 (pv 2))) (pgd_name hN (i := 2) rfl (.inl rfl))))) (pss_oneD (ps_retD (pd_tupleOf (p1_e (pd_sorted rfl (p1_n 2 (pv 2)) (by rfl) m_sorted)) (by rfl) m_tuple))))))
abbrev s__law_move : Stmt := topS 44
theorem sc__law_move : FnScope ["_law_feed_here", "_law_way_here", "_law_s", "_law_many"] ["_law_feed_here", "_law_way_here", "_law_s", "_law_many"] (defScope s__law_move) := ⟨rfl, rfl, rfl, by decide +kernel, rfl, by decide +kernel, by decide +kernel⟩
theorem ok__law_move {P : Program} {w : World} {K : PySem.W.Frag} {mg : Str → Option Value} {base : Heap} {f : Addr} {fd : FuncData} (F : Fun K "_law_move" "_law_move" s__law_move f fd) (hm : mg "_law_move" = some (.ref f)) (m_int : mg "int" = none) (m_max : mg "max" = none) (m_min : mg "min" = none) (c__law_any : Cd P w K mg base 2 "_law_any" ["_law_feed_here", "_law_some"] [] D__law_any) (c__law_draw : Cd P w K mg base 1 "_law_draw" ["_law_feed_here", "_law_size"] [] D__law_draw) :
    Cd P w K mg base 3 "_law_move" ["_law_feed_here", "_law_way_here", "_law_s", "_law_many"] [] D__law_move := by
  refine Cd.of (k := 2) (N := ["_law_feed_here", "_law_way_here", "_law_s", "_law_many"]) (bf := B__law_move) F hm sc__law_move (fun _ _ _ _ _ _ us hl => match us, hl with | [_, _, _, _], _ => rfl) (fun _ hq => nomatch hq) (fun cdv A outer s H hr hgd Γ => ?_)
  have hN := sc__law_move.nd
  have hu64 : (A.deeper (envOfC "_law_move" (defScope s__law_move) s.heap.objs.size f cdv)).units + 64 < cLine := by have := hr.un; omega
  have hu65 : (A.deeper (envOfC "_law_move" (defScope s__law_move) s.heap.objs.size f cdv)).units + 65 < cLine := by have := hr.un; omega
  have hu1 : (A.deeper (envOfC "_law_move" (defScope s__law_move) s.heap.objs.size f cdv)).units + 1 < cLine := by have := hr.un; omega
  exact (pss_consD (ps_ifD ((pwd_or (c_eq hu64 (p2_ne 1 (pv 1) pd_int)).t (pw_one (c_eq hu64 (p2_ne 3 (pv 3) pd_int)).t))).pt (pss_oneD (ps_retD (pd_cd c__law_draw (hr.mono (by decide)) hgd (by rfl) (pad_cons (pd_var 0 (pv 0)) (pad_cons (pd_var 3 (pv 3)) pad_nil))))) pss_nilD) (pss_consD (ps_ifD (c_eq hu64 (p2_ne 1 (pv 1) pd_int)).t (pss_oneD (ps_retD (pd_if (c_gt (p2_ee (pd_cd c__law_draw (hr.mono (by decide)) hgd (by rfl) (pad_cons (pd_var 0 (pv 0)) (pad_cons pd_int pad_nil))) pd_int)).t (pd_mod (p2_en 3 (pd_int1 (p1_e (pd_add (p2_ne 2 (pv 2) pd_int))) (by rfl) m_int) (pv 3))) (pd_cd c__law_draw (hr.mono (by decide)) hgd (by rfl) (pad_cons (pd_var 0 (pv 0)) (pad_cons (pd_var 3 (pv 3)) pad_nil)))))) pss_nilD) (pss_consD (ps_ifD (c_eq hu64 (p2_ne 1 (pv 1) pd_int)).t (pss_oneD (ps_retD (pd_cd c__law_any (hr.mono (by decide)) hgd (by rfl) (pad_cons (pd_var 0 (pv 0)) (pad_cons (pd_lst (pad_cons (pd_min rfl (p1_e (pd_lst (pad_cons (pd_add (p2_ne 2 (pv 2) pd_int)) (pad_cons (pd_subI (p2_ne 3 (pv 3) pd_int)) pad_nil)))) (by rfl) m_min) (pad_cons (pd_min rfl (p1_e (pd_lst (pad_cons (pd_add (p2_ne 2 (pv 2) pd_int)) (pad_cons (pd_subI (p2_ne 3 (pv 3) pd_int)) pad_nil)))) (by rfl) m_min) (pad_cons (pd_max hr rfl (p1_e (pd_lst (pad_cons (pd_subI (p2_ne 2 (pv 2) pd_int)) (pad_cons pd_int pad_nil)))) (by rfl) m_max) pad_nil)))) pad_nil))))) pss_nilD) (pss_oneD (ps_retD (pd_cd c__law_any (hr.mono (by decide)) hgd (by rfl) (pad_cons (pd_var 0 (pv 0)) (pad_cons (pd_lst (pad_cons (pd_min rfl (p1_e (pd_lst (pad_cons (pd_add (p2_ne 2 (pv 2) pd_int)) (pad_cons (pd_subI (p2_ne 3 (pv 3) pd_int)) pad_nil)))) (by rfl) m_min) (pad_cons (pd_min rfl (p1_e (pd_lst (pad_cons (pd_add (p2_ne 2 (pv 2) pd_int)) (pad_cons (pd_subI (p2_ne 3 (pv 3) pd_int)) pad_nil)))) (by rfl) m_min) (pad_cons (pd_var 2 (pv 2)) (pad_cons pd_int pad_nil))))) pad_nil))))))))
abbrev s__law_box : Stmt := topS 45
theorem sc__law_box : FnScope ["_law_feed_here", "_law_way_here", "_law_many", "_law_signs", "_law_eyes", "_law_moves", "_law_seen", "_law_top", "_law_s", "_law_late", "_law_k", "_law_told"] ["_law_feed_here"] (defScope s__law_box) := ⟨rfl, rfl, rfl, by decide +kernel, rfl, by decide +kernel, by decide +kernel⟩
theorem ok__law_box {P : Program} {w : World} {K : PySem.W.Frag} {mg : Str → Option Value} {base : Heap} {f : Addr} {fd : FuncData} (F : Fun K "_law_box" "_law_box" s__law_box f fd) (hm : mg "_law_box" = some (.ref f)) (m_len : mg "len" = none) (m_range : mg "range" = none) (m_tuple : mg "tuple" = none) (c__law_any : Cd P w K mg base 2 "_law_any" ["_law_feed_here", "_law_some"] [] D__law_any) (c__law_draw : Cd P w K mg base 1 "_law_draw" ["_law_feed_here", "_law_size"] [] D__law_draw) (c__law_move : Cd P w K mg base 3 "_law_move" ["_law_feed_here", "_law_way_here", "_law_s", "_law_many"] [] D__law_move) (c__law_names : Cd P w K mg base 3 "_law_names" ["_law_feed_here", "_law_many"] [] D__law_names) :
    Cd P w K mg base 4 "_law_box" ["_law_feed_here"] [] D__law_box := by
  refine Cd.of (k := 3) (N := ["_law_feed_here", "_law_way_here", "_law_many", "_law_signs", "_law_eyes", "_law_moves", "_law_seen", "_law_top", "_law_s", "_law_late", "_law_k", "_law_told"]) (bf := B__law_box) F hm sc__law_box (fun _ _ _ _ _ _ us hl => match us, hl with | [_], _ => rfl) (fun _ hq => nomatch hq) (fun cdv A outer s H hr hgd Γ => ?_)
  have hN := sc__law_box.nd
  have hu64 : (A.deeper (envOfC "_law_box" (defScope s__law_box) s.heap.objs.size f cdv)).units + 64 < cLine := by have := hr.un; omega
  have hu65 : (A.deeper (envOfC "_law_box" (defScope s__law_box) s.heap.objs.size f cdv)).units + 65 < cLine := by have := hr.un; omega
  have hu1 : (A.deeper (envOfC "_law_box" (defScope s__law_box) s.heap.objs.size f cdv)).units + 1 < cLine := by have := hr.un; omega
  exact (pss_consD (ps_asgD (pd_tup (pad_cons (pd_cd c__law_draw (hr.mono (by decide)) hgd (by rfl) (pad_cons (pd_var 0 (pv 0)) (pad_cons pd_int pad_nil))) (pad_cons (pd_add (p2_ee pd_int (pd_cd c__law_any (hr.mono (by decide)) hgd (by rfl) (pad_cons (pd_var 0 (pv 0)) (pad_cons (pd_lst (pad_cons pd_int (pad_cons pd_int (pad_cons pd_int (pad_cons pd_int (pad_cons pd_int (pad_cons pd_int (pad_cons pd_int (pad_cons pd_int pad_nil))))))))) pad_nil))))) pad_nil))) (pgd_tup rfl (pgs_consD (pgd_name hN (i := 1) rfl (.inr rfl)) (pgs_consD (pgd_name hN (i := 2) rfl (.inr rfl)) pgs_nilD)) rfl)) (pss_consD (ps_parD (i := 3) (j := 4) rfl hN rfl rfl (by decide) rfl rfl (pd_cd c__law_names (hr.mono (by decide)) hgd (by rfl) (pad_cons (pd_var 0 (pv 0)) (pad_cons (pd_add (p2_ee pd_int (pd_cd c__law_any (hr.mono (by decide)) hgd (by rfl) (pad_cons (pd_var 0 (pv 0)) (pad_cons (pd_lst (pad_cons pd_int (pad_cons pd_int (pad_cons pd_int (pad_cons pd_int pad_nil))))) pad_nil))))) pad_nil))) (pd_cd c__law_names (hr.mono (by decide)) hgd (by rfl) (pad_cons (pd_var 0 (pv 0)) (pad_cons (pd_add (p2_ee pd_int (pd_cd c__law_draw (hr.mono (by decide)) hgd (by rfl) (pad_cons (pd_var 0 (pv 0)) (pad_cons pd_int pad_nil))))) pad_nil))) (by rfl)) (pss_consD (ps_parD (i := 5) (j := 6) rfl hN rfl rfl (by decide) rfl rfl (pd_lst pad_nil) (pd_lst pad_nil) (by rfl)) (pss_consD (ps_asgD (pd_cd c__law_any (hr.mono (by decide)) hgd (by rfl) (pad_cons (pd_var 0 (pv 0)) (pad_cons (pd_lst (pad_cons pd_int (pad_cons pd_int (pad_cons pd_int (pad_cons (pd_var 2 (pv 2)) (pad_cons (pd_pow (p2_ee pd_int pd_int)) pad_nil)))))) pad_nil))) (pgd_name hN (i := 7) rfl (.inr rfl))) (pss_consD (ps_forD PassesOwn.never rfl (pid_range1 (pd_var 2 (pv 2)) (by rfl) m_range) (pgd_name hN (i := 8) rfl (.inr rfl)) (pss_consD (ps_exprD (pd_append (pv 5) (pd_tupleOf (p1_e (pd_lc rfl hN (own := [("_law_k", 10)]) (pid_range1 (pd_len (p1_n 3 (pv 3)) (by rfl) m_len) (by rfl) m_range) (blkOk_by (by kernel_rfl)) (fun _ _ _ _ _ => (pgd_name hN (i := 10) rfl (.inl rfl))) (fun _ _ _ _ _ => ptsd_nil) (fun _ _ _ _ _ => (pd_cd c__law_move (hr.mono (by decide)) hgd (by rfl) (pad_cons (pd_var 0 (pv 0)) (pad_cons (pd_var 1 (pv 1)) (pad_cons (pd_var 8 (pv 8)) (pad_cons (pd_var 2 (pv 2)) pad_nil)))))))) (by rfl) m_tuple))) (pss_consD (ps_setLcD (i := 9) rfl hN rfl rfl (by rfl) (own := [("_law_k", 10)]) (pid_range1 (pd_len (p1_n 4 (pv 4)) (by rfl) m_len) (by rfl) m_range) (blkOk_by (by kernel_rfl)) (fun _ _ _ _ _ => (pgd_name hN (i := 10) rfl (.inl rfl))) (fun _ _ _ _ _ => ptsd_nil) (fun _ _ _ _ _ => (pd_if (c_lt (p2_ne 7 (pv 7) pd_int)).t (pd_cd c__law_draw (hr.mono (by decide)) hgd (by rfl) (pad_cons (pd_var 0 (pv 0)) (pad_cons (pd_var 7 (pv 7)) pad_nil))) (pd_subI (p2_ne 7 (pv 7) (pd_cd c__law_draw (hr.mono (by decide)) hgd (by rfl) (pad_cons (pd_var 0 (pv 0)) (pad_cons pd_int pad_nil)))))))) (pss_oneD (ps_exprD (pd_append (pv 6) (pd_tupleOf (p1_e (pd_lc rfl hN (own := [("_law_told", 11)]) (pid_val (pd_var 9 (pv 9))) (blkOk_by (by kernel_rfl)) (fun _ _ _ _ _ => (pgd_name hN (i := 11) rfl (.inl rfl))) (fun _ _ _ _ _ => ptsd_nil) (fun _ _ _ _ _ => (pd_if (c_eq hu64 (p2_ee (pd_cd c__law_draw (hr.mono (by decide)) hgd (by rfl) (pad_cons (pd_var 0 (pv 0)) (pad_cons pd_int pad_nil))) pd_int)).t (pd_var 8 (pv 8)) (pd_var 11 (pv 11)))))) (by rfl) m_tuple))))))) (pss_oneD (ps_retD (pd_tup (pad_cons (pd_var 3 (pv 3)) (pad_cons (pd_var 4 (pv 4)) (pad_cons (pd_tupleOf (p1_n 5 (pv 5)) (by rfl) m_tuple) (pad_cons (pd_tupleOf (p1_n 6 (pv 6)) (by rfl) m_tuple) pad_nil))))))))))))
abbrev s__law_ages : Stmt := topS 46
theorem sc__law_ages : FnScope ["_law_box_here", "_law_k", "_law_found", "_law_s", "_law_other", "_law_late", "_law_front", "_law_age_now", "_law_t", "_law_u"] ["_law_box_here", "_law_k"] (defScope s__law_ages) := ⟨rfl, rfl, rfl, by decide +kernel, rfl, by decide +kernel, by decide +kernel⟩
theorem ok__law_ages {P : Program} {w : World} {K : PySem.W.Frag} {mg : Str → Option Value} {base : Heap} {f : Addr} {fd : FuncData} (F : Fun K "_law_ages" "_law_ages" s__law_ages f fd) (hm : mg "_law_ages" = some (.ref f)) (m_len : mg "len" = none) (m_range : mg "range" = none) (c__law_come_from : Cd P w K mg base 1 "_law_come_from" ["_law_box_here", "_law_s"] [] D__law_come_from) :
    Cd P w K mg base 2 "_law_ages" ["_law_box_here", "_law_k"] [] D__law_ages := by
  refine Cd.of (k := 1) (N := ["_law_box_here", "_law_k", "_law_found", "_law_s", "_law_other", "_law_late", "_law_front", "_law_age_now", "_law_t", "_law_u"]) (bf := B__law_ages) F hm sc__law_ages (fun _ _ _ _ _ _ us hl => match us, hl with | [_, _], _ => rfl) (fun _ hq => nomatch hq) (fun cdv A outer s H hr hgd Γ => ?_)
  have hN := sc__law_ages.nd
  have hu64 : (A.deeper (envOfC "_law_ages" (defScope s__law_ages) s.heap.objs.size f cdv)).units + 64 < cLine := by have := hr.un; omega
  have hu65 : (A.deeper (envOfC "_law_ages" (defScope s__law_ages) s.heap.objs.size f cdv)).units + 65 < cLine := by have := hr.un; omega
  have hu1 : (A.deeper (envOfC "_law_ages" (defScope s__law_ages) s.heap.objs.size f cdv)).units + 1 < cLine := by have := hr.un; omega
  exact (pss_consD (ps_asgD (pd_mul (p2_ee (pd_lst (pad_cons pd_bl pad_nil)) pd_int)) (pgd_name hN (i := 2) rfl (.inl rfl))) (pss_consD (ps_forD PassesOwn.never rfl (pid_val (pd_cd c__law_come_from (hr.mono (by decide)) hgd (by rfl) (pad_cons (pd_var 0 (pv 0)) (pad_cons pd_int pad_nil)))) (pgd_name hN (i := 3) rfl (.inr rfl)) (pss_consD (ps_setLcD (i := 4) rfl hN rfl rfl (by rfl) (own := [("_law_t", 8)]) (pid_range1 (pd_len (p1_e (pd_sub hu1 (p2_ne 0 (pv 0) pd_int) (fun _ _ => rfl) (fun _ _ => rfl))) (by rfl) m_len) (by rfl) m_range) (blkOk_by (by kernel_rfl)) (fun _ _ _ _ _ => (pgd_name hN (i := 8) rfl (.inl rfl))) (fun _ _ _ _ _ => (ptsd_one (c_ne hu64 (p2_ee (pd_sub hu1 (p2_en 1 (pd_sub hu1 (p2_en 8 (pd_sub hu1 (p2_ne 0 (pv 0) pd_int) (fun _ _ => rfl) (fun _ _ => rfl)) (pv 8)) (fun _ _ => rfl) (fun _ _ => rfl)) (pv 1)) (fun _ _ => rfl) (fun _ _ => rfl)) (pd_sub hu1 (p2_en 1 (pd_sub hu1 (p2_en 3 (pd_sub hu1 (p2_ne 0 (pv 0) pd_int) (fun _ _ => rfl) (fun _ _ => rfl)) (pv 3)) (fun _ _ => rfl) (fun _ _ => rfl)) (pv 1)) (fun _ _ => rfl) (fun _ _ => rfl)))).t)) (fun _ _ _ _ _ => (pd_var 8 (pv 8)))) (pss_consD (ps_asgD (pd_cd c__law_come_from (hr.mono (by decide)) hgd (by rfl) (pad_cons (pd_var 0 (pv 0)) (pad_cons (pd_var 3 (pv 3)) pad_nil))) (pgd_name hN (i := 5) rfl (.inr rfl))) (pss_consD (ps_asgD (pd_lc rfl hN (own := [("_law_t", 8)]) (pid_val (pd_var 4 (pv 4))) (blkOk_by (by kernel_rfl)) (fun _ _ _ _ _ => (pgd_name hN (i := 8) rfl (.inl rfl))) (fun _ _ _ _ _ => (ptsd_one (c_in hu65 (p2_nn 8 5 (pv 8) (pv 5))).t)) (fun _ _ _ _ _ => (pd_var 8 (pv 8)))) (pgd_name hN (i := 6) rfl (.inr rfl))) (pss_oneD (ps_forD PassesOwn.never rfl (pid_range1 pd_int (by rfl) m_range) (pgd_name hN (i := 7) rfl (.inl rfl)) (pss_consD (ps_ifD (c_eq hu64 (p2_ne 6 (pv 6) (pd_lst pad_nil))).t (pss_oneD ps_breakD) pss_nilD) (pss_consD (ps_setLD (pv 2) pd_bl (pd_var 7 (pv 7))) (pss_oneD (ps_asgD (pd_lc rfl hN (own := [("_law_t", 8)]) (pid_val (pd_var 4 (pv 4))) (blkOk_by (by kernel_rfl)) (fun _ _ _ _ _ => (pgd_name hN (i := 8) rfl (.inr rfl))) (fun _ _ _ _ _ => (ptsd_one (c_ne hu64 (p2_ee (pd_lc rfl hN (own := [("_law_u", 9)]) (pid_val (pd_var 6 (pv 6))) (blkOk_by (by kernel_rfl)) (fun _ _ _ _ _ => (pgd_name hN (i := 9) rfl (.inl rfl))) (fun _ _ _ _ _ => (ptsd_one (c_in hu65 (p2_ne 8 (pv 8) (pd_sub hu1 (p2_en 9 (pd_sub hu1 (p2_ne 0 (pv 0) pd_int) (fun _ _ => rfl) (fun _ _ => rfl)) (pv 9)) (fun _ _ => rfl) (fun _ _ => rfl)))).t)) (fun _ _ _ _ _ => (pd_var 9 (pv 9)))) (pd_lst pad_nil))).t)) (fun _ _ _ _ _ => (pd_var 8 (pv 8)))) (pgd_name hN (i := 6) rfl (.inr rfl)))))))))))) (pss_oneD (ps_retVD (i := 2) (pv 2)))))
abbrev s__law_come_from : Stmt := topS 47
theorem sc__law_come_from : FnScope ["_law_box_here", "_law_s", "_law_found", "_law_lap", "_law_u", "_law_t"] ["_law_box_here", "_law_s"] (defScope s__law_come_from) := ⟨rfl, rfl, rfl, by decide +kernel, rfl, by decide +kernel, by decide +kernel⟩
theorem ok__law_come_from {P : Program} {w : World} {K : PySem.W.Frag} {mg : Str → Option Value} {base : Heap} {f : Addr} {fd : FuncData} (F : Fun K "_law_come_from" "_law_come_from" s__law_come_from f fd) (hm : mg "_law_come_from" = some (.ref f)) (m_len : mg "len" = none) (m_list : mg "list" = none) (m_range : mg "range" = none) (m_sorted : mg "sorted" = none) :
    Cd P w K mg base 1 "_law_come_from" ["_law_box_here", "_law_s"] [] D__law_come_from := by
  refine Cd.of (k := 0) (N := ["_law_box_here", "_law_s", "_law_found", "_law_lap", "_law_u", "_law_t"]) (bf := B__law_come_from) F hm sc__law_come_from (fun _ _ _ _ _ _ us hl => match us, hl with | [_, _], _ => rfl) (fun _ hq => nomatch hq) (fun cdv A outer s H hr hgd Γ => ?_)
  have hN := sc__law_come_from.nd
  have hu64 : (A.deeper (envOfC "_law_come_from" (defScope s__law_come_from) s.heap.objs.size f cdv)).units + 64 < cLine := by have := hr.un; omega
  have hu65 : (A.deeper (envOfC "_law_come_from" (defScope s__law_come_from) s.heap.objs.size f cdv)).units + 65 < cLine := by have := hr.un; omega
  have hu1 : (A.deeper (envOfC "_law_come_from" (defScope s__law_come_from) s.heap.objs.size f cdv)).units + 1 < cLine := by have := hr.un; omega
  exact (pss_consD (ps_asgD (pd_dic (pd_var 1 (pv 1)) pd_bl) (pgd_name hN (i := 2) rfl (.inl rfl))) (pss_consD (ps_forD PassesOwn.never rfl (pid_range1 (pd_len (p1_e (pd_sub hu1 (p2_ne 0 (pv 0) pd_int) (fun _ _ => rfl) (fun _ _ => rfl))) (by rfl) m_len) (by rfl) m_range) (pgd_name hN (i := 3) rfl (.inl rfl)) (pss_oneD (ps_forD PassesOwn.never rfl (pid_val (pd_listOf rfl (p1_n 2 (pv 2)) (by rfl) m_list)) (pgd_name hN (i := 4) rfl (.inl rfl)) (pss_oneD (ps_forD PassesOwn.never rfl (pid_val (pd_sub hu1 (p2_en 4 (pd_sub hu1 (p2_ne 0 (pv 0) pd_int) (fun _ _ => rfl) (fun _ _ => rfl)) (pv 4)) (fun _ _ => rfl) (fun _ _ => rfl))) (pgd_name hN (i := 5) rfl (.inl rfl)) (pss_oneD (ps_setKD hu1 (pv 2) pd_bl (pd_var 5 (pv 5))))))))) (pss_oneD (ps_retD (pd_sorted rfl (p1_n 2 (pv 2)) (by rfl) m_sorted)))))
abbrev s__law_is_way : Stmt := topS 48
theorem sc__law_is_way : FnScope ["_law_box_here", "_law_odd", "_law_one"] ["_law_box_here", "_law_odd"] (defScope s__law_is_way) := ⟨rfl, rfl, rfl, by decide +kernel, rfl, by decide +kernel, by decide +kernel⟩
theorem ok__law_is_way {P : Program} {w : World} {K : PySem.W.Frag} {mg : Str → Option Value} {base : Heap} {f : Addr} {fd : FuncData} (F : Fun K "_law_is_way" "_law_is_way" s__law_is_way f fd) (hm : mg "_law_is_way" = some (.ref f)) (m_all : mg "all" = none) (m_isinstance : mg "isinstance" = none) (m_str : mg "str" = none) (m_tuple : mg "tuple" = none) :
    Cd P w K mg base 1 "_law_is_way" ["_law_box_here", "_law_odd"] [] D__law_is_way := by
  refine Cd.of (k := 0) (N := ["_law_box_here", "_law_odd", "_law_one"]) (bf := B__law_is_way) F hm sc__law_is_way (fun _ _ _ _ _ _ us hl => match us, hl with | [_, _], _ => rfl) (fun _ hq => nomatch hq) (fun cdv A outer s H hr hgd Γ => ?_)
  have hN := sc__law_is_way.nd
  have hu64 : (A.deeper (envOfC "_law_is_way" (defScope s__law_is_way) s.heap.objs.size f cdv)).units + 64 < cLine := by have := hr.un; omega
  have hu65 : (A.deeper (envOfC "_law_is_way" (defScope s__law_is_way) s.heap.objs.size f cdv)).units + 65 < cLine := by have := hr.un; omega
  have hu1 : (A.deeper (envOfC "_law_is_way" (defScope s__law_is_way) s.heap.objs.size f cdv)).units + 1 < cLine := by have := hr.un; omega
  exact (pss_consD (ps_ifD (ptd_not (pt_tru (p1_e (pd_isi (T := "tuple") (by simp) (p1_n 1 (pv 1)) (by rfl) m_isinstance (by rfl) m_tuple (by decide +kernel))))) (pss_oneD (ps_retD pd_bl)) pss_nilD) (pss_oneD (ps_retD (pd_all rfl (p1_e (pd_lc rfl hN (own := [("_law_one", 2)]) (pid_val (pd_var 1 (pv 1))) (blkOk_by (by kernel_rfl)) (fun _ _ _ _ _ => (pgd_name hN (i := 2) rfl (.inl rfl))) (fun _ _ _ _ _ => ptsd_nil) (fun _ _ _ _ _ => (pd_and (pd_isi (T := "str") (by simp) (p1_n 2 (pv 2)) (by rfl) m_isinstance (by rfl) m_str (by decide +kernel)) (pd_one (c_in hu65 (p2_ne 2 (pv 2) (pd_sub hu1 (p2_ne 0 (pv 0) pd_int) (fun _ _ => rfl) (fun _ _ => rfl)))).v))))) (by rfl) m_all))))
abbrev s__law_gone : Stmt := topS 49
theorem sc__law_gone : FnScope ["_law_box_here", "_law_s", "_law_way_here", "_law_found", "_law_one"] ["_law_box_here", "_law_s", "_law_way_here"] (defScope s__law_gone) := ⟨rfl, rfl, rfl, by decide +kernel, rfl, by decide +kernel, by decide +kernel⟩
theorem ok__law_gone {P : Program} {w : World} {K : PySem.W.Frag} {mg : Str → Option Value} {base : Heap} {f : Addr} {fd : FuncData} (F : Fun K "_law_gone" "_law_gone" s__law_gone f fd) (hm : mg "_law_gone" = some (.ref f)) :
    Cd P w K mg base 1 "_law_gone" ["_law_box_here", "_law_s", "_law_way_here"] [] D__law_gone := by
  refine Cd.of (k := 0) (N := ["_law_box_here", "_law_s", "_law_way_here", "_law_found", "_law_one"]) (bf := B__law_gone) F hm sc__law_gone (fun _ _ _ _ _ _ us hl => match us, hl with | [_, _, _], _ => rfl) (fun _ hq => nomatch hq) (fun cdv A outer s H hr hgd Γ => ?_)
  have hN := sc__law_gone.nd
  have hu64 : (A.deeper (envOfC "_law_gone" (defScope s__law_gone) s.heap.objs.size f cdv)).units + 64 < cLine := by have := hr.un; omega
  have hu65 : (A.deeper (envOfC "_law_gone" (defScope s__law_gone) s.heap.objs.size f cdv)).units + 65 < cLine := by have := hr.un; omega
  have hu1 : (A.deeper (envOfC "_law_gone" (defScope s__law_gone) s.heap.objs.size f cdv)).units + 1 < cLine := by have := hr.un; omega
  exact (pss_consD (ps_asgD (pd_lst pad_nil) (pgd_name hN (i := 3) rfl (.inl rfl))) (pss_consD (ps_forD PassesOwn.never rfl (pid_val (pd_var 2 (pv 2))) (pgd_name hN (i := 4) rfl (.inl rfl)) (pss_consD (ps_asgD (pd_sub hu1 (p2_ee (pd_sub hu1 (p2_en 1 (pd_sub hu1 (p2_ne 0 (pv 0) pd_int) (fun _ _ => rfl) (fun _ _ => rfl)) (pv 1)) (fun _ _ => rfl) (fun _ _ => rfl)) (pd_idx (pd_sub hu1 (p2_ne 0 (pv 0) pd_int) (fun _ _ => rfl) (fun _ _ => rfl)) (pd_var 4 (pv 4)))) (fun _ _ => rfl) (fun _ _ => rfl)) (pgd_name hN (i := 1) rfl (.inl rfl))) (pss_oneD (ps_exprD (pd_append (pv 3) (pd_var 1 (pv 1))))))) (pss_oneD (ps_retVD (i := 3) (pv 3)))))
abbrev s__law_is_walk : Stmt := topS 50
theorem sc__law_is_walk : FnScope ["_law_box_here", "_law_k", "_law_limit", "_law_odd", "_law_s", "_law_late", "_law_t"] ["_law_box_here", "_law_k", "_law_limit", "_law_odd"] (defScope s__law_is_walk) := ⟨rfl, rfl, rfl, by decide +kernel, rfl, by decide +kernel, by decide +kernel⟩
theorem ok__law_is_walk {P : Program} {w : World} {K : PySem.W.Frag} {mg : Str → Option Value} {base : Heap} {f : Addr} {fd : FuncData} (F : Fun K "_law_is_walk" "_law_is_walk" s__law_is_walk f fd) (hm : mg "_law_is_walk" = some (.ref f)) (m_isinstance : mg "isinstance" = none) (m_len : mg "len" = none) (m_tuple : mg "tuple" = none) (c__law_gone : Cd P w K mg base 1 "_law_gone" ["_law_box_here", "_law_s", "_law_way_here"] [] D__law_gone) (c__law_is_way : Cd P w K mg base 1 "_law_is_way" ["_law_box_here", "_law_odd"] [] D__law_is_way) :
    Cd P w K mg base 2 "_law_is_walk" ["_law_box_here", "_law_k", "_law_limit", "_law_odd"] [] D__law_is_walk := by
  refine Cd.of (k := 1) (N := ["_law_box_here", "_law_k", "_law_limit", "_law_odd", "_law_s", "_law_late", "_law_t"]) (bf := B__law_is_walk) F hm sc__law_is_walk (fun _ _ _ _ _ _ us hl => match us, hl with | [_, _, _, _], _ => rfl) (fun _ hq => nomatch hq) (fun cdv A outer s H hr hgd Γ => ?_)
  have hN := sc__law_is_walk.nd
  have hu64 : (A.deeper (envOfC "_law_is_walk" (defScope s__law_is_walk) s.heap.objs.size f cdv)).units + 64 < cLine := by have := hr.un; omega
  have hu65 : (A.deeper (envOfC "_law_is_walk" (defScope s__law_is_walk) s.heap.objs.size f cdv)).units + 65 < cLine := by have := hr.un; omega
  have hu1 : (A.deeper (envOfC "_law_is_walk" (defScope s__law_is_walk) s.heap.objs.size f cdv)).units + 1 < cLine := by have := hr.un; omega
  exact (pss_consD (ps_ifD ((pwd_or (ptd_not (pt_tru (p1_e (pd_isi (T := "tuple") (by simp) (p1_n 3 (pv 3)) (by rfl) m_isinstance (by rfl) m_tuple (by decide +kernel))))) (pw_one (c_ne hu64 (p2_ee (pd_len (p1_n 3 (pv 3)) (by rfl) m_len) pd_int)).t))).pt (pss_oneD (ps_retD pd_bl)) pss_nilD) (pss_consD (ps_ifD ((pwd_or (ptd_not (pt_tru (p1_e (pd_cd c__law_is_way (hr.mono (by decide)) hgd (by rfl) (pad_cons (pd_var 0 (pv 0)) (pad_cons (pd_sub hu1 (p2_ne 3 (pv 3) pd_int) (fun _ _ => rfl) (fun _ _ => rfl)) pad_nil)))))) (pwd_or (ptd_not (pt_tru (p1_e (pd_cd c__law_is_way (hr.mono (by decide)) hgd (by rfl) (pad_cons (pd_var 0 (pv 0)) (pad_cons (pd_sub hu1 (p2_ne 3 (pv 3) pd_int) (fun _ _ => rfl) (fun _ _ => rfl)) pad_nil)))))) (pw_one (c_le (p2_en 2 (pd_len (p1_e (pd_sub hu1 (p2_ne 3 (pv 3) pd_int) (fun _ _ => rfl) (fun _ _ => rfl))) (by rfl) m_len) (pv 2))).t)))).pt (pss_oneD (ps_retD pd_bl)) pss_nilD) (pss_consD (ps_asgD (pd_sub hu1 (p2_ee (pd_add (p2_ee (pd_lst (pad_cons pd_int pad_nil)) (pd_cd c__law_gone (hr.mono (by decide)) hgd (by rfl) (pad_cons (pd_var 0 (pv 0)) (pad_cons pd_int (pad_cons (pd_sub hu1 (p2_ne 3 (pv 3) pd_int) (fun _ _ => rfl) (fun _ _ => rfl)) pad_nil)))))) (pd_neg pd_int)) (fun _ _ => rfl) (fun _ _ => rfl)) (pgd_name hN (i := 4) rfl (.inr rfl))) (pss_consD (ps_asgD (pd_cut (pd_cd c__law_gone (hr.mono (by decide)) hgd (by rfl) (pad_cons (pd_var 0 (pv 0)) (pad_cons (pd_var 4 (pv 4)) (pad_cons (pd_sub hu1 (p2_ne 3 (pv 3) pd_int) (fun _ _ => rfl) (fun _ _ => rfl)) pad_nil)))) (pod_some (pd_subI (p2_en 2 (pd_subI (p2_ee (pd_len (p1_e (pd_sub hu1 (p2_ne 3 (pv 3) pd_int) (fun _ _ => rfl) (fun _ _ => rfl))) (by rfl) m_len) pd_int)) (pv 2)))) pod_none) (pgd_name hN (i := 5) rfl (.inl rfl))) (pss_oneD (ps_retD (c_eq hu64 (p2_ee (pd_lc rfl hN (own := [("_law_t", 6)]) (pid_val (pd_var 5 (pv 5))) (blkOk_by (by kernel_rfl)) (fun _ _ _ _ _ => (pgd_name hN (i := 6) rfl (.inl rfl))) (fun _ _ _ _ _ => (ptsd_one (c_eq hu64 (p2_ee (pd_sub hu1 (p2_en 1 (pd_sub hu1 (p2_en 6 (pd_sub hu1 (p2_ne 0 (pv 0) pd_int) (fun _ _ => rfl) (fun _ _ => rfl)) (pv 6)) (fun _ _ => rfl) (fun _ _ => rfl)) (pv 1)) (fun _ _ => rfl) (fun _ _ => rfl)) (pd_sub hu1 (p2_en 1 (pd_sub hu1 (p2_en 4 (pd_sub hu1 (p2_ne 0 (pv 0) pd_int) (fun _ _ => rfl) (fun _ _ => rfl)) (pv 4)) (fun _ _ => rfl) (fun _ _ => rfl)) (pv 1)) (fun _ _ => rfl) (fun _ _ => rfl)))).t)) (fun _ _ _ _ _ => (pd_var 6 (pv 6)))) (pd_lst pad_nil))).v))))))
abbrev s__law_way : Stmt := topS 51
theorem sc__law_way : FnScope ["_law_feed_here", "_law_box_here", "_law_most", "_law_lap"] ["_law_feed_here", "_law_box_here", "_law_most"] (defScope s__law_way) := ⟨rfl, rfl, rfl, by decide +kernel, rfl, by decide +kernel, by decide +kernel⟩
theorem ok__law_way {P : Program} {w : World} {K : PySem.W.Frag} {mg : Str → Option Value} {base : Heap} {f : Addr} {fd : FuncData} (F : Fun K "_law_way" "_law_way" s__law_way f fd) (hm : mg "_law_way" = some (.ref f)) (m_range : mg "range" = none) (m_tuple : mg "tuple" = none) (c__law_any : Cd P w K mg base 2 "_law_any" ["_law_feed_here", "_law_some"] [] D__law_any) (c__law_draw : Cd P w K mg base 1 "_law_draw" ["_law_feed_here", "_law_size"] [] D__law_draw) :
    Cd P w K mg base 3 "_law_way" ["_law_feed_here", "_law_box_here", "_law_most"] [] D__law_way := by
  refine Cd.of (k := 2) (N := ["_law_feed_here", "_law_box_here", "_law_most", "_law_lap"]) (bf := B__law_way) F hm sc__law_way (fun _ _ _ _ _ _ us hl => match us, hl with | [_, _, _], _ => rfl) (fun _ hq => nomatch hq) (fun cdv A outer s H hr hgd Γ => ?_)
  have hN := sc__law_way.nd
  have hu64 : (A.deeper (envOfC "_law_way" (defScope s__law_way) s.heap.objs.size f cdv)).units + 64 < cLine := by have := hr.un; omega
  have hu65 : (A.deeper (envOfC "_law_way" (defScope s__law_way) s.heap.objs.size f cdv)).units + 65 < cLine := by have := hr.un; omega
  have hu1 : (A.deeper (envOfC "_law_way" (defScope s__law_way) s.heap.objs.size f cdv)).units + 1 < cLine := by have := hr.un; omega
  exact (pss_oneD (ps_retD (pd_tupleOf (p1_e (pd_lc rfl hN (own := [("_law_lap", 3)]) (pid_range1 (pd_cd c__law_draw (hr.mono (by decide)) hgd (by rfl) (pad_cons (pd_var 0 (pv 0)) (pad_cons (pd_add (p2_ne 2 (pv 2) pd_int)) pad_nil))) (by rfl) m_range) (blkOk_by (by kernel_rfl)) (fun _ _ _ _ _ => (pgd_name hN (i := 3) rfl (.inl rfl))) (fun _ _ _ _ _ => ptsd_nil) (fun _ _ _ _ _ => (pd_cd c__law_any (hr.mono (by decide)) hgd (by rfl) (pad_cons (pd_var 0 (pv 0)) (pad_cons (pd_sub hu1 (p2_ne 1 (pv 1) pd_int) (fun _ _ => rfl) (fun _ _ => rfl)) pad_nil)))))) (by rfl) m_tuple)))
end K8

set_option Elab.async false
set_option linter.all false
set_option maxRecDepth 100000
set_option maxHeartbeats 1000000
namespace K8
open PySem PySem.Spec PyProof.Rows L2 PD

abbrev s__law_things : Stmt := topS 52
theorem sc__law_things : FnScope ["_law_feed_here", "_law_box_here", "_law_limit", "_law_walk", "_law_ahead", "_law_way_here", "_law_found", "_law_k", "_law_odd", "_law_late"] ["_law_feed_here", "_law_box_here", "_law_limit", "_law_walk"] (defScope s__law_things) := ⟨rfl, rfl, rfl, by decide +kernel, rfl, by decide +kernel, by decide +kernel⟩
theorem ok__law_things {P : Program} {w : World} {K : PySem.W.Frag} {mg : Str → Option Value} {base : Heap} {f : Addr} {fd : FuncData} (F : Fun K "_law_things" "_law_things" s__law_things f fd) (hm : mg "_law_things" = some (.ref f)) (m_len : mg "len" = none) (m_list : mg "list" = none) (c__law_any : Cd P w K mg base 2 "_law_any" ["_law_feed_here", "_law_some"] [] D__law_any) (c__law_draw : Cd P w K mg base 1 "_law_draw" ["_law_feed_here", "_law_size"] [] D__law_draw) (c__law_way : Cd P w K mg base 3 "_law_way" ["_law_feed_here", "_law_box_here", "_law_most"] [] D__law_way) :
    Cd P w K mg base 4 "_law_things" ["_law_feed_here", "_law_box_here", "_law_limit", "_law_walk"] [] D__law_things := by
  refine Cd.of (k := 3) (N := ["_law_feed_here", "_law_box_here", "_law_limit", "_law_walk", "_law_ahead", "_law_way_here", "_law_found", "_law_k", "_law_odd", "_law_late"]) (bf := B__law_things) F hm sc__law_things (fun _ _ _ _ _ _ us hl => match us, hl with | [_, _, _, _], _ => rfl) (fun _ hq => nomatch hq) (fun cdv A outer s H hr hgd Γ => ?_)
  have hN := sc__law_things.nd
  have hu64 : (A.deeper (envOfC "_law_things" (defScope s__law_things) s.heap.objs.size f cdv)).units + 64 < cLine := by have := hr.un; omega
  have hu65 : (A.deeper (envOfC "_law_things" (defScope s__law_things) s.heap.objs.size f cdv)).units + 65 < cLine := by have := hr.un; omega
  have hu1 : (A.deeper (envOfC "_law_things" (defScope s__law_things) s.heap.objs.size f cdv)).units + 1 < cLine := by have := hr.un; omega
  exact (pss_consD (ps_parD (i := 4) (j := 5) rfl hN rfl rfl (by decide) rfl rfl (pd_cd c__law_way (hr.mono (by decide)) hgd (by rfl) (pad_cons (pd_var 0 (pv 0)) (pad_cons (pd_var 1 (pv 1)) (pad_cons pd_int pad_nil)))) (pd_cd c__law_way (hr.mono (by decide)) hgd (by rfl) (pad_cons (pd_var 0 (pv 0)) (pad_cons (pd_var 1 (pv 1)) (pad_cons pd_int pad_nil)))) (by rfl)) (pss_consD (ps_asgD (pd_lst (pad_cons (pd_var 3 (pv 3)) (pad_cons (pd_tup (pad_cons (pd_var 4 (pv 4)) (pad_cons (pd_var 5 (pv 5)) pad_nil))) (pad_cons (pd_tup (pad_cons (pd_var 4 (pv 4)) (pad_cons (pd_cut (pd_mul (p2_ne 5 (pv 5) pd_int)) pod_none (pod_some (pd_add (p2_ne 2 (pv 2) pd_int)))) pad_nil))) (pad_cons (pd_tup (pad_cons (pd_tup pad_nil) (pad_cons (pd_var 5 (pv 5)) pad_nil))) (pad_cons (pd_tup (pad_cons (pd_var 5 (pv 5)) (pad_cons (pd_var 4 (pv 4)) pad_nil))) (pad_cons (pd_tup (pad_cons (pd_mul (p2_ne 4 (pv 4) pd_int)) (pad_cons (pd_mul (p2_ne 5 (pv 5) pd_int)) pad_nil))) pad_nil))))))) (pgd_name hN (i := 6) rfl (.inl rfl))) (pss_consD (ps_ifD (c_notN (p1_n 3 (pv 3))).t (pss_consD (ps_asgD (pd_var 3 (pv 3)) (pgd_tup rfl (pgs_consD (pgd_name hN (i := 4) rfl (.inl rfl)) (pgs_consD (pgd_name hN (i := 5) rfl (.inl rfl)) pgs_nilD)) rfl)) (pss_consD (ps_asgD (pd_add (p2_ne 6 (pv 6) (pd_lst (pad_cons (pd_tup (pad_cons (pd_var 4 (pv 4)) (pad_cons (pd_cutN 5 (pv 5) (pod_some pd_int) pod_none) pad_nil))) (pad_cons (pd_tup (pad_cons (pd_var 4 (pv 4)) (pad_cons (pd_cutN 5 (pv 5) pod_none (pod_some (pd_neg pd_int))) pad_nil))) (pad_cons (pd_tup (pad_cons (pd_cutN 4 (pv 4) (pod_some pd_int) pod_none) (pad_cons (pd_var 5 (pv 5)) pad_nil))) (pad_cons (pd_tup (pad_cons (pd_add (p2_nn 4 5 (pv 4) (pv 5))) (pad_cons (pd_var 5 (pv 5)) pad_nil))) pad_nil))))))) (pgd_name hN (i := 6) rfl (.inl rfl))) (pss_consD (ps_exprD (pd_append (pv 6) (pd_tup (pad_cons (pd_add (p2_ne 4 (pv 4) (pd_cutN 5 (pv 5) pod_none (pod_some pd_int)))) (pad_cons (pd_cutN 5 (pv 5) (pod_some pd_int) pod_none) pad_nil))))) (pss_consD (ps_asgD (pd_add (p2_ne 6 (pv 6) (pd_lst (pad_cons (pd_tup (pad_cons (pd_var 4 (pv 4)) (pad_cons (pd_add (p2_en 5 (pd_cutN 5 (pv 5) pod_none (pod_some pd_int)) (pv 5))) pad_nil))) (pad_cons (pd_tup (pad_cons (pd_var 4 (pv 4)) (pad_cons (pd_add (p2_ne 5 (pv 5) (pd_cutN 5 (pv 5) (pod_some (pd_neg pd_int)) pod_none))) pad_nil))) (pad_cons (pd_tup (pad_cons (pd_add (p2_en 4 (pd_tup (pad_cons (pd_sub hu1 (p2_ee (pd_sub hu1 (p2_ne 1 (pv 1) pd_int) (fun _ _ => rfl) (fun _ _ => rfl)) (pd_neg pd_int)) (fun _ _ => rfl) (fun _ _ => rfl)) pad_nil)) (pv 4))) (pad_cons (pd_var 5 (pv 5)) pad_nil))) pad_nil)))))) (pgd_name hN (i := 6) rfl (.inl rfl))) (pss_oneD (ps_asgD (pd_add (p2_ne 6 (pv 6) (pd_lst (pad_cons (pd_tup (pad_cons (pd_var 4 (pv 4)) (pad_cons (pd_add (p2_en 5 (pd_mul (p2_ee (pd_tup (pad_cons (pd_sub hu1 (p2_ee (pd_sub hu1 (p2_ne 1 (pv 1) pd_int) (fun _ _ => rfl) (fun _ _ => rfl)) pd_int) (fun _ _ => rfl) (fun _ _ => rfl)) pad_nil)) pd_int)) (pv 5))) pad_nil))) (pad_cons (pd_tup (pad_cons (pd_var 5 (pv 5)) (pad_cons (pd_var 4 (pv 4)) pad_nil))) pad_nil))))) (pgd_name hN (i := 6) rfl (.inl rfl)))))))) pss_nilD) (pss_consD (ps_asgD (pd_cd c__law_draw (hr.mono (by decide)) hgd (by rfl) (pad_cons (pd_var 0 (pv 0)) (pad_cons (pd_add (p2_ee (pd_len (p1_n 5 (pv 5)) (by rfl) m_len) pd_int)) pad_nil))) (pgd_name hN (i := 7) rfl (.inl rfl))) (pss_consD (ps_asgD (pd_cd c__law_any (hr.mono (by decide)) hgd (by rfl) (pad_cons (pd_var 0 (pv 0)) (pad_cons (pd_lst (pad_cons pd_non (pad_cons pd_str (pad_cons pd_int (pad_cons pd_bl (pad_cons pd_str (pad_cons (pd_tup (pad_cons (pd_sub hu1 (p2_ee (pd_sub hu1 (p2_ne 1 (pv 1) pd_int) (fun _ _ => rfl) (fun _ _ => rfl)) pd_int) (fun _ _ => rfl) (fun _ _ => rfl)) pad_nil)) (pad_cons (pd_add (p2_ee (pd_sub hu1 (p2_ee (pd_sub hu1 (p2_ne 1 (pv 1) pd_int) (fun _ _ => rfl) (fun _ _ => rfl)) pd_int) (fun _ _ => rfl) (fun _ _ => rfl)) pd_str)) (pad_cons (pd_lst (pad_cons (pd_sub hu1 (p2_ee (pd_sub hu1 (p2_ne 1 (pv 1) pd_int) (fun _ _ => rfl) (fun _ _ => rfl)) pd_int) (fun _ _ => rfl) (fun _ _ => rfl)) pad_nil)) (pad_cons (pd_neg pd_int) pad_nil)))))))))) pad_nil))) (pgd_name hN (i := 8) rfl (.inl rfl))) (pss_consD (ps_asgD (pd_add (p2_ee (pd_add (p2_ee (pd_cutN 5 (pv 5) pod_none (pod_some (pd_var 7 (pv 7)))) (pd_tup (pad_cons (pd_var 8 (pv 8)) pad_nil)))) (pd_cutN 5 (pv 5) (pod_some (pd_var 7 (pv 7))) pod_none))) (pgd_name hN (i := 9) rfl (.inl rfl))) (pss_consD (ps_asgD (pd_add (p2_ne 6 (pv 6) (pd_lst (pad_cons (pd_tup (pad_cons (pd_var 4 (pv 4)) (pad_cons (pd_var 9 (pv 9)) pad_nil))) (pad_cons (pd_tup (pad_cons (pd_var 9 (pv 9)) (pad_cons (pd_var 5 (pv 5)) pad_nil))) (pad_cons (pd_tup (pad_cons (pd_var 4 (pv 4)) (pad_cons (pd_listOf rfl (p1_n 5 (pv 5)) (by rfl) m_list) pad_nil))) (pad_cons (pd_tup (pad_cons (pd_listOf rfl (p1_n 4 (pv 4)) (by rfl) m_list) (pad_cons (pd_var 5 (pv 5)) pad_nil))) (pad_cons (pd_lst (pad_cons (pd_var 4 (pv 4)) (pad_cons (pd_var 5 (pv 5)) pad_nil))) pad_nil)))))))) (pgd_name hN (i := 6) rfl (.inl rfl))) (pss_oneD (ps_retD (pd_add (p2_ne 6 (pv 6) (pd_lst (pad_cons (pd_tup (pad_cons (pd_var 4 (pv 4)) (pad_cons (pd_var 5 (pv 5)) (pad_cons (pd_tup pad_nil) pad_nil)))) (pad_cons (pd_tup (pad_cons (pd_var 4 (pv 4)) pad_nil)) (pad_cons (pd_tup pad_nil) (pad_cons pd_non (pad_cons (pd_var 5 (pv 5)) (pad_cons pd_int (pad_cons pd_str (pad_cons (pd_tup (pad_cons (pd_var 4 (pv 4)) (pad_cons pd_non pad_nil))) (pad_cons (pd_tup (pad_cons pd_str (pad_cons (pd_var 5 (pv 5)) pad_nil))) (pad_cons (pd_tup (pad_cons (pd_var 4 (pv 4)) (pad_cons (pd_sub hu1 (p2_ee (pd_sub hu1 (p2_ne 1 (pv 1) pd_int) (fun _ _ => rfl) (fun _ _ => rfl)) pd_int) (fun _ _ => rfl) (fun _ _ => rfl)) pad_nil))) pad_nil))))))))))))))))))))))
abbrev s__law_are_walks_right : Stmt := topS 53
theorem sc__law_are_walks_right : FnScope ["_law_feed_here", "_law_box_here", "_law_k", "_law_limit", "_law_past", "_law_eye", "_law_late", "_law_again", "_law_one"] ["_law_feed_here", "_law_box_here", "_law_k", "_law_limit", "_law_past"] (defScope s__law_are_walks_right) := ⟨rfl, rfl, rfl, by decide +kernel, rfl, by decide +kernel, by decide +kernel⟩
theorem ok__law_are_walks_right {P : Program} {w : World} {K : PySem.W.Frag} {mg : Str → Option Value} {base : Heap} {f : Addr} {fd : FuncData} (F : Fun K "_law_are_walks_right" "_law_are_walks_right" s__law_are_walks_right f fd) (hm : mg "_law_are_walks_right" = some (.ref f)) (c__law_is_walk : Cd P w K mg base 2 "_law_is_walk" ["_law_box_here", "_law_k", "_law_limit", "_law_odd"] [] D__law_is_walk) (c__law_same : Cd P w K mg base 1 "_law_same" ["_law_told", "_law_due"] [] D__law_same) (c__law_things : Cd P w K mg base 4 "_law_things" ["_law_feed_here", "_law_box_here", "_law_limit", "_law_walk"] [] D__law_things) (c_is_moving : Cd P w K mg base 8 "is_moving" ["machine", "look", "age", "thing"] [(["thing", "age", "look", "machine"], [3, 2, 1, 0])] D_is_moving) (c_moving_walk : Cd P w K mg base 8 "moving_walk" ["machine", "look", "age"] [(["age", "look", "machine"], [2, 1, 0])] D_moving_walk) :
    Cd P w K mg base 9 "_law_are_walks_right" ["_law_feed_here", "_law_box_here", "_law_k", "_law_limit", "_law_past"] [] D__law_are_walks_right := by
  refine Cd.of (k := 8) (N := ["_law_feed_here", "_law_box_here", "_law_k", "_law_limit", "_law_past", "_law_eye", "_law_late", "_law_again", "_law_one"]) (bf := B__law_are_walks_right) F hm sc__law_are_walks_right (fun _ _ _ _ _ _ us hl => match us, hl with | [_, _, _, _, _], _ => rfl) (fun _ hq => nomatch hq) (fun cdv A outer s H hr hgd Γ => ?_)
  have hN := sc__law_are_walks_right.nd
  have hu64 : (A.deeper (envOfC "_law_are_walks_right" (defScope s__law_are_walks_right) s.heap.objs.size f cdv)).units + 64 < cLine := by have := hr.un; omega
  have hu65 : (A.deeper (envOfC "_law_are_walks_right" (defScope s__law_are_walks_right) s.heap.objs.size f cdv)).units + 65 < cLine := by have := hr.un; omega
  have hu1 : (A.deeper (envOfC "_law_are_walks_right" (defScope s__law_are_walks_right) s.heap.objs.size f cdv)).units + 1 < cLine := by have := hr.un; omega
  exact (pss_consD (ps_parD (i := 5) (j := 6) rfl hN rfl rfl (by decide) rfl rfl (pd_sub hu1 (p2_en 2 (pd_sub hu1 (p2_ne 1 (pv 1) pd_int) (fun _ _ => rfl) (fun _ _ => rfl)) (pv 2)) (fun _ _ => rfl) (fun _ _ => rfl)) (pd_cd c_moving_walk (hr.mono (by decide)) hgd (by rfl) (pad_cons (pd_var 1 (pv 1)) (pad_cons (pd_sub hu1 (p2_en 2 (pd_sub hu1 (p2_ne 1 (pv 1) pd_int) (fun _ _ => rfl) (fun _ _ => rfl)) (pv 2)) (fun _ _ => rfl) (fun _ _ => rfl)) (pad_cons (pd_var 3 (pv 3)) pad_nil)))) (by rfl)) (pss_consD (ps_ifD ((pwd_or (c_ne hu64 (p2_ne 4 (pv 4) (pd_cd c__law_is_walk (hr.mono (by decide)) hgd (by rfl) (pad_cons (pd_var 1 (pv 1)) (pad_cons (pd_var 2 (pv 2)) (pad_cons (pd_var 3 (pv 3)) (pad_cons (pd_var 6 (pv 6)) pad_nil))))))).t (pw_one ((pwd_and (ptd_not (pt_tru (p1_n 4 (pv 4)))) (pw_one (c_notN (p1_n 6 (pv 6))).t))).pt))).pt (pss_oneD (ps_retD pd_bl)) pss_nilD) (pss_consD (ps_asgD (pd_cdK (ks := ["age", "look", "machine"]) [2, 1, 0] c_moving_walk (List.mem_singleton.mpr rfl) (hr.mono (by decide)) hgd (by rfl) (pkd_cons (pd_var 3 (pv 3)) (pkd_cons (pd_var 5 (pv 5)) (pkd_cons (pd_var 1 (pv 1)) pkd_nil)))) (pgd_name hN (i := 7) rfl (.inl rfl))) (pss_consD (ps_ifD ((pwd_or (c_ne hu64 (p2_ne 4 (pv 4) (pd_cd c__law_is_walk (hr.mono (by decide)) hgd (by rfl) (pad_cons (pd_var 1 (pv 1)) (pad_cons (pd_var 2 (pv 2)) (pad_cons (pd_var 3 (pv 3)) (pad_cons (pd_var 7 (pv 7)) pad_nil))))))).t (pw_one ((pwd_and (ptd_not (pt_tru (p1_n 4 (pv 4)))) (pw_one (c_notN (p1_n 7 (pv 7))).t))).pt))).pt (pss_oneD (ps_retD pd_bl)) pss_nilD) (pss_consD (ps_forD PassesOwn.never rfl (pid_val (pd_cd c__law_things (hr.mono (by decide)) hgd (by rfl) (pad_cons (pd_var 0 (pv 0)) (pad_cons (pd_var 1 (pv 1)) (pad_cons (pd_var 3 (pv 3)) (pad_cons (pd_var 6 (pv 6)) pad_nil)))))) (pgd_name hN (i := 8) rfl (.inl rfl)) (pss_oneD (ps_ifD (ptd_not (pt_tru (p1_e (pd_cd c__law_same (hr.mono (by decide)) hgd (by rfl) (pad_cons (pd_cd c_is_moving (hr.mono (by decide)) hgd (by rfl) (pad_cons (pd_var 1 (pv 1)) (pad_cons (pd_var 5 (pv 5)) (pad_cons (pd_var 3 (pv 3)) (pad_cons (pd_var 8 (pv 8)) pad_nil))))) (pad_cons (pd_cd c__law_is_walk (hr.mono (by decide)) hgd (by rfl) (pad_cons (pd_var 1 (pv 1)) (pad_cons (pd_var 2 (pv 2)) (pad_cons (pd_var 3 (pv 3)) (pad_cons (pd_var 8 (pv 8)) pad_nil))))) pad_nil)))))) (pss_oneD (ps_retD pd_bl)) pss_nilD))) (pss_consD (ps_ifD (ptd_not (pt_tru (p1_e (pd_cd c__law_same (hr.mono (by decide)) hgd (by rfl) (pad_cons (pd_cdK (ks := ["thing", "age", "look", "machine"]) [3, 2, 1, 0] c_is_moving (List.mem_singleton.mpr rfl) (hr.mono (by decide)) hgd (by rfl) (pkd_cons (pd_var 6 (pv 6)) (pkd_cons (pd_var 3 (pv 3)) (pkd_cons (pd_var 5 (pv 5)) (pkd_cons (pd_var 1 (pv 1)) pkd_nil))))) (pad_cons (pd_var 4 (pv 4)) pad_nil)))))) (pss_oneD (ps_retD pd_bl)) pss_nilD) (pss_oneD (ps_retD (pd_or (c_eq hu64 (p2_ne 3 (pv 3) pd_int)).v (pd_one (pd_cd c__law_same (hr.mono (by decide)) hgd (by rfl) (pad_cons (pd_cd c_is_moving (hr.mono (by decide)) hgd (by rfl) (pad_cons (pd_var 1 (pv 1)) (pad_cons (pd_var 5 (pv 5)) (pad_cons (pd_subI (p2_ne 3 (pv 3) pd_int)) (pad_cons (pd_var 6 (pv 6)) pad_nil))))) (pad_cons (pd_var 4 (pv 4)) pad_nil)))))))))))))
abbrev s__law_long : Stmt := topS 54
theorem sc__law_long : FnScope ["_law_feed_here", "_law_box_here", "_law_far", "_law_ahead", "_law_short", "_law_found", "_law_one"] ["_law_feed_here", "_law_box_here", "_law_far"] (defScope s__law_long) := ⟨rfl, rfl, rfl, by decide +kernel, rfl, by decide +kernel, by decide +kernel⟩
theorem ok__law_long {P : Program} {w : World} {K : PySem.W.Frag} {mg : Str → Option Value} {base : Heap} {f : Addr} {fd : FuncData} (F : Fun K "_law_long" "_law_long" s__law_long f fd) (hm : mg "_law_long" = some (.ref f)) (c__law_any : Cd P w K mg base 2 "_law_any" ["_law_feed_here", "_law_some"] [] D__law_any) (c__law_way : Cd P w K mg base 3 "_law_way" ["_law_feed_here", "_law_box_here", "_law_most"] [] D__law_way) :
    Cd P w K mg base 4 "_law_long" ["_law_feed_here", "_law_box_here", "_law_far"] [] D__law_long := by
  refine Cd.of (k := 3) (N := ["_law_feed_here", "_law_box_here", "_law_far", "_law_ahead", "_law_short", "_law_found", "_law_one"]) (bf := B__law_long) F hm sc__law_long (fun _ _ _ _ _ _ us hl => match us, hl with | [_, _, _], _ => rfl) (fun _ hq => nomatch hq) (fun cdv A outer s H hr hgd Γ => ?_)
  have hN := sc__law_long.nd
  have hu64 : (A.deeper (envOfC "_law_long" (defScope s__law_long) s.heap.objs.size f cdv)).units + 64 < cLine := by have := hr.un; omega
  have hu65 : (A.deeper (envOfC "_law_long" (defScope s__law_long) s.heap.objs.size f cdv)).units + 65 < cLine := by have := hr.un; omega
  have hu1 : (A.deeper (envOfC "_law_long" (defScope s__law_long) s.heap.objs.size f cdv)).units + 1 < cLine := by have := hr.un; omega
  exact (pss_consD (ps_parD (i := 3) (j := 4) rfl hN rfl rfl (by decide) rfl rfl (pd_cd c__law_way (hr.mono (by decide)) hgd (by rfl) (pad_cons (pd_var 0 (pv 0)) (pad_cons (pd_var 1 (pv 1)) (pad_cons pd_int pad_nil)))) (pd_add (p2_ee (pd_cd c__law_way (hr.mono (by decide)) hgd (by rfl) (pad_cons (pd_var 0 (pv 0)) (pad_cons (pd_var 1 (pv 1)) (pad_cons pd_int pad_nil)))) (pd_tup (pad_cons (pd_cd c__law_any (hr.mono (by decide)) hgd (by rfl) (pad_cons (pd_var 0 (pv 0)) (pad_cons (pd_sub hu1 (p2_ne 1 (pv 1) pd_int) (fun _ _ => rfl) (fun _ _ => rfl)) pad_nil))) pad_nil)))) (by rfl)) (pss_consD (ps_asgD (pd_lst (pad_cons (pd_tup (pad_cons (pd_var 3 (pv 3)) (pad_cons (pd_mul (p2_nn 4 2 (pv 4) (pv 2))) pad_nil))) pad_nil)) (pgd_name hN (i := 5) rfl (.inl rfl))) (pss_consD (ps_forD PassesOwn.never rfl (pid_val (pd_sub hu1 (p2_ne 1 (pv 1) pd_int) (fun _ _ => rfl) (fun _ _ => rfl))) (pgd_name hN (i := 6) rfl (.inl rfl)) (pss_consD (ps_asgD (pd_add (p2_ne 5 (pv 5) (pd_lst (pad_cons (pd_tup (pad_cons (pd_var 3 (pv 3)) (pad_cons (pd_mul (p2_ee (pd_tup (pad_cons (pd_var 6 (pv 6)) pad_nil)) (pd_add (p2_ne 2 (pv 2) pd_int)))) pad_nil))) (pad_cons (pd_tup (pad_cons (pd_var 3 (pv 3)) (pad_cons (pd_mul (p2_en 2 (pd_tup (pad_cons (pd_var 6 (pv 6)) pad_nil)) (pv 2))) pad_nil))) pad_nil))))) (pgd_name hN (i := 5) rfl (.inl rfl))) (pss_oneD (ps_asgD (pd_add (p2_ne 5 (pv 5) (pd_lst (pad_cons (pd_tup (pad_cons (pd_var 3 (pv 3)) (pad_cons (pd_add (p2_ee (pd_cut (pd_mul (p2_nn 4 2 (pv 4) (pv 2))) pod_none (pod_some (pd_subI (p2_ne 2 (pv 2) pd_int)))) (pd_mul (p2_ee (pd_tup (pad_cons (pd_var 6 (pv 6)) pad_nil)) pd_int)))) pad_nil))) (pad_cons (pd_tup (pad_cons (pd_var 3 (pv 3)) (pad_cons (pd_add (p2_ne 4 (pv 4) (pd_mul (p2_en 2 (pd_tup (pad_cons (pd_var 6 (pv 6)) pad_nil)) (pv 2))))) pad_nil))) pad_nil))))) (pgd_name hN (i := 5) rfl (.inl rfl)))))) (pss_oneD (ps_retVD (i := 5) (pv 5))))))
abbrev s__law_are_long_right : Stmt := topS 55
theorem sc__law_are_long_right : FnScope ["_law_feed_here", "_law_box_here", "_law_k", "_law_past", "_law_far", "_law_eye", "_law_told", "_law_one"] ["_law_feed_here", "_law_box_here", "_law_k", "_law_past"] (defScope s__law_are_long_right) := ⟨rfl, rfl, rfl, by decide +kernel, rfl, by decide +kernel, by decide +kernel⟩
theorem ok__law_are_long_right {P : Program} {w : World} {K : PySem.W.Frag} {mg : Str → Option Value} {base : Heap} {f : Addr} {fd : FuncData} (F : Fun K "_law_are_long_right" "_law_are_long_right" s__law_are_long_right f fd) (hm : mg "_law_are_long_right" = some (.ref f)) (c__law_any : Cd P w K mg base 2 "_law_any" ["_law_feed_here", "_law_some"] [] D__law_any) (c__law_is_walk : Cd P w K mg base 2 "_law_is_walk" ["_law_box_here", "_law_k", "_law_limit", "_law_odd"] [] D__law_is_walk) (c__law_long : Cd P w K mg base 4 "_law_long" ["_law_feed_here", "_law_box_here", "_law_far"] [] D__law_long) (c__law_same : Cd P w K mg base 1 "_law_same" ["_law_told", "_law_due"] [] D__law_same) (c_is_moving : Cd P w K mg base 8 "is_moving" ["machine", "look", "age", "thing"] [(["thing", "age", "look", "machine"], [3, 2, 1, 0])] D_is_moving) (c_moves_past : Cd P w K mg base 8 "moves_past" ["machine", "look", "age"] [(["age", "look", "machine"], [2, 1, 0])] D_moves_past) :
    Cd P w K mg base 9 "_law_are_long_right" ["_law_feed_here", "_law_box_here", "_law_k", "_law_past"] [] D__law_are_long_right := by
  refine Cd.of (k := 8) (N := ["_law_feed_here", "_law_box_here", "_law_k", "_law_past", "_law_far", "_law_eye", "_law_told", "_law_one"]) (bf := B__law_are_long_right) F hm sc__law_are_long_right (fun _ _ _ _ _ _ us hl => match us, hl with | [_, _, _, _], _ => rfl) (fun _ hq => nomatch hq) (fun cdv A outer s H hr hgd Γ => ?_)
  have hN := sc__law_are_long_right.nd
  have hu64 : (A.deeper (envOfC "_law_are_long_right" (defScope s__law_are_long_right) s.heap.objs.size f cdv)).units + 64 < cLine := by have := hr.un; omega
  have hu65 : (A.deeper (envOfC "_law_are_long_right" (defScope s__law_are_long_right) s.heap.objs.size f cdv)).units + 65 < cLine := by have := hr.un; omega
  have hu1 : (A.deeper (envOfC "_law_are_long_right" (defScope s__law_are_long_right) s.heap.objs.size f cdv)).units + 1 < cLine := by have := hr.un; omega
  exact (pss_consD (ps_parD (i := 4) (j := 5) rfl hN rfl rfl (by decide) rfl rfl (pd_cd c__law_any (hr.mono (by decide)) hgd (by rfl) (pad_cons (pd_var 0 (pv 0)) (pad_cons (pd_lst (pad_cons pd_int (pad_cons pd_int (pad_cons pd_int (pad_cons pd_int (pad_cons pd_int pad_nil)))))) pad_nil))) (pd_sub hu1 (p2_en 2 (pd_sub hu1 (p2_ne 1 (pv 1) pd_int) (fun _ _ => rfl) (fun _ _ => rfl)) (pv 2)) (fun _ _ => rfl) (fun _ _ => rfl)) (by rfl)) (pss_consD (ps_asgD (pd_lst (pad_cons (pd_cd c_moves_past (hr.mono (by decide)) hgd (by rfl) (pad_cons (pd_var 1 (pv 1)) (pad_cons (pd_var 5 (pv 5)) (pad_cons (pd_var 4 (pv 4)) pad_nil)))) (pad_cons (pd_cd c_moves_past (hr.mono (by decide)) hgd (by rfl) (pad_cons (pd_var 1 (pv 1)) (pad_cons (pd_var 5 (pv 5)) (pad_cons (pd_add (p2_ne 4 (pv 4) pd_int)) pad_nil)))) (pad_cons (pd_cd c_is_moving (hr.mono (by decide)) hgd (by rfl) (pad_cons (pd_var 1 (pv 1)) (pad_cons (pd_var 5 (pv 5)) (pad_cons (pd_pow (p2_ee pd_int pd_int)) (pad_cons (pd_tup (pad_cons (pd_tup pad_nil) (pad_cons (pd_sub hu1 (p2_ne 1 (pv 1) pd_int) (fun _ _ => rfl) (fun _ _ => rfl)) pad_nil))) pad_nil))))) pad_nil)))) (pgd_name hN (i := 6) rfl (.inl rfl))) (pss_consD (ps_ifD (ptd_not (pt_tru (p1_e (pd_cd c__law_same (hr.mono (by decide)) hgd (by rfl) (pad_cons (pd_var 6 (pv 6)) (pad_cons (pd_lst (pad_cons (pd_var 3 (pv 3)) (pad_cons (pd_var 3 (pv 3)) (pad_cons pd_bl pad_nil)))) pad_nil)))))) (pss_oneD (ps_retD pd_bl)) pss_nilD) (pss_consD (ps_forD PassesOwn.never rfl (pid_val (pd_cd c__law_long (hr.mono (by decide)) hgd (by rfl) (pad_cons (pd_var 0 (pv 0)) (pad_cons (pd_var 1 (pv 1)) (pad_cons (pd_var 4 (pv 4)) pad_nil))))) (pgd_name hN (i := 7) rfl (.inl rfl)) (pss_oneD (ps_ifD (ptd_not (pt_tru (p1_e (pd_cd c__law_same (hr.mono (by decide)) hgd (by rfl) (pad_cons (pd_cd c_is_moving (hr.mono (by decide)) hgd (by rfl) (pad_cons (pd_var 1 (pv 1)) (pad_cons (pd_var 5 (pv 5)) (pad_cons (pd_var 4 (pv 4)) (pad_cons (pd_var 7 (pv 7)) pad_nil))))) (pad_cons (pd_cd c__law_is_walk (hr.mono (by decide)) hgd (by rfl) (pad_cons (pd_var 1 (pv 1)) (pad_cons (pd_var 2 (pv 2)) (pad_cons (pd_var 4 (pv 4)) (pad_cons (pd_var 7 (pv 7)) pad_nil))))) pad_nil)))))) (pss_oneD (ps_retD pd_bl)) pss_nilD))) (pss_oneD (ps_retD pd_bl))))))
end K8

set_option Elab.async false
set_option linter.all false
set_option maxRecDepth 100000
set_option maxHeartbeats 0
namespace K8
open PySem PySem.Spec PyProof.Rows L2 PD
theorem facts {P : Program} {w : World} {K : PySem.W.Frag} {h : Heap} {mg : Str → Option Value} {f : Addr} (X : K.In h) (G : h.Ns mainGlobals mg) (hfa : mg ("law" : Str) = some (.ref f)) (c : He.SaysD faL fnA K) :
    ∃ fd : FuncData, (∀ (s : Shared) (v : Value), BindsTo s fd ⟨[v], []⟩ [("_law_script", v)]) ∧ ∀ base : Heap, K.In base → base.Ns mainGlobals mg → FnG P w K mg base 10 f fd ["_law_script"] (spLaw K) := by
  have m_all : mg "all" = none := He.free_ok X G (c.fact 46 rfl)
  have m_any : mg "any" = none := He.free_ok X G (c.fact 47 rfl)
  have m_bool : mg "bool" = none := He.free_ok X G (c.fact 48 rfl)
  have m_enumerate : mg "enumerate" = none := He.free_ok X G (c.fact 49 rfl)
  have m_int : mg "int" = none := He.free_ok X G (c.fact 50 rfl)
  have m_isinstance : mg "isinstance" = none := He.free_ok X G (c.fact 51 rfl)
  have m_len : mg "len" = none := He.free_ok X G (c.fact 52 rfl)
  have m_list : mg "list" = none := He.free_ok X G (c.fact 53 rfl)
  have m_max : mg "max" = none := He.free_ok X G (c.fact 54 rfl)
  have m_min : mg "min" = none := He.free_ok X G (c.fact 55 rfl)
  have m_range : mg "range" = none := He.free_ok X G (c.fact 56 rfl)
  have m_repr : mg "repr" = none := He.free_ok X G (c.fact 57 rfl)
  have m_reversed : mg "reversed" = none := He.free_ok X G (c.fact 58 rfl)
  have m_sorted : mg "sorted" = none := He.free_ok X G (c.fact 59 rfl)
  have m_str : mg "str" = none := He.free_ok X G (c.fact 60 rfl)
  have m_tuple : mg "tuple" = none := He.free_ok X G (c.fact 61 rfl)
  have m_zip : mg "zip" = none := He.free_ok X G (c.fact 62 rfl)
  obtain ⟨t_LOWERCASE, g_LOWERCASE⟩ := He.str_ok X G (c.fact 63 rfl)
  obtain ⟨fd_is_integer, F_is_integer⟩ := c.def_ 0 (d := d_at_is_integer) rfl
  have z_is_integer : Fun K "is_integer" "is_integer" (topS 2) (He.ga K "is_integer") fd_is_integer := fun_of (x := "is_integer") (qual := "is_integer") (st := topS 2) F_is_integer
  have a_is_integer : mg "is_integer" = some (.ref (He.ga K "is_integer")) := He.glo_ok X G (c.fact 0 rfl)
  obtain ⟨fd_is_number, F_is_number⟩ := c.def_ 1 (d := d_at_is_number) rfl
  have z_is_number : Fun K "is_number" "is_number" (topS 3) (He.ga K "is_number") fd_is_number := fun_of (x := "is_number") (qual := "is_number") (st := topS 3) F_is_number
  have a_is_number : mg "is_number" = some (.ref (He.ga K "is_number")) := He.glo_ok X G (c.fact 1 rfl)
  obtain ⟨fd_is_name, F_is_name⟩ := c.def_ 2 (d := d_at_is_name) rfl
  have z_is_name : Fun K "is_name" "is_name" (topS 4) (He.ga K "is_name") fd_is_name := fun_of (x := "is_name") (qual := "is_name") (st := topS 4) F_is_name
  have a_is_name : mg "is_name" = some (.ref (He.ga K "is_name")) := He.glo_ok X G (c.fact 2 rfl)
  obtain ⟨fd_is_tuple, F_is_tuple⟩ := c.def_ 3 (d := d_at_is_tuple) rfl
  have z_is_tuple : Fun K "is_tuple" "is_tuple" (topS 5) (He.ga K "is_tuple") fd_is_tuple := fun_of (x := "is_tuple") (qual := "is_tuple") (st := topS 5) F_is_tuple
  have a_is_tuple : mg "is_tuple" = some (.ref (He.ga K "is_tuple")) := He.glo_ok X G (c.fact 3 rfl)
  obtain ⟨fd_ascends, F_ascends⟩ := c.def_ 4 (d := d_at_ascends) rfl
  have z_ascends : Fun K "ascends" "ascends" (topS 6) (He.ga K "ascends") fd_ascends := fun_of (x := "ascends") (qual := "ascends") (st := topS 6) F_ascends
  have a_ascends : mg "ascends" = some (.ref (He.ga K "ascends")) := He.glo_ok X G (c.fact 4 rfl)
  obtain ⟨fd_are_names, F_are_names⟩ := c.def_ 5 (d := d_at_are_names) rfl
  have z_are_names : Fun K "are_names" "are_names" (topS 7) (He.ga K "are_names") fd_are_names := fun_of (x := "are_names") (qual := "are_names") (st := topS 7) F_are_names
  have a_are_names : mg "are_names" = some (.ref (He.ga K "are_names")) := He.glo_ok X G (c.fact 5 rfl)
  obtain ⟨fd_is_machine, F_is_machine⟩ := c.def_ 6 (d := d_at_is_machine) rfl
  have z_is_machine : Fun K "is_machine" "is_machine" (topS 8) (He.ga K "is_machine") fd_is_machine := fun_of (x := "is_machine") (qual := "is_machine") (st := topS 8) F_is_machine
  have a_is_machine : mg "is_machine" = some (.ref (He.ga K "is_machine")) := He.glo_ok X G (c.fact 6 rfl)
  obtain ⟨fd_machine_fault, F_machine_fault⟩ := c.def_ 7 (d := d_at_machine_fault) rfl
  have z_machine_fault : Fun K "machine_fault" "machine_fault" (topS 9) (He.ga K "machine_fault") fd_machine_fault := fun_of (x := "machine_fault") (qual := "machine_fault") (st := topS 9) F_machine_fault
  have a_machine_fault : mg "machine_fault" = some (.ref (He.ga K "machine_fault")) := He.glo_ok X G (c.fact 7 rfl)
  obtain ⟨fd_are_numbers, F_are_numbers⟩ := c.def_ 8 (d := d_at_are_numbers) rfl
  have z_are_numbers : Fun K "are_numbers" "are_numbers" (topS 10) (He.ga K "are_numbers") fd_are_numbers := fun_of (x := "are_numbers") (qual := "are_numbers") (st := topS 10) F_are_numbers
  have a_are_numbers : mg "are_numbers" = some (.ref (He.ga K "are_numbers")) := He.glo_ok X G (c.fact 8 rfl)
  obtain ⟨fd_is_row, F_is_row⟩ := c.def_ 9 (d := d_at_is_row) rfl
  have z_is_row : Fun K "is_row" "is_row" (topS 11) (He.ga K "is_row") fd_is_row := fun_of (x := "is_row") (qual := "is_row") (st := topS 11) F_is_row
  have a_is_row : mg "is_row" = some (.ref (He.ga K "is_row")) := He.glo_ok X G (c.fact 9 rfl)
  obtain ⟨fd_need, F_need⟩ := c.def_ 10 (d := d_at_need) rfl
  have z_need : Fun K "need" "need" (topS 17) (He.ga K "need") fd_need := fun_of (x := "need") (qual := "need") (st := topS 17) F_need
  have a_need : mg "need" = some (.ref (He.ga K "need")) := He.glo_ok X G (c.fact 10 rfl)
  obtain ⟨fd_need_machine, F_need_machine⟩ := c.def_ 11 (d := d_at_need_machine) rfl
  have z_need_machine : Fun K "need_machine" "need_machine" (topS 18) (He.ga K "need_machine") fd_need_machine := fun_of (x := "need_machine") (qual := "need_machine") (st := topS 18) F_need_machine
  have a_need_machine : mg "need_machine" = some (.ref (He.ga K "need_machine")) := He.glo_ok X G (c.fact 11 rfl)
  obtain ⟨fd_need_look, F_need_look⟩ := c.def_ 12 (d := d_at_need_look) rfl
  have z_need_look : Fun K "need_look" "need_look" (topS 19) (He.ga K "need_look") fd_need_look := fun_of (x := "need_look") (qual := "need_look") (st := topS 19) F_need_look
  have a_need_look : mg "need_look" = some (.ref (He.ga K "need_look")) := He.glo_ok X G (c.fact 12 rfl)
  obtain ⟨fd_answer_at, F_answer_at⟩ := c.def_ 13 (d := d_at_answer_at) rfl
  have z_answer_at : Fun K "answer_at" "answer_at" (topS 21) (He.ga K "answer_at") fd_answer_at := fun_of (x := "answer_at") (qual := "answer_at") (st := topS 21) F_answer_at
  have a_answer_at : mg "answer_at" = some (.ref (He.ga K "answer_at")) := He.glo_ok X G (c.fact 13 rfl)
  obtain ⟨fd_come_to, F_come_to⟩ := c.def_ 14 (d := d_at_come_to) rfl
  have z_come_to : Fun K "come_to" "come_to" (topS 22) (He.ga K "come_to") fd_come_to := fun_of (x := "come_to") (qual := "come_to") (st := topS 22) F_come_to
  have a_come_to : mg "come_to" = some (.ref (He.ga K "come_to")) := He.glo_ok X G (c.fact 14 rfl)
  obtain ⟨fd_least_rows, F_least_rows⟩ := c.def_ 15 (d := d_at_least_rows) rfl
  have z_least_rows : Fun K "least_rows" "least_rows" (topS 24) (He.ga K "least_rows") fd_least_rows := fun_of (x := "least_rows") (qual := "least_rows") (st := topS 24) F_least_rows
  have a_least_rows : mg "least_rows" = some (.ref (He.ga K "least_rows")) := He.glo_ok X G (c.fact 15 rfl)
  obtain ⟨fd_moves_past, F_moves_past⟩ := c.def_ 16 (d := d_at_moves_past) rfl
  have z_moves_past : Fun K "moves_past" "moves_past" (topS 26) (He.ga K "moves_past") fd_moves_past := fun_of (x := "moves_past") (qual := "moves_past") (st := topS 26) F_moves_past
  have a_moves_past : mg "moves_past" = some (.ref (He.ga K "moves_past")) := He.glo_ok X G (c.fact 16 rfl)
  obtain ⟨fd_least_look_age, F_least_look_age⟩ := c.def_ 17 (d := d_at_least_look_age) rfl
  have z_least_look_age : Fun K "least_look_age" "least_look_age" (topS 27) (He.ga K "least_look_age") fd_least_look_age := fun_of (x := "least_look_age") (qual := "least_look_age") (st := topS 27) F_least_look_age
  have a_least_look_age : mg "least_look_age" = some (.ref (He.ga K "least_look_age")) := He.glo_ok X G (c.fact 17 rfl)
  obtain ⟨fd_moving_walk, F_moving_walk⟩ := c.def_ 18 (d := d_at_moving_walk) rfl
  have z_moving_walk : Fun K "moving_walk" "moving_walk" (topS 28) (He.ga K "moving_walk") fd_moving_walk := fun_of (x := "moving_walk") (qual := "moving_walk") (st := topS 28) F_moving_walk
  have a_moving_walk : mg "moving_walk" = some (.ref (He.ga K "moving_walk")) := He.glo_ok X G (c.fact 18 rfl)
  obtain ⟨fd_walk_past, F_walk_past⟩ := c.def_ 19 (d := d_at_walk_past) rfl
  have z_walk_past : Fun K "walk_past" "walk_past" (topS 29) (He.ga K "walk_past") fd_walk_past := fun_of (x := "walk_past") (qual := "walk_past") (st := topS 29) F_walk_past
  have a_walk_past : mg "walk_past" = some (.ref (He.ga K "walk_past")) := He.glo_ok X G (c.fact 19 rfl)
  obtain ⟨fd_is_moving, F_is_moving⟩ := c.def_ 20 (d := d_at_is_moving) rfl
  have z_is_moving : Fun K "is_moving" "is_moving" (topS 30) (He.ga K "is_moving") fd_is_moving := fun_of (x := "is_moving") (qual := "is_moving") (st := topS 30) F_is_moving
  have a_is_moving : mg "is_moving" = some (.ref (He.ga K "is_moving")) := He.glo_ok X G (c.fact 20 rfl)
  obtain ⟨fd_is_past, F_is_past⟩ := c.def_ 21 (d := d_at_is_past) rfl
  have z_is_past : Fun K "is_past" "is_past" (topS 31) (He.ga K "is_past") fd_is_past := fun_of (x := "is_past") (qual := "is_past") (st := topS 31) F_is_past
  have a_is_past : mg "is_past" = some (.ref (He.ga K "is_past")) := He.glo_ok X G (c.fact 21 rfl)
  obtain ⟨fd_least_age_of, F_least_age_of⟩ := c.def_ 22 (d := d_at_least_age_of) rfl
  have z_least_age_of : Fun K "least_age_of" "least_age_of" (topS 32) (He.ga K "least_age_of") fd_least_age_of := fun_of (x := "least_age_of") (qual := "least_age_of") (st := topS 32) F_least_age_of
  have a_least_age_of : mg "least_age_of" = some (.ref (He.ga K "least_age_of")) := He.glo_ok X G (c.fact 22 rfl)
  obtain ⟨fd_longest_stay, F_longest_stay⟩ := c.def_ 23 (d := d_at_longest_stay) rfl
  have z_longest_stay : Fun K "longest_stay" "longest_stay" (topS 33) (He.ga K "longest_stay") fd_longest_stay := fun_of (x := "longest_stay") (qual := "longest_stay") (st := topS 33) F_longest_stay
  have a_longest_stay : mg "longest_stay" = some (.ref (He.ga K "longest_stay")) := He.glo_ok X G (c.fact 23 rfl)
  obtain ⟨fd_other_states, F_other_states⟩ := c.def_ 24 (d := d_at_other_states) rfl
  have z_other_states : Fun K "other_states" "other_states" (topS 34) (He.ga K "other_states") fd_other_states := fun_of (x := "other_states") (qual := "other_states") (st := topS 34) F_other_states
  have a_other_states : mg "other_states" = some (.ref (He.ga K "other_states")) := He.glo_ok X G (c.fact 24 rfl)
  obtain ⟨fd_leading_on, F_leading_on⟩ := c.def_ 25 (d := d_at_leading_on) rfl
  have z_leading_on : Fun K "leading_on" "leading_on" (topS 35) (He.ga K "leading_on") fd_leading_on := fun_of (x := "leading_on") (qual := "leading_on") (st := topS 35) F_leading_on
  have a_leading_on : mg "leading_on" = some (.ref (He.ga K "leading_on")) := He.glo_ok X G (c.fact 25 rfl)
  obtain ⟨fd_leaving_row, F_leaving_row⟩ := c.def_ 26 (d := d_at_leaving_row) rfl
  have z_leaving_row : Fun K "leaving_row" "leaving_row" (topS 36) (He.ga K "leaving_row") fd_leaving_row := fun_of (x := "leaving_row") (qual := "leaving_row") (st := topS 36) F_leaving_row
  have a_leaving_row : mg "leaving_row" = some (.ref (He.ga K "leaving_row")) := He.glo_ok X G (c.fact 26 rfl)
  obtain ⟨fd__law_feed, F__law_feed⟩ := c.def_ 27 (d := d_at__law_feed) rfl
  have z__law_feed : Fun K "_law_feed" "_law_feed" (topS 38) (He.ga K "_law_feed") fd__law_feed := fun_of (x := "_law_feed") (qual := "_law_feed") (st := topS 38) F__law_feed
  have a__law_feed : mg "_law_feed" = some (.ref (He.ga K "_law_feed")) := He.glo_ok X G (c.fact 27 rfl)
  obtain ⟨fd__law_draw, F__law_draw⟩ := c.def_ 28 (d := d_at__law_draw) rfl
  have z__law_draw : Fun K "_law_draw" "_law_draw" (topS 39) (He.ga K "_law_draw") fd__law_draw := fun_of (x := "_law_draw") (qual := "_law_draw") (st := topS 39) F__law_draw
  have a__law_draw : mg "_law_draw" = some (.ref (He.ga K "_law_draw")) := He.glo_ok X G (c.fact 28 rfl)
  obtain ⟨fd__law_any, F__law_any⟩ := c.def_ 29 (d := d_at__law_any) rfl
  have z__law_any : Fun K "_law_any" "_law_any" (topS 40) (He.ga K "_law_any") fd__law_any := fun_of (x := "_law_any") (qual := "_law_any") (st := topS 40) F__law_any
  have a__law_any : mg "_law_any" = some (.ref (He.ga K "_law_any")) := He.glo_ok X G (c.fact 29 rfl)
  obtain ⟨fd__law_same, F__law_same⟩ := c.def_ 30 (d := d_at__law_same) rfl
  have z__law_same : Fun K "_law_same" "_law_same" (topS 41) (He.ga K "_law_same") fd__law_same := fun_of (x := "_law_same") (qual := "_law_same") (st := topS 41) F__law_same
  have a__law_same : mg "_law_same" = some (.ref (He.ga K "_law_same")) := He.glo_ok X G (c.fact 30 rfl)
  obtain ⟨fd__law_name, F__law_name⟩ := c.def_ 31 (d := d_at__law_name) rfl
  have z__law_name : Fun K "_law_name" "_law_name" (topS 42) (He.ga K "_law_name") fd__law_name := fun_of (x := "_law_name") (qual := "_law_name") (st := topS 42) F__law_name
  have a__law_name : mg "_law_name" = some (.ref (He.ga K "_law_name")) := He.glo_ok X G (c.fact 31 rfl)
  obtain ⟨fd__law_names, F__law_names⟩ := c.def_ 32 (d := d_at__law_names) rfl
  have z__law_names : Fun K "_law_names" "_law_names" (topS 43) (He.ga K "_law_names") fd__law_names := fun_of (x := "_law_names") (qual := "_law_names") (st := topS 43) F__law_names
  have a__law_names : mg "_law_names" = some (.ref (He.ga K "_law_names")) := He.glo_ok X G (c.fact 32 rfl)
  obtain ⟨fd__law_move, F__law_move⟩ := c.def_ 33 (d := d_at__law_move) rfl
  have z__law_move : Fun K "_law_move" "_law_move" (topS 44) (He.ga K "_law_move") fd__law_move := fun_of (x := "_law_move") (qual := "_law_move") (st := topS 44) F__law_move
  have a__law_move : mg "_law_move" = some (.ref (He.ga K "_law_move")) := He.glo_ok X G (c.fact 33 rfl)
  obtain ⟨fd__law_box, F__law_box⟩ := c.def_ 34 (d := d_at__law_box) rfl
  have z__law_box : Fun K "_law_box" "_law_box" (topS 45) (He.ga K "_law_box") fd__law_box := fun_of (x := "_law_box") (qual := "_law_box") (st := topS 45) F__law_box
  have a__law_box : mg "_law_box" = some (.ref (He.ga K "_law_box")) := He.glo_ok X G (c.fact 34 rfl)
  obtain ⟨fd__law_ages, F__law_ages⟩ := c.def_ 35 (d := d_at__law_ages) rfl
  have z__law_ages : Fun K "_law_ages" "_law_ages" (topS 46) (He.ga K "_law_ages") fd__law_ages := fun_of (x := "_law_ages") (qual := "_law_ages") (st := topS 46) F__law_ages
  have a__law_ages : mg "_law_ages" = some (.ref (He.ga K "_law_ages")) := He.glo_ok X G (c.fact 35 rfl)
  obtain ⟨fd__law_come_from, F__law_come_from⟩ := c.def_ 36 (d := d_at__law_come_from) rfl
  have z__law_come_from : Fun K "_law_come_from" "_law_come_from" (topS 47) (He.ga K "_law_come_from") fd__law_come_from := fun_of (x := "_law_come_from") (qual := "_law_come_from") (st := topS 47) F__law_come_from
  have a__law_come_from : mg "_law_come_from" = some (.ref (He.ga K "_law_come_from")) := He.glo_ok X G (c.fact 36 rfl)
  obtain ⟨fd__law_is_way, F__law_is_way⟩ := c.def_ 37 (d := d_at__law_is_way) rfl
  have z__law_is_way : Fun K "_law_is_way" "_law_is_way" (topS 48) (He.ga K "_law_is_way") fd__law_is_way := fun_of (x := "_law_is_way") (qual := "_law_is_way") (st := topS 48) F__law_is_way
  have a__law_is_way : mg "_law_is_way" = some (.ref (He.ga K "_law_is_way")) := He.glo_ok X G (c.fact 37 rfl)
  obtain ⟨fd__law_gone, F__law_gone⟩ := c.def_ 38 (d := d_at__law_gone) rfl
  have z__law_gone : Fun K "_law_gone" "_law_gone" (topS 49) (He.ga K "_law_gone") fd__law_gone := fun_of (x := "_law_gone") (qual := "_law_gone") (st := topS 49) F__law_gone
  have a__law_gone : mg "_law_gone" = some (.ref (He.ga K "_law_gone")) := He.glo_ok X G (c.fact 38 rfl)
  obtain ⟨fd__law_is_walk, F__law_is_walk⟩ := c.def_ 39 (d := d_at__law_is_walk) rfl
  have z__law_is_walk : Fun K "_law_is_walk" "_law_is_walk" (topS 50) (He.ga K "_law_is_walk") fd__law_is_walk := fun_of (x := "_law_is_walk") (qual := "_law_is_walk") (st := topS 50) F__law_is_walk
  have a__law_is_walk : mg "_law_is_walk" = some (.ref (He.ga K "_law_is_walk")) := He.glo_ok X G (c.fact 39 rfl)
  obtain ⟨fd__law_way, F__law_way⟩ := c.def_ 40 (d := d_at__law_way) rfl
  have z__law_way : Fun K "_law_way" "_law_way" (topS 51) (He.ga K "_law_way") fd__law_way := fun_of (x := "_law_way") (qual := "_law_way") (st := topS 51) F__law_way
  have a__law_way : mg "_law_way" = some (.ref (He.ga K "_law_way")) := He.glo_ok X G (c.fact 40 rfl)
  obtain ⟨fd__law_things, F__law_things⟩ := c.def_ 41 (d := d_at__law_things) rfl
  have z__law_things : Fun K "_law_things" "_law_things" (topS 52) (He.ga K "_law_things") fd__law_things := fun_of (x := "_law_things") (qual := "_law_things") (st := topS 52) F__law_things
  have a__law_things : mg "_law_things" = some (.ref (He.ga K "_law_things")) := He.glo_ok X G (c.fact 41 rfl)
  obtain ⟨fd__law_are_walks_right, F__law_are_walks_right⟩ := c.def_ 42 (d := d_at__law_are_walks_right) rfl
  have z__law_are_walks_right : Fun K "_law_are_walks_right" "_law_are_walks_right" (topS 53) (He.ga K "_law_are_walks_right") fd__law_are_walks_right := fun_of (x := "_law_are_walks_right") (qual := "_law_are_walks_right") (st := topS 53) F__law_are_walks_right
  have a__law_are_walks_right : mg "_law_are_walks_right" = some (.ref (He.ga K "_law_are_walks_right")) := He.glo_ok X G (c.fact 42 rfl)
  obtain ⟨fd__law_long, F__law_long⟩ := c.def_ 43 (d := d_at__law_long) rfl
  have z__law_long : Fun K "_law_long" "_law_long" (topS 54) (He.ga K "_law_long") fd__law_long := fun_of (x := "_law_long") (qual := "_law_long") (st := topS 54) F__law_long
  have a__law_long : mg "_law_long" = some (.ref (He.ga K "_law_long")) := He.glo_ok X G (c.fact 43 rfl)
  obtain ⟨fd__law_are_long_right, F__law_are_long_right⟩ := c.def_ 44 (d := d_at__law_are_long_right) rfl
  have z__law_are_long_right : Fun K "_law_are_long_right" "_law_are_long_right" (topS 55) (He.ga K "_law_are_long_right") fd__law_are_long_right := fun_of (x := "_law_are_long_right") (qual := "_law_are_long_right") (st := topS 55) F__law_are_long_right
  have a__law_are_long_right : mg "_law_are_long_right" = some (.ref (He.ga K "_law_are_long_right")) := He.glo_ok X G (c.fact 44 rfl)
  obtain ⟨fd_law, F_law⟩ := c.def_ 45 (d := d_at_law) rfl
  have z_law : Fun K "law" "law" (topS 56) (He.ga K "law") fd_law := fun_of (x := "law") (qual := "law") (st := topS 56) F_law
  have a_law : mg "law" = some (.ref (He.ga K "law")) := He.glo_ok X G (c.fact 45 rfl)
  have el := hfa.symm.trans a_law
  cases el
  refine ⟨fd_law, fun s v => FunD.bindsA (ps := ["_law_script"]) F_law (fun _ _ _ _ _ _ us hl => match us, hl with | [_], _ => rfl) s [v] rfl, fun base _ _ => ?_⟩
  have c__law_come_from := ok__law_come_from (P := P) (w := w) (base := base) z__law_come_from a__law_come_from m_len m_list m_range m_sorted
  have c__law_ages := ok__law_ages (P := P) (w := w) (base := base) z__law_ages a__law_ages m_len m_range c__law_come_from
  have c__law_draw := ok__law_draw (P := P) (w := w) (base := base) z__law_draw a__law_draw m_int m_len
  have c__law_any := ok__law_any (P := P) (w := w) (base := base) z__law_any a__law_any m_len c__law_draw
  have c__law_gone := ok__law_gone (P := P) (w := w) (base := base) z__law_gone a__law_gone
  have c__law_is_way := ok__law_is_way (P := P) (w := w) (base := base) z__law_is_way a__law_is_way m_all m_isinstance m_str m_tuple
  have c__law_is_walk := ok__law_is_walk (P := P) (w := w) (base := base) z__law_is_walk a__law_is_walk m_isinstance m_len m_tuple c__law_gone c__law_is_way
  have c__law_way := ok__law_way (P := P) (w := w) (base := base) z__law_way a__law_way m_range m_tuple c__law_any c__law_draw
  have c__law_long := ok__law_long (P := P) (w := w) (base := base) z__law_long a__law_long c__law_any c__law_way
  have c__law_same := ok__law_same (P := P) (w := w) (base := base) z__law_same a__law_same m_repr
  have c_answer_at := ok_answer_at (P := P) (w := w) (base := base) z_answer_at a_answer_at
  have c_come_to := ok_come_to (P := P) (w := w) (base := base) z_come_to a_come_to m_tuple
  have c_is_integer := ok_is_integer (P := P) (w := w) (base := base) z_is_integer a_is_integer m_bool m_int m_isinstance
  have c_is_number := ok_is_number (P := P) (w := w) (base := base) z_is_number a_is_number c_is_integer
  have c_is_row := ok_is_row (P := P) (w := w) (base := base) z_is_row a_is_row m_all m_isinstance m_tuple
  have c_is_tuple := ok_is_tuple (P := P) (w := w) (base := base) z_is_tuple a_is_tuple m_isinstance m_len m_tuple
  have c_need := ok_need (P := P) (w := w) (base := base) z_need a_need
  have c_ascends := ok_ascends (P := P) (w := w) (base := base) z_ascends a_ascends m_all m_zip
  have c_is_name := ok_is_name (P := P) (w := w) (base := base) z_is_name a_is_name m_all m_isinstance m_len m_str g_LOWERCASE
  have c_are_names := ok_are_names (P := P) (w := w) (base := base) z_are_names a_are_names m_all m_isinstance m_len m_tuple c_ascends c_is_name
  have c_are_numbers := ok_are_numbers (P := P) (w := w) (base := base) z_are_numbers a_are_numbers m_all c_is_number c_is_tuple
  have c_machine_fault := ok_machine_fault (P := P) (w := w) (base := base) z_machine_fault a_machine_fault m_enumerate m_isinstance m_len m_max m_tuple c_are_names c_are_numbers c_is_tuple
  have c_is_machine := ok_is_machine (P := P) (w := w) (base := base) z_is_machine a_is_machine c_machine_fault
  have c_need_machine := ok_need_machine (P := P) (w := w) (base := base) z_need_machine a_need_machine c_is_machine c_need
  have c_need_look := ok_need_look (P := P) (w := w) (base := base) z_need_look a_need_look c_need c_need_machine
  have c_is_moving := ok_is_moving (P := P) (w := w) (base := base) z_is_moving a_is_moving m_all m_len c_answer_at c_come_to c_is_number c_is_row c_is_tuple c_need c_need_look
  have c_is_past := ok_is_past (P := P) (w := w) (base := base) z_is_past a_is_past
  have c_least_rows := ok_least_rows (P := P) (w := w) (base := base) z_least_rows a_least_rows m_len m_zip
  have c_leading_on := ok_leading_on (P := P) (w := w) (base := base) z_leading_on a_leading_on m_any
  have c_other_states := ok_other_states (P := P) (w := w) (base := base) z_other_states a_other_states c_answer_at c_least_rows
  have c_longest_stay := ok_longest_stay (P := P) (w := w) (base := base) z_longest_stay a_longest_stay m_len c_leading_on c_other_states
  have c_least_age_of := ok_least_age_of (P := P) (w := w) (base := base) z_least_age_of a_least_age_of m_max c_least_rows c_longest_stay
  have c_moves_past := ok_moves_past (P := P) (w := w) (base := base) z_moves_past a_moves_past c_is_number c_is_past c_least_age_of c_need c_need_look
  have c__law_are_long_right := ok__law_are_long_right (P := P) (w := w) (base := base) z__law_are_long_right a__law_are_long_right c__law_any c__law_is_walk c__law_long c__law_same c_is_moving c_moves_past
  have c__law_things := ok__law_things (P := P) (w := w) (base := base) z__law_things a__law_things m_len m_list c__law_any c__law_draw c__law_way
  have c_leaving_row := ok_leaving_row (P := P) (w := w) (base := base) z_leaving_row a_leaving_row m_enumerate m_list m_min m_range m_reversed c_leading_on c_least_rows c_other_states
  have c_walk_past := ok_walk_past (P := P) (w := w) (base := base) z_walk_past a_walk_past c_is_past c_least_rows c_leaving_row c_longest_stay
  have c_moving_walk := ok_moving_walk (P := P) (w := w) (base := base) z_moving_walk a_moving_walk c_is_number c_need c_need_look c_walk_past
  have c__law_are_walks_right := ok__law_are_walks_right (P := P) (w := w) (base := base) z__law_are_walks_right a__law_are_walks_right c__law_is_walk c__law_same c__law_things c_is_moving c_moving_walk
  have c__law_move := ok__law_move (P := P) (w := w) (base := base) z__law_move a__law_move m_int m_max m_min c__law_any c__law_draw
  have c__law_name := ok__law_name (P := P) (w := w) (base := base) z__law_name a__law_name m_int m_range c__law_draw
  have c__law_names := ok__law_names (P := P) (w := w) (base := base) z__law_names a__law_names m_len m_range m_sorted m_tuple c__law_name
  have c__law_box := ok__law_box (P := P) (w := w) (base := base) z__law_box a__law_box m_len m_range m_tuple c__law_any c__law_draw c__law_move c__law_names
  have c_least_look_age := ok_least_look_age (P := P) (w := w) (base := base) z_least_look_age a_least_look_age c_least_age_of c_need_look
  exact ok_law z_law z__law_feed a__law_feed m_int m_len m_range c__law_ages c__law_any c__law_are_long_right c__law_are_walks_right c__law_box c__law_draw c__law_same c_least_look_age c_moves_past
end K8

set_option Elab.async false
set_option linter.all false
set_option maxRecDepth 100000
set_option maxHeartbeats 0
open PySem PySem.W PySem.Calls PyProof.Rows
theorem PySem.Challenge.cw_actasone_k08_whole_looks_that_move_holds : PySem.Challenge.rw_actasone_k08_whole_looks_that_move.Holds := by
  w_on; o_law
  refine HandSHeadRun.head_any (r := OpenLaw.row PySem.Challenge.rw_actasone_k08_whole_looks_that_move) (q := view (OpenLaw.row PySem.Challenge.rw_actasone_k08_whole_looks_that_move).prog [56]) (H := K8.hk) (ob := K8.ob) (M := 4000) (loose := K8.loL) (d := HandSHeadRun.topDef (OpenLaw.row PySem.Challenge.rw_actasone_k08_whole_looks_that_move).prog 56) (kwd := []) K8.ob_eq
    (by kernel_rfl) (fun s => by kernel_rfl) K8.run (by kernel_rfl) (by kernel_rfl) (by kernel_rfl) (by rfl) (by first | assumption | decide +kernel) (by decide +kernel) ⟨rfl, rfl, rfl, rfl, rfl, by decide +kernel⟩ ?hw ?hc
  case hw => w_witness2
  case hc =>
    refine Att.attach_call (n := 63) rfl (by kernel_rfl) fun w s₀ s₁ mg mb fa o pm cd doc a vs ns G Y ho hd hcd hmg hobj hints hlen hg => ?_
    obtain ⟨K, KX, c⟩ := Y
    have hm : mg ("law" : PySem.Str) = some (.ref fa) := by
      have e : (HandSHeadRun.topDef (OpenLaw.row PySem.Challenge.rw_actasone_k08_whole_looks_that_move).prog 56).name = ("law" : PySem.Str) := by kernel_rfl
      rw [← e]
      exact hmg
    obtain ⟨fd, hb, hF⟩ := K8.facts (P := (PySem.Challenge.rw_actasone_k08_whole_looks_that_move).prog) (w := w) KX G.T.g hm c
    exact PD.law_at KX G.T.g G.T.b G.T.builtins G.T.nolimit hg hobj hints (Nat.le_trans hlen (by decide +kernel)) fun base H kb gb E hS =>
      (hF base kb gb).run PySem.callerA [] s₁ H ⟨[.ref a], []⟩ [.ref a] [.ref a] _ ⟨rfl, by decide, by decide⟩ rfl E (hb s₁ (.ref a)) (.cons rfl .nil) rfl ⟨a, ns, rfl, hS, hlen, fun _ => rfl⟩
