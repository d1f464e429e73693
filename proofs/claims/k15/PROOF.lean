import PyProof.Rows.All
import HandS.ForMost
import HandS.ForExc
import HandS.Lambda
import HandS.Wide
import HandS.WideBits
import HandS.IsInst
import HandS.AnyAll
import HandS.Style
import HandS.NoneIn
import KE.GoesEnum
import HandS.Star
import HandS.Property
import HandS.ClsMeth
import KE.KCallOwn
import PyProof.InstNe
import HandS.CallLocal
import HandS.EndBits
import KE.KNestM
import HandS.Defaults
import HandS.Conv
import HandS.Strs
import KE.GoesMore
import KE.GoesZip
import HandS.TupAny
import KE.DataMinKey
import PyProof.Rows.CallKwBuiltin
import HandS.ExcInit
import HandS.ExcIs
import HandS.HotCalls
import KE.KExcInit
import KE.KTryMore
import KE.KIsAll
import HandS.JoinGen
import HandS.Deep
import PyProof.NeKinds
import PyProof.FactsAll.dict
import HandS.RaiseFrom
import HandS.SuiteRaise
import PyProof.StrBlock2
import PyProof.StrLawsTight
import PyProof.StrLawsReplace
import HandS.TupMul
import KE.SortKeyHeap
import KE.KTree
import KE.KEqDict
import Wide.All
import OpenK.AllK
import Wide.FinOn
import PySem.Challenge.RW_sparebridges_k15_whole_least_cuts
set_option Elab.async false
set_option autoImplicit false
set_option linter.all false
set_option maxRecDepth 100000
set_option maxHeartbeats 4000000
namespace DL
open PySem PySem.Spec PyProof.Rows L2

/-! ### data: values as trees -/
inductive D where
  | non | bl (b : Bool) | int (i : Int) | str (x : Str) | ty (n : String)
  | cls (a : Addr)
  | lst (xs : List D) | tup (xs : List D)
  /-- a tuple whose object is known to the sign -/
  | tpx (xs : List D)
  /-- the script -/
  | scr (ns : List Int)
  | dct (kvs : List (Key × D))
  | ins (C : Addr) (fs : List (Str × D))
  /-- a value of which R tells (a lambda, an error that is handled) -/
  | box (R : (Addr → Prop) → L2.Hp → Addr → Prop)

abbrev Fr := PySem.W.Frag
abbrev St := L2.St
/-- a list (a tuple) of the written part -/
def KL (K : Fr) (a : Addr) (vs : List V) : Prop := SqL K (fun _ => none) a vs
def KT (K : Fr) (a : Addr) (vs : List V) : Prop := SqT K (fun _ => none) a vs
theorem KL.sq {K : Fr} {a : Addr} {vs : List V} {H : Hp} (h : KL K a vs) : SqL K H a vs := by
  rcases h with (h | ⟨o, h⟩) | h
  · cases h
  · cases h
  · exact .inr h
theorem KT.sq {K : Fr} {a : Addr} {vs : List V} {H : Hp} (h : KT K a vs) : SqT K H a vs := by
  rcases h with (h | ⟨o, h⟩) | h
  · cases h
  · cases h
  · exact .inr h

/-- frozen things stay as they are -/
structure Ext (F : Addr → Prop) (H : Hp) (F' : Addr → Prop) (H' : Hp) : Prop where
  sub : ∀ a, F a → F' a
  keep : ∀ a o, F a → H a = some o → (∀ ps, o ≠ .tbl ps) → H' a = some o
  cod : ∀ c q, H c = some (LamX.CodeO c q) → H' c = some (LamX.CodeO c q)
theorem Ext.refl (F : Addr → Prop) (H : Hp) : Ext F H F H := ⟨fun _ h => h, fun _ _ _ h _ => h, fun _ _ h => h⟩
theorem Ext.trans {F F1 F2 : Addr → Prop} {H H1 H2 : Hp} (a : Ext F H F1 H1) (b : Ext F1 H1 F2 H2) : Ext F H F2 H2 :=
  ⟨fun x h => b.sub x (a.sub x h), fun x o f h n => b.keep x o (a.sub x f) (a.keep x o f h n) n, fun c q h => b.cod c q (a.cod c q h)⟩
theorem Ext.kp {F F' : Addr → Prop} {H H' : Hp} {a : Addr} {o : HO} (e : Ext F H F' H') (f : F a) (h : H a = some o) (n : ∀ ps, o ≠ .tbl ps := by intro ps z; cases z) : H' a = some o := e.keep a o f h n

mutual
/-- the value v, over the heap H, is the tree d; all that it reaches is frozen (F) or written -/
inductive At (K : Fr) (F : Addr → Prop) (H : Hp) : V → D → Prop
  | non : At K F H .non .non
  | bl (b : Bool) : At K F H (.bl b) (.bl b)
  | int (i : Int) : At K F H (.int i) (.int i)
  | str (x : Str) : At K F H (.str x) (.str x)
  | ty (n : String) : At K F H (.ty n) (.ty n)
  | cls (a : Addr) : At K F H (.ref a) (.cls a)
  | lst {a : Addr} {vs : List V} {ds : List D} (f : F a) (h : H a = some (.lst vs)) (t : Ats K F H vs ds) : At K F H (.ref a) (.lst ds)
  | scr {a : Addr} {ns : List Int} (h : KL K a (ns.map V.int) ∨ (F a ∧ Rd H a (.lst (ns.map V.int)))) : At K F H (.ref a) (.scr ns)
  | tup {a : Addr} {vs : List V} {ds : List D} (f : F a) (h : Rd H a (.tup vs)) (t : Ats K F H vs ds) : At K F H (.ref a) (.tup ds)
  | ktup {a : Addr} {vs : List V} {ds : List D} (h : KT K a vs) (t : Ats K F H vs ds) : At K F H (.ref a) (.tup ds)
  | tpx {a : Addr} {o : Obj} {vs : List V} {ds : List D} (f : F a) (h : H a = some (.frz o (.tup vs))) (g : o.cls = .type "tuple" ∧ o.dict = none) (t : Ats K F H vs ds) : At K F H (.ref a) (.tpx ds)
  | dct {a : Addr} {kvs : List (Key × V)} {kds : List (Key × D)} (f : F a) (h : Rd H a (.dK kvs)) (t : Kts K F H kvs kds) : At K F H (.ref a) (.dct kds)
  | ins {a C dx : Addr} {fvs : List (Str × V)} {fs : List (Str × D)} (f : F a) (h : H a = some (.ins C dx fvs)) (t : Fts K F H fvs fs) : At K F H (.ref a) (.ins C fs)
  | box {a : Addr} {R : (Addr → Prop) → Hp → Addr → Prop} (h : ∀ F2 H2, Ext F H F2 H2 → R F2 H2 a) : At K F H (.ref a) (.box R)
inductive Ats (K : Fr) (F : Addr → Prop) (H : Hp) : List V → List D → Prop
  | nil : Ats K F H [] []
  | cons {v : V} {d : D} {vs : List V} {ds : List D} (h : At K F H v d) (t : Ats K F H vs ds) : Ats K F H (v :: vs) (d :: ds)
inductive Kts (K : Fr) (F : Addr → Prop) (H : Hp) : List (Key × V) → List (Key × D) → Prop
  | nil : Kts K F H [] []
  | cons {k : Key} {v : V} {d : D} {vs : List (Key × V)} {ds : List (Key × D)} (h : At K F H v d) (t : Kts K F H vs ds) : Kts K F H ((k, v) :: vs) ((k, d) :: ds)
inductive Fts (K : Fr) (F : Addr → Prop) (H : Hp) : List (Str × V) → List (Str × D) → Prop
  | nil : Fts K F H [] []
  | cons {k : Str} {v : V} {d : D} {vs : List (Str × V)} {ds : List (Str × D)} (h : At K F H v d) (t : Fts K F H vs ds) : Fts K F H ((k, v) :: vs) ((k, d) :: ds)
end


section
variable {K : Fr} {F F' : Addr → Prop} {H H' : Hp}
theorem rdKeep {a : Addr} {u : HO} (e : Ext F H F' H') (f : F a) (h : Rd H a u) (n : ∀ ps, u ≠ .tbl ps := by intro ps z; cases z) : Rd H' a u := by
  rcases h with h | ⟨o, h⟩
  · exact .inl (e.keep _ _ f h n)
  · exact .inr ⟨o, e.kp f h⟩
mutual
theorem At.ext (e : Ext F H F' H') : ∀ {v : V} {d : D}, At K F H v d → At K F' H' v d
  | _, _, .non => .non
  | _, _, .bl b => .bl b
  | _, _, .int i => .int i
  | _, _, .str x => .str x
  | _, _, .ty n => .ty n
  | _, _, .cls a => .cls a
  | _, _, .lst f h t => .lst (e.sub _ f) (e.kp f h) (Ats.ext e t)
  | _, _, .scr (.inl h) => .scr (.inl h)
  | _, _, .scr (.inr h) => .scr (.inr ⟨e.sub _ h.1, rdKeep e h.1 h.2⟩)
  | _, _, .tup f h t => .tup (e.sub _ f) (rdKeep e f h) (Ats.ext e t)
  | _, _, .ktup h t => .ktup h (Ats.ext e t)
  | _, _, .tpx f h g t => .tpx (e.sub _ f) (e.kp f h) g (Ats.ext e t)
  | _, _, .dct f h t => .dct (e.sub _ f) (rdKeep e f h) (Kts.ext e t)
  | _, _, .ins f h t => .ins (e.sub _ f) (e.kp f h) (Fts.ext e t)
  | _, _, .box h => .box fun F2 H2 e2 => h F2 H2 (e.trans e2)
theorem Ats.ext (e : Ext F H F' H') : ∀ {vs : List V} {ds : List D}, Ats K F H vs ds → Ats K F' H' vs ds
  | _, _, .nil => .nil
  | _, _, .cons h t => .cons (At.ext e h) (Ats.ext e t)
theorem Kts.ext (e : Ext F H F' H') : ∀ {vs : List (Key × V)} {ds : List (Key × D)}, Kts K F H vs ds → Kts K F' H' vs ds
  | _, _, .nil => .nil
  | _, _, .cons h t => .cons (At.ext e h) (Kts.ext e t)
theorem Fts.ext (e : Ext F H F' H') : ∀ {vs : List (Str × V)} {ds : List (Str × D)}, Fts K F H vs ds → Fts K F' H' vs ds
  | _, _, .nil => .nil
  | _, _, .cons h t => .cons (At.ext e h) (Fts.ext e t)
end
theorem Ats.length : ∀ {vs : List V} {ds : List D}, Ats K F H vs ds → vs.length = ds.length
  | _, _, .nil => rfl
  | _, _, .cons _ t => congrArg (· + 1) t.length
theorem Ats.get : ∀ {vs : List V} {ds : List D} {i : Nat} {v : V}, Ats K F H vs ds → vs[i]? = some v → ∃ d, ds[i]? = some d ∧ At K F H v d
  | _, _, _, _, .nil, e => by simp at e
  | _, _, 0, _, .cons h _, e => by simp at e; subst e; exact ⟨_, rfl, h⟩
  | _, _, i + 1, v, .cons _ t, e => by
    obtain ⟨d, h1, h2⟩ := Ats.get (i := i) (v := v) t (by simpa using e)
    exact ⟨d, by simpa using h1, h2⟩
theorem Ats.get' : ∀ {vs : List V} {ds : List D} {i : Nat} {d : D}, Ats K F H vs ds → ds[i]? = some d → ∃ v, vs[i]? = some v ∧ At K F H v d
  | _, _, _, _, .nil, e => by simp at e
  | _, _, 0, _, .cons h _, e => by simp at e; subst e; exact ⟨_, rfl, h⟩
  | _, _, i + 1, d, .cons _ t, e => by
    obtain ⟨v, h1, h2⟩ := Ats.get' (i := i) (d := d) t (by simpa using e)
    exact ⟨v, by simpa using h1, h2⟩
theorem Ats.append : ∀ {vs ws : List V} {ds es : List D}, Ats K F H vs ds → Ats K F H ws es → Ats K F H (vs ++ ws) (ds ++ es)
  | _, _, _, _, .nil, s => s
  | _, _, _, _, .cons h t, s => .cons h (Ats.append t s)
theorem Ats.take : ∀ {vs : List V} {ds : List D} (n : Nat), Ats K F H vs ds → Ats K F H (vs.take n) (ds.take n)
  | _, _, 0, _ => .nil
  | _, _, _ + 1, .nil => .nil
  | _, _, n + 1, .cons h t => .cons h (Ats.take n t)
theorem Ats.drop : ∀ {vs : List V} {ds : List D} (n : Nat), Ats K F H vs ds → Ats K F H (vs.drop n) (ds.drop n)
  | _, _, 0, h => h
  | _, _, _ + 1, .nil => .nil
  | _, _, n + 1, .cons _ t => Ats.drop n t
theorem Ats.set : ∀ {vs : List V} {ds : List D} {v : V} {d : D} (i : Nat), Ats K F H vs ds → At K F H v d → Ats K F H (vs.set i v) (ds.set i d)
  | _, _, _, _, _, .nil, _ => .nil
  | _, _, _, _, 0, .cons _ t, h => .cons h t
  | _, _, _, _, i + 1, .cons q t, h => .cons q (Ats.set i t h)
theorem Ats.rev : ∀ {vs : List V} {ds : List D}, Ats K F H vs ds → Ats K F H vs.reverse ds.reverse
  | _, _, .nil => .nil
  | _, _, .cons h t => by
    rw [List.reverse_cons, List.reverse_cons]
    exact Ats.append (Ats.rev t) (.cons h .nil)
/-- where a list (a tuple) of the trees ds stands -/
theorem At.lstI {v : V} {ds : List D} (h : At K F H v (.lst ds)) : ∃ a vs, v = .ref a ∧ H a = some (.lst vs) ∧ Ats K F H vs ds := by
  cases h with
  | lst f h t => exact ⟨_, _, rfl, h, t⟩
theorem At.scrI {v : V} {ns : List Int} (h : At K F H v (.scr ns)) : ∃ a, v = .ref a ∧ SqL K H a (ns.map V.int) := by
  cases h with
  | scr h =>
    rcases h with h | h
    · exact ⟨_, rfl, h.sq⟩
    · exact ⟨_, rfl, .inl h.2⟩
theorem At.tupI {v : V} {ds : List D} (h : At K F H v (.tup ds)) : ∃ a vs, v = .ref a ∧ SqT K H a vs ∧ Ats K F H vs ds := by
  cases h with
  | tup f h t => exact ⟨_, _, rfl, .inl h, t⟩
  | ktup h t => exact ⟨_, _, rfl, h.sq, t⟩
theorem At.intI {v : V} {i : Int} (h : At K F H v (.int i)) : v = .int i := by cases h; rfl
theorem At.strI {v : V} {x : Str} (h : At K F H v (.str x)) : v = .str x := by cases h; rfl
theorem At.blI {v : V} {b : Bool} (h : At K F H v (.bl b)) : v = .bl b := by cases h; rfl
theorem At.nonI {v : V} (h : At K F H v .non) : v = .non := by cases h; rfl
end

/-! ### a def's state: its slots -/
/-- ow: a list or an instance that only this slot knows (p: it is a parameter, the caller's own); its parts are frozen -/
inductive Sl where
  | un | fr (d : D) | ow (p : Bool) (d : D)
abbrev DS := List Sl
/-- the name that the lambda of a def bears, by the table of the def's code -/
class Nm where
  nm : Addr → Str
  /-- the tables of the defs that make lambdas -/
  ts : List Addr
/-- these tables stand; every table tells only code objects of its lambda's name -/
structure AllTabs [Nm] (H : Hp) : Prop where
  there : ∀ P ∈ Nm.ts, ∃ ps, H P = some (.tbl ps)
  told : ∀ (P : Addr) (ps : Array Value), H P = some (.tbl ps) → TriplesOk ps.toList ∧ ∀ (pos : Pos) (cv : Value), codeAmong pos ps.toList = some cv → ∃ c, cv = .ref c ∧ H c = some (LamX.CodeO c (Nm.nm P))
theorem AllTabs.of [Nm] {H H' : Hp} (t : AllTabs H) (k : ∀ c q, H c = some (LamX.CodeO c q) → H' c = some (LamX.CodeO c q)) (k2 : ∀ P ps, H P = some (.tbl ps) → H' P = some (.tbl ps)) (b : ∀ P ps, H' P = some (.tbl ps) → H P = some (.tbl ps)) : AllTabs H' := by
  refine ⟨fun P hP => ?_, fun P ps h => ?_⟩
  · obtain ⟨ps, h⟩ := t.there P hP
    exact ⟨ps, k2 P ps h⟩
  · obtain ⟨h1, h2⟩ := t.told P ps (b P ps h)
    refine ⟨h1, fun pos cv hc => ?_⟩
    obtain ⟨c, e1, e2⟩ := h2 pos cv hc
    exact ⟨c, e1, k c _ e2⟩
variable [Nm]
/-- the entry: its heap, what was frozen, the parameters that are own -/
structure Bs where
  H0 : Hp
  F0 : Addr → Prop
  M : List (Nat × Addr)
/-- the own object at a -/
def OwnAt (K : Fr) (F : Addr → Prop) (H : Hp) (a : Addr) : D → Prop
  | .lst ds => ∃ vs, H a = some (.lst vs) ∧ Ats K F H vs ds
  | .ins C fs => ∃ dx fvs, H a = some (.ins C dx fvs) ∧ Fts K F H fvs fs
  | _ => False
def SlAt (K : Fr) (F : Addr → Prop) (H : Hp) (o : Option V) : Sl → Prop
  | .un => True
  | .fr d => ∃ v, o = some v ∧ At K F H v d
  | .ow _ d => ∃ a, o = some (.ref a) ∧ ¬ F a ∧ OwnAt K F H a d
/-- it stands as it stood (a table of code may have grown) -/
def Still (H : Hp) (b : Addr) (o : HO) : Prop := H b = some o ∨ ∃ ps ps', o = .tbl ps ∧ H b = some (.tbl ps')
structure Rel (K : Fr) (B : Bs) (F : Addr → Prop) (S : DS) (σ : St) (H : Hp) : Prop where
  len : σ.length = S.length
  sl : ∀ (i : Nat) (s : Sl), S[i]? = some s → ∃ o, σ[i]? = some o ∧ SlAt K F H o s
  dis : ∀ (i j : Nat) (a : Addr) (p q : Bool) (d e : D), S[i]? = some (.ow p d) → S[j]? = some (.ow q e) → σ[i]? = some (some (.ref a)) → σ[j]? = some (some (.ref a)) → i = j
  trk : ∀ a, F a → ∃ o, H a = some o
  f0 : ∀ a, B.F0 a → F a
  new : ∀ a, F a → B.F0 a ∨ B.H0 a = none
  keep : ∀ (b : Addr) (o : HO), B.H0 b = some o → (∀ i, (i, b) ∉ B.M) → Still H b o
  own : ∀ (i : Nat) (a : Addr) (d : D), S[i]? = some (.ow false d) → σ[i]? = some (some (.ref a)) → B.H0 a = none
  par : ∀ (i : Nat) (a : Addr), (i, a) ∈ B.M → σ[i]? = some (some (.ref a)) ∧ ∃ d, S[i]? = some (.ow true d)
  onl : ∀ (i : Nat) (a : Addr) (d : D), S[i]? = some (.ow true d) → σ[i]? = some (some (.ref a)) → (i, a) ∈ B.M
  f0t : ∀ a, B.F0 a → ∃ o, B.H0 a = some o
  tabs : AllTabs H

/-! ### what an expression gives -/
inductive R where
  | v (d : D)
  /-- a fresh object, no slot's as yet -/
  | ow (d : D)
  /-- the object of the own slot i -/
  | bw (i : Nat)
inductive Out where
  | ok (r : R) (S : DS)
  | exc (C : Addr) (fs : List (Str × D)) (S : DS)
  | stuck
/-- x is a fresh object that no slot owns -/
def Fresh (K : Fr) (B : Bs) (G : Hp) (F : Addr → Prop) (S : DS) (σ : St) (H : Hp) (x : V) (d : D) : Prop :=
  ∃ a, x = .ref a ∧ ¬ F a ∧ OwnAt K F H a d ∧ B.H0 a = none ∧ G a = none ∧ ∀ (i : Nat) (p : Bool) (e : D), S[i]? = some (.ow p e) → σ[i]? ≠ some (some (.ref a))
def RV (K : Fr) (B : Bs) (G : Hp) (F : Addr → Prop) (S : DS) (σ : St) (H : Hp) (x : V) : R → Prop
  | .v d => At K F H x d
  | .ow d => Fresh K B G F S σ H x d
  | .bw i => σ[i]? = some (some x)
/-- no slot owns b -/
def NotOwn (S : DS) (σ : St) (b : Addr) : Prop := ∀ (i : Nat) (p : Bool) (d : D), S[i]? = some (.ow p d) → σ[i]? ≠ some (some (.ref b))
/-- a step within an expression: frozen things stay, and all else that no slot owns -/
structure Xt (σ : St) (S : DS) (F : Addr → Prop) (H : Hp) (S' : DS) (F' : Addr → Prop) (H' : Hp) : Prop extends Ext F H F' H' where
  rest : ∀ b o, H b = some o → NotOwn S σ b → Still H' b o
  own : ∀ b, NotOwn S σ b → NotOwn S' σ b
  new : ∀ a, F' a → F a ∨ H a = none
  there : ∀ b o, H b = some o → ∃ o', H' b = some o'
theorem Xt.refl (σ : St) (S : DS) (F : Addr → Prop) (H : Hp) : Xt σ S F H S F H := ⟨Ext.refl F H, fun _ _ h _ => .inl h, fun _ h => h, fun _ h => .inl h, fun _ o h => ⟨o, h⟩⟩
theorem Xt.back {σ : St} {S S' : DS} {F F' : Addr → Prop} {H H' : Hp} (x : Xt σ S F H S' F' H') {a : Addr} (h : H' a = none) : H a = none := by
  cases e : H a with
  | none => rfl
  | some o =>
    obtain ⟨o', z⟩ := x.there a o e
    rw [h] at z
    cases z
theorem Xt.trans {σ : St} {S S1 S2 : DS} {F F1 F2 : Addr → Prop} {H H1 H2 : Hp} (a : Xt σ S F H S1 F1 H1) (b : Xt σ S1 F1 H1 S2 F2 H2) : Xt σ S F H S2 F2 H2 := by
  refine ⟨a.toExt.trans b.toExt, fun c o h n => ?_, fun c n => b.own c (a.own c n), fun c f => ?_, fun c o h => ?_⟩
  rotate_left
  · rcases b.new c f with z | z
    · exact a.new c z
    · exact .inr (a.back z)
  · obtain ⟨o', z⟩ := a.there c o h
    exact b.there c o' z
  rcases a.rest c o h n with z | ⟨ps, ps', e, z⟩
  · exact b.rest c o z (a.own c n)
  · rcases b.rest c _ z (a.own c n) with y | ⟨qs, qs', e2, y⟩
    · exact .inr ⟨ps, ps', e, y⟩
    · exact .inr ⟨ps, qs', e, y⟩
def PoOk (K : Fr) (B : Bs) (S : DS) (F : Addr → Prop) (H : Hp) (σ : St) (Q : VK) (r : R) (S' : DS) : Prop :=
  ∀ x H' F', Xt σ S F H S' F' H' → Rel K B F' S' σ H' → RV K B H F' S' σ H' x r → Q x H'
def PoEx (K : Fr) (W : WX) (B : Bs) (S : DS) (F : Addr → Prop) (H : Hp) (σ : St) (C : Addr) (fs : List (Str × D)) (S' : DS) : Prop :=
  ∀ dx fvs H' F', Xt σ S F H S' F' H' → Rel K B F' S' σ H' → H' dx = some (.xd fvs) → B.H0 dx = none → Fts K F' H' fvs fs → W (.ref C) (some dx) σ H'
/-- what the mirror's answer asks -/
def Po (K : Fr) (W : WX) (B : Bs) (S : DS) (F : Addr → Prop) (H : Hp) (σ : St) (Q : VK) : Out → Prop
  | .ok r S' => PoOk K B S F H σ Q r S'
  | .exc C fs S' => PoEx K W B S F H σ C fs S'
  | .stuck => False
def tE (K : Fr) (W : WX) (f : DS → Out) : TE := fun σ H Q => ∃ B F S, Rel K B F S σ H ∧ Po K W B S F H σ Q (f S)
structure EV (X : Cx) (W : WX) (e : Expr) (f : DS → Out) : Prop where
  pe : PE X e (tE X.K W f)

section
variable {K : Fr} {W : WX} {B : Bs} {F F' : Addr → Prop} {H H' : Hp} {σ : St} {Q : VK} {S S1 : DS}
theorem RV.back {G : Hp} {F2 : Addr → Prop} {S2 : DS} {H2 : Hp} {x : V} {r : R} (k : ∀ a, G a = none → H a = none) (v : RV K B G F2 S2 σ H2 x r) : RV K B H F2 S2 σ H2 x r := by
  cases r with
  | v d => exact v
  | bw i => exact v
  | ow d =>
    obtain ⟨a, h1, h2, h3, h4, h5, h6⟩ := v
    exact ⟨a, h1, h2, h3, h4, k a h5, h6⟩
theorem PoOk.ext {r : R} {S' : DS} (e : Xt σ S F H S1 F' H') (h : PoOk K B S F H σ Q r S') : PoOk K B S1 F' H' σ Q r S' := fun x H2 F2 e2 r2 v2 => h x H2 F2 (e.trans e2) r2 (v2.back fun _ => e.back)
theorem PoEx.ext {C : Addr} {fs : List (Str × D)} {S' : DS} (e : Xt σ S F H S1 F' H') (h : PoEx K W B S F H σ C fs S') : PoEx K W B S1 F' H' σ C fs S' := fun dx fvs H2 F2 e2 => h dx fvs H2 F2 (e.trans e2)
theorem Po.ext {o : Out} (e : Xt σ S F H S1 F' H') (h : Po K W B S F H σ Q o) : Po K W B S1 F' H' σ Q o := by
  cases o with
  | ok r S' => exact PoOk.ext e h
  | exc C fs S' => exact PoEx.ext e h
  | stuck => exact h
theorem Po.imp {Q' : VK} {o : Out} (q : ∀ x H, Q x H → Q' x H) (h : Po K W B S F H σ Q o) : Po K W B S F H σ Q' o := by
  cases o with
  | ok r S' => exact fun x H2 F2 e2 r2 v2 => q _ _ (h x H2 F2 e2 r2 v2)
  | exc C fs S' => exact h
  | stuck => exact h
def bnd (f : DS → Out) (g : R → DS → Out) : DS → Out := fun S => match f S with
  | .ok r S' => g r S'
  | .exc C fs S' => .exc C fs S'
  | .stuck => .stuck
/-- the state behind a part -/
def Mid (K : Fr) (W : WX) (B : Bs) (S : DS) (F : Addr → Prop) (H : Hp) (σ : St) (Q : VK) (g : R → DS → Out) (x : V) (H1 : Hp) : Prop :=
  ∃ F1 S1 r, Xt σ S F H S1 F1 H1 ∧ Rel K B F1 S1 σ H1 ∧ RV K B H F1 S1 σ H1 x r ∧ Po K W B S1 F1 H1 σ Q (g r S1)
theorem tE_bnd {f : DS → Out} {g : R → DS → Out} (rel : Rel K B F S σ H) (p : Po K W B S F H σ Q (bnd f g S)) : tE K W f σ H (Mid K W B S F H σ Q g) := by
  refine ⟨B, F, S, rel, ?_⟩
  unfold bnd at p
  cases e : f S with
  | ok r S' =>
    rw [e] at p
    exact fun x H1 F1 ext rel1 rv => ⟨F1, S', r, ext, rel1, rv, Po.ext ext p⟩
  | exc C fs S' =>
    rw [e] at p
    exact p
  | stuck =>
    rw [e] at p
    exact p
theorem PE.imp {X : Cx} {e : Expr} {t t' : TE} (p : PE X e t) (h : ∀ σ H Q, t' σ H Q → t σ H Q) : PE X e t' := ⟨fun pins s σ H Q I q => p.run pins s σ H Q I (h σ H Q q)⟩
/-- own things, at a wider frozen set that does not take them -/
theorem OwnAt.ext {a : Addr} {d : D} (e : Ext F H F' H') (k : ∀ o, H a = some o → H' a = some o) (h : OwnAt K F H a d) : OwnAt K F' H' a d := by
  cases d with
  | lst ds => obtain ⟨vs, h1, h2⟩ := h; exact ⟨vs, k _ h1, h2.ext e⟩
  | ins C fs => obtain ⟨dx, fvs, h1, h2⟩ := h; exact ⟨dx, fvs, k _ h1, h2.ext e⟩
  | _ => exact h.elim
theorem OwnAt.there {a : Addr} {d : D} (h : OwnAt K F H a d) : ∃ o, H a = some o := by
  cases d with
  | lst ds => obtain ⟨vs, h1, h2⟩ := h; exact ⟨_, h1⟩
  | ins C fs => obtain ⟨dx, fvs, h1, h2⟩ := h; exact ⟨_, h1⟩
  | _ => exact h.elim
/-- frozen -/
theorem OwnAt.at {a : Addr} {d : D} (f : F a) (h : OwnAt K F H a d) : At K F H (.ref a) d := by
  cases d with
  | lst ds => obtain ⟨vs, h1, h2⟩ := h; exact .lst f h1 h2
  | ins C fs => obtain ⟨dx, fvs, h1, h2⟩ := h; exact .ins f h1 h2
  | _ => exact h.elim
/-- an address that the heap does not know is unknown at the entry, too -/
theorem Rel.h0 {p : Addr} (r : Rel K B F S σ H) (hp : H p = none) : B.H0 p = none := by
  cases e : B.H0 p with
  | none => rfl
  | some o =>
    by_cases hm : ∃ i, (i, p) ∈ B.M
    · obtain ⟨i, hi⟩ := hm
      obtain ⟨z1, d, z2⟩ := r.par i p hi
      obtain ⟨o', z3, a, z4, _, z5⟩ := r.sl i _ z2
      rw [z1] at z3
      cases z3
      cases z4
      obtain ⟨u, hu⟩ := z5.there
      rw [hp] at hu
      cases hu
    · rcases r.keep p o e (fun i hi => hm ⟨i, hi⟩) with z | ⟨ps, ps', _, z⟩ <;> rw [hp] at z <;> cases z
theorem Still.of {o : HO} {b : Addr} (k : ∀ o, H b = some o → H' b = some o) (h : Still H b o) : Still H' b o := by
  rcases h with h | ⟨ps, ps', h1, h2⟩
  · exact .inl (k _ h)
  · exact .inr ⟨ps, ps', h1, k _ h2⟩
/-- the general step: all that is tracked stays; F grows by new things -/
theorem Rel.grow (r : Rel K B F S σ H) (k : ∀ b o, H b = some o → H' b = some o) (sub : ∀ a, F a → F' a) (nw : ∀ a, F' a → F a ∨ (H a = none ∧ ∃ o, H' a = some o)) (nt : ∀ P ps, H' P = some (.tbl ps) → H P = some (.tbl ps)) : Xt σ S F H S F' H' ∧ Rel K B F' S σ H' := by
  have e : Ext F H F' H' := ⟨sub, fun a o _ h _ => k a o h, fun c q h => k c _ h⟩
  refine ⟨⟨e, fun b o h _ => .inl (k b o h), fun _ h => h, fun a h => (nw a h).imp_right And.left, fun b o h => ⟨o, k b o h⟩⟩, r.len, fun i s hs => ?_, r.dis, fun a h => ?_, fun a h => sub a (r.f0 a h), fun a h => ?_, fun b o h m => (r.keep b o h m).of (k b), r.own, r.par, r.onl, r.f0t, r.tabs.of (fun c q h => k c _ h) (fun P ps h => k P _ h) nt⟩
  · obtain ⟨o, ho, hsl⟩ := r.sl i s hs
    refine ⟨o, ho, ?_⟩
    cases s with
    | un => trivial
    | fr d => obtain ⟨v, h1, h2⟩ := hsl; exact ⟨v, h1, h2.ext e⟩
    | ow p d =>
      obtain ⟨a, h1, h2, h3⟩ := hsl
      refine ⟨a, h1, fun z => ?_, h3.ext e (k a)⟩
      rcases nw a z with z | ⟨z, _⟩
      · exact h2 z
      · obtain ⟨u, hu⟩ := h3.there
        rw [z] at hu
        cases hu
  · rcases nw a h with h | ⟨_, h⟩
    · obtain ⟨o, ho⟩ := r.trk a h
      exact ⟨o, k a o ho⟩
    · exact h
  · rcases nw a h with h | ⟨h, _⟩
    · exact r.new a h
    · exact .inr (r.h0 h)
/-- a new object at p, not frozen -/
theorem upd_nt {p : Addr} {o : HO} (no : ∀ ps, o ≠ .tbl ps) : ∀ P ps, upd H p o P = some (.tbl ps) → H P = some (.tbl ps) := fun P ps h => by
  by_cases e : P = p
  · rw [e, upd_same] at h
    exact absurd (Option.some.inj h) (no ps)
  · rw [upd_ne e] at h
    exact h
theorem Rel.lay {p : Addr} {o : HO} (r : Rel K B F S σ H) (hp : H p = none) (no : ∀ ps, o ≠ .tbl ps := by intro ps z; cases z) : Xt σ S F H S F (upd H p o) ∧ Rel K B F S σ (upd H p o) :=
  r.grow (fun b u h => by rw [upd_ne (ne_of_none h hp)]; exact h) (fun _ h => h) (fun _ h => .inl h) (upd_nt no)
/-- .. frozen at once -/
theorem Rel.layF {p : Addr} {o : HO} (r : Rel K B F S σ H) (hp : H p = none) (no : ∀ ps, o ≠ .tbl ps := by intro ps z; cases z) : Xt σ S F H S (fun a => F a ∨ a = p) (upd H p o) ∧ Rel K B (fun a => F a ∨ a = p) S σ (upd H p o) :=
  r.grow (fun b u h => by rw [upd_ne (ne_of_none h hp)]; exact h) (fun _ h => .inl h) (fun a h => by
    rcases h with h | h
    · exact .inl h
    · exact .inr ⟨by rw [h]; exact hp, _, by rw [h]; exact upd_same⟩) (upd_nt no)
theorem Rel.nF {p : Addr} (r : Rel K B F S σ H) (hp : H p = none) : ¬ F p := fun h => by
  obtain ⟨o, ho⟩ := r.trk p h
  rw [hp] at ho
  cases ho
theorem Rel.nSl {p : Addr} (r : Rel K B F S σ H) (hp : H p = none) (i : Nat) (q : Bool) (e : D) (h : S[i]? = some (.ow q e)) : σ[i]? ≠ some (some (.ref p)) := fun z => by
  obtain ⟨o, h1, a, h2, _, h3⟩ := r.sl i _ h
  rw [z] at h1
  cases h1
  cases h2
  obtain ⟨u, hu⟩ := h3.there
  rw [hp] at hu
  cases hu
/-- a fresh list -/
theorem PoOk.list {p : Addr} {vs : List V} {ds : List D} (h : PoOk K B S F H σ Q (.ow (.lst ds)) S) (r : Rel K B F S σ H) (t : Ats K F H vs ds) (hp : H p = none) : Q (.ref p) (upd H p (.lst vs)) := by
  obtain ⟨e, r'⟩ := r.lay (o := .lst vs) hp
  exact h _ _ _ e r' ⟨p, rfl, r.nF hp, ⟨vs, upd_same, t.ext e.toExt⟩, r.h0 hp, hp, r.nSl hp⟩
/-- a new tuple -/
theorem PoOk.tuple {p : Addr} {vs : List V} {ds : List D} (h : PoOk K B S F H σ Q (.v (.tup ds)) S) (r : Rel K B F S σ H) (t : Ats K F H vs ds) (hp : H p = none) : Q (.ref p) (upd H p (.tup vs)) := by
  obtain ⟨e, r'⟩ := r.layF (o := .tup vs) hp
  exact h _ _ _ e r' (.tup (.inr rfl) (.inl upd_same) (t.ext e.toExt))
/-- a value that is there -/
theorem PoOk.val {x : V} {d : D} (h : PoOk K B S F H σ Q (.v d) S) (r : Rel K B F S σ H) (t : At K F H x d) : Q x H := h _ _ _ (Xt.refl σ S F H) r t
end
end DL
namespace DL
open PySem PySem.Spec PyProof.Rows L2
variable [Nm]

/-! ### defs that are called where nothing is being shown (repr wants to know that) -/
structure FnG (P : Program) (w : World) (K : Fr) (mg : Str → Option Value) (base : Heap) (T : CXT) (k : Nat) (f : Addr) (fd : FuncData) (ps : List Str) (sp : Sp) : Prop where
  len : ∀ vs H Q E, sp vs H Q E → vs.length = ps.length
  run : ∀ (A : Around) (outer : List Env) (s : Shared) (H : Hp) (args : Args) (us : List Value) (vs : List V) (Q : VK) (E : XK),
    Room k A → A.guards = some [] → Env0 P w K mg base A outer s H → BindsTo s fd args (ps.zip us) → Vals vs us → sp vs H Q E →
    codeAny (model P w) A (.call (.ref f) args) (CR T outer P w H s Q E) s
section
variable {P : Program} {w : World} {K : Fr} {mg : Str → Option Value} {base : Heap} {T : CXT}
theorem FnG.mono {j k : Nat} {f : Addr} {fd : FuncData} {ps : List Str} {sp : Sp} (F : FnG P w K mg base T j f fd ps sp) (h : j ≤ k) : FnG P w K mg base T k f fd ps sp :=
  ⟨F.len, fun A o s H as us vs Q E r => F.run A o s H as us vs Q E (r.mono h)⟩
theorem fnG_of {x qual : Str} {st : Stmt} {f : Addr} {fd : FuncData} {N ps : List Str} {k : Nat} {sp : Sp} (D : Fun K x qual st f fd) (S : FnScope N ps (defScope st))
    (len : ∀ vs H Q E, sp vs H Q E → vs.length = ps.length)
    (body : ∀ (cdv : Value), fd.code = cdv → ∀ (A : Around) (outer : List Env) (s : Shared) (H : Hp) (vs : List V) (Q : VK) (E : XK), Room k (A.deeper (envOfC qual (defScope st) s.heap.objs.size f cdv)) → A.guards = some [] → sp vs H Q E →
      ∃ t, PSs (cxOf T P w K mg base N qual (defScope st) f cdv A outer s H E) (defBody st) t ∧ t { nx := fun _ H' => Q .non H', rt := Q } (start N vs) H) :
    FnG P w K mg base T (k + 1) f fd ps sp := by
  obtain ⟨oc, od, kV, doc, pm, an, cdv, ct, osl, rfl, lk, code⟩ := D.ex
  constructor
  · exact len
  intro A outer s H args us vs Q E room gd env0 binds rel want
  have nargs := len _ _ _ _ want
  have KX : K.In s.heap := env0.mod.kin.keeps (fun b o q => (env0.bs b o q).1)
  have NL : s.heap.NoLimit := env0.mod.nolimit.keeps (fun b o q => (env0.bs b o q).1)
  have kinds : ∀ y ∈ ps.zip us, (defScope st).names.lookup y.1 = some .local ∨
      ((defScope st).names.lookup y.1 = some .cell ∧ ((cellsFrom (s.heap.objs.size + 1) (defScope st).names []).lookup y.1).isSome = true) := by
    rintro ⟨n, v⟩ hy
    cases S.par n (List.of_mem_zip hy).1 with
    | inl q => exact .inl q
    | inr q => exact .inr ⟨q, PySem.W.cellsFrom_some _ _ _ (.inl q)⟩
  apply codeAny_call_function room.depth (KX _ _ lk) rfl S.co S.gen rfl (PySem.W.codeRec_of KX code)
  apply binds
  apply wpAny_newFunctionEnv_cells S.kind kinds
  intro env he s1 ic
  subst he
  refine ⟨NL.keeps ic.toInCall.keep, codeAny_func ?_⟩
  obtain ⟨t, ps', q⟩ := body cdv rfl A outer s H vs Q E (room.deeper _) gd want
  have inv := inv_start (CX := T) (E := E) (N := N) S room.hd env0 nargs rel ic
  apply wpAny_mono (ps'.run [] s1 _ H _ inv q)
  · intro fl s' sp'
    cases fl with
    | brk =>
      obtain ⟨_, _, _, z⟩ := sp'
      exact z.elim
    | cont =>
      obtain ⟨_, _, _, z⟩ := sp'
      exact z.elim
    | next =>
      obtain ⟨_, H', J, z⟩ := sp'
      exact ⟨V.non, H', J.os, J.bare, J.base, J.hok, rfl, z⟩
    | ret u =>
      obtain ⟨v, _, H', J, rv, z⟩ := sp'
      exact ⟨v, H', J.os, J.bare, J.base, J.hok, rv, z⟩
  · exact fun _ _ z => z
end

section
variable {X : Cx} {T : CXT} {k : Nat} {f C : Addr} {fd : FuncData} {ps : List Str} {sp : Sp} {dvs : List V} {ds : List Value} {E : XK}
/-- the callee runs -/
theorem run_fnG {pins : List (Addr × Obj)} {σ : St} {H : Hp} {s : Shared} {Q : VK} {us : List Value} {vs : List V} (F : FnG X.prog X.w X.K X.mg X.base T k f fd ps sp) (hr : Room k X.A) (hg : X.A.guards = some [])
    (hb : Binds X.K fd ps ds) (hd : Vals dvs ds) (hx : Inv X pins σ H s → ∀ e s', T X.stack H s E e s' → X.xe e s') (I : Inv X pins σ H s) (r : Vals vs us) (h : sp (vs ++ dvs) H Q E) :
    wpAny (model X.prog X.w) X.A (call (.ref f) us) (EP X pins σ Q) X.xe s := by
  have all : Vals (vs ++ dvs) (us ++ ds) := r.append hd
  have cnt : (us ++ ds).length = ps.length := all.length.symm.trans (F.len _ _ _ _ h)
  apply wpAny_call
  apply codeAny_mono (F.run X.A X.stack s H ⟨us, []⟩ _ _ Q E hr hg I.env0 (hb s us I.kIn cnt) all h)
  intro r s' q
  match r, q with
  | .error e, q => exact hx I e s' q
  | .ok (.ret u), q => exact I.after q
  | .ok .next, q => exact q.elim
  | .ok .brk, q => exact q.elim
  | .ok .cont, q => exact q.elim
end

/-! ### the law's call -/
theorem lawG {P : Program} {w : World} {K : Fr} {mg mb : Str → Option Value} {T : CXT} {k : Nat} {fa a : Addr} {fd : FuncData} {x : Str} {sp : Sp} {s₁ : Shared} {vs : List Value} {ns : List Int}
    (KX : K.In s₁.heap) (gn : s₁.heap.Ns mainGlobals mg) (bn : s₁.heap.Ns builtinsNs mb) (bb : ∀ x : Str, x ≠ "__name__" → mb x = bootBuiltins x) (lim : s₁.heap.NoLimit) (gens : s₁.gens = #[])
    (obj : s₁.heap.get? a = some { cls := .type "list", data := .seq vs.toArray }) (iar : IntsAre vs ns) (small : ns.length ≤ sizeLine) (room : Room k callerA)
    (F : ∀ base : Heap, K.In base → base.Ns mainGlobals mg → FnG P w K mg base T k fa fd [x] sp) (bind : ∀ (s : Shared) (u : Value), BindsTo s fd ⟨[u], []⟩ [(x, u)])
    (want : ∀ H : Hp, Only H → SqL K H a (ns.map V.int) → sp [.ref a] H (fun v _ => v = .bl true) fun _ _ _ => False)
    (none_out : ∀ H e s', T [] H s₁ (fun _ _ _ => False) e s' → False) :
    codeAny (model P w) callerA (.call (.ref fa) ⟨[.ref a], []⟩) (fun r s' => r = .ok (.ret (.bool true)) ∧ OldK s₁.heap s'.heap ∧ s'.os = s₁.os ∧ AllBare s'.gens) s₁ := by
  have rv := vals_ints iar
  have nl := iar.length
  /- H: the script alone, or nothing -/
  have main : ∀ H : Hp, Only H → SqL K H a (ns.map V.int) → HOk P w H s₁.heap → (∀ b, H b ≠ none → b = a) → (H a ≠ none → K.lookup a = none) →
      codeAny (model P w) callerA (.call (.ref fa) ⟨[.ref a], []⟩) (fun r s' => r = .ok (.ret (.bool true)) ∧ OldK s₁.heap s'.heap ∧ s'.os = s₁.os ∧ AllBare s'.gens) s₁ := by
    intro H only sq hok onA notK
    have free : ∀ {b : Addr} {o : Obj} {es : Array DictEntry} {ep : Nat}, s₁.heap.get? b = some o → o.data = .dict es ep → H b = none := by
      intro b o es ep e d
      refine Classical.byContradiction fun z => ?_
      have := onA b z
      subst this
      rw [obj] at e
      cases e
      cases (show Data.seq vs.toArray _ = Data.dict es ep from d)
    have ns_ : ∀ {b : Addr} {m : Str → Option Value}, s₁.heap.Ns b m → (hidT s₁.heap H).Ns b m := by
      rintro b m ⟨o, es, ep, e, d, r⟩
      exact ⟨o, es, ep, hidT_get e (free e d), d, r⟩
    have kin : K.In (hidT s₁.heap H) := by
      intro b o e
      refine hidT_get (KX b o e) (Classical.byContradiction fun z => ?_)
      have := onA b z
      subst this
      rw [notK z] at e
      cases e
    have md : Mod K mg (hidT s₁.heap H) := by
      obtain ⟨mc, l1, l2⟩ := lim
      exact ⟨kin, ns_ gn, ⟨mb, ns_ bn, bb⟩, ⟨mc, ns_ l1, l2⟩⟩
    have e0 : Env0 P w K mg (hidT s₁.heap H) callerA [] s₁ H :=
      ⟨rfl, md, fun b o e => of_hidT e, Nat.le_of_eq (hidT_size _ _), trivial, fun b hb => (List.not_mem_nil hb).elim, hok, .of_eq gens⟩
    have call := (F _ kin (ns_ gn)).run callerA [] s₁ H ⟨[.ref a], []⟩ [.ref a] [.ref a] _ _ room rfl e0 (bind s₁ (.ref a)) (.cons rfl .nil) (want H only sq)
    apply codeAny_mono call
    intro r s' q
    match r, q with
    | .error e, q => exact (none_out H e s' q).elim
    | .ok .next, q => exact q.elim
    | .ok .brk, q => exact q.elim
    | .ok .cont, q => exact q.elim
    | .ok (.ret u), q =>
      obtain ⟨v, H', os, bare, un, hok', rl, (is : v = .bl true)⟩ := q
      subst is
      cases (show u = Value.bool true from rl)
      refine ⟨rfl, OldK.of_keep fun b o e => ?_, os, bare⟩
      cases hb : H b with
      | none => exact un.keep b o e hb (fun z => (List.not_mem_nil z).elim) (by simp)
      | some u =>
        rcases only b with z | ⟨ob, xs, z⟩
        · rw [hb] at z
          cases z
        · have e1 := (hok b _ z).1
          have e2 := (hok' b _ (un.frzs b ob _ z)).1
          rw [e] at e1
          cases e1
          exact e2
  cases hk : K.lookup a with
  | some o =>
    have e := KX a o hk
    rw [obj] at e
    cases e
    refine main (fun _ => none) (fun _ => .inl rfl) (.inr ⟨_, vs.toArray, _, hk, rfl, rfl, rfl, ?_, ?_⟩) (fun b o e => nomatch e) (fun b z => absurd rfl z) fun z => absurd rfl z
    · have : vs.toArray.size = ns.length := by simp [nl]
      omega
    · simpa using rv
  | none =>
    have zl : (ns.map V.int).length ≤ sizeLine := by simpa using small
    refine main (fun b => if b = a then some (.frz ({ cls := .type "list", data := .seq vs.toArray } : Obj) (.lst (ns.map V.int))) else none) (fun b => ?_) (.inl (.inr ⟨_, if_pos rfl⟩)) (fun b o e => ?_) (fun b z => ?_) fun _ => hk
    · by_cases hb : b = a
      · exact .inr ⟨_, _, if_pos hb⟩
      · exact .inl (if_neg hb)
    · by_cases hb : b = a
      · subst hb
        dsimp only at e
        rw [if_pos rfl] at e
        cases e
        exact ⟨obj, zl, vs, _, rv, obj⟩
      · dsimp only at e
        rw [if_neg hb] at e
        cases e
    · refine Classical.byContradiction fun hb => z (if_neg hb)
theorem walkG {l : PySem.W.OpenLaw} {n k : Nat} {q : Program} {loose : List Str} {XP : (Str → Option Value) → Heap → Prop} {YP : World → Heap → Prop} {d : DefRec} {K : Params → Fr} {T : World → CXT} {sp : World → Sp} {x : Str}
    (most : l.most = some n) (small : n ≤ sizeLine) (nodef : d.params.defaults = []) (room : Room k callerA) (hY : ∀ (w : World) (h : Heap), YP w h → (K w.params).In h)
    (F : ∀ (w : World) (mg : Str → Option Value) (fa : Addr) (h : Heap), (K w.params).In h → h.Ns mainGlobals mg → mg d.name = some (.ref fa) →
      ∃ fd : FuncData, (∀ (s : Shared) (u : Value), BindsTo s fd ⟨[u], []⟩ [(x, u)]) ∧
        ∀ base : Heap, (K w.params).In base → base.Ns mainGlobals mg → FnG l.prog w (K w.params) mg base (T w) k fa fd [x] (sp w))
    (want : ∀ (w : World) (H : Hp) (a : Addr) (ns : List Int), ns.length ≤ n → Only H → SqL (K w.params) H a (ns.map V.int) → sp w [.ref a] H (fun v _ => v = .bl true) fun _ _ _ => False)
    (none_out : ∀ (w : World) (H : Hp) (s : Shared) (e : Value) (s' : Shared), T w [] H s (fun _ _ _ => False) e s' → False) :
    PySem.W.WalkO q loose XP YP l.row.toRowW d [] (fun f vs => PySem.call f vs) := by
  apply Att.attach_call most nodef
  intro w s₀ s₁ mg mb fa o pm cd doc a vs ns G Y ho hd hcd hmg hobj hints hlen hg
  obtain ⟨fd, hb, hF⟩ := F w mg fa _ (hY w _ Y) G.T.g hmg
  exact lawG (hY w _ Y) G.T.g G.T.b G.T.builtins G.T.nolimit hg hobj hints (Nat.le_trans hlen small) room hF hb (fun H only sq => want w H a ns hlen only sq) fun H e s' => none_out w H s₁ e s'
end DL
namespace DL
open PySem PySem.Spec PyProof.Rows L2
variable [Nm]

/-! ### values read -/
def R.get (S : DS) : R → Option D
  | .v d => some d
  | .bw i => match S[i]? with
    | some (.ow _ d) => some d
    | _ => none
  | .ow _ => none
/-- x reads as d: frozen, or the object that a slot owns -/
def Rds (K : Fr) (F : Addr → Prop) (H : Hp) (x : V) (d : D) : Prop := At K F H x d ∨ ∃ a, x = .ref a ∧ OwnAt K F H a d
/-- what is kept of a part while the next ones are reckoned -/
def RVs (K : Fr) (F : Addr → Prop) (σ : St) (H : Hp) (x : V) : R → Prop
  | .v d => At K F H x d
  | .bw i => σ[i]? = some (some x)
  | .ow _ => True
section
variable {K : Fr} {W : WX} {B : Bs} {F F' : Addr → Prop} {H H' : Hp} {σ : St} {Q : VK} {S : DS} {x y : V} {r ra rb : R} {d : D}
theorem RV.s {G : Hp} (h : RV K B G F S σ H x r) : RVs K F σ H x r := by
  cases r with
  | v d => exact h
  | ow d => trivial
  | bw i => exact h
theorem RVs.ext (e : Ext F H F' H') (h : RVs K F σ H x r) : RVs K F' σ H' x r := by
  cases r with
  | v d => exact At.ext e h
  | ow d => trivial
  | bw i => exact h
theorem RVs.rds (rel : Rel K B F S σ H) (h : RVs K F σ H x r) (g : r.get S = some d) : Rds K F H x d := by
  cases r with
  | v e => cases g; exact .inl h
  | ow e => cases g
  | bw i =>
    unfold R.get at g
    dsimp only at g
    split at g
    · rename_i p e hS
      cases g
      obtain ⟨o, h1, a, h2, h3, h4⟩ := rel.sl i _ hS
      have h' : σ[i]? = some (some x) := h
      rw [h'] at h1
      cases h1
      cases h2
      exact .inr ⟨a, rfl, h4⟩
    · cases g
theorem Rds.lst {ds : List D} (h : Rds K F H x (.lst ds)) : ∃ a vs, x = .ref a ∧ H a = some (.lst vs) ∧ Ats K F H vs ds := by
  rcases h with h | ⟨a, h1, vs, h2, h3⟩
  · exact h.lstI
  · exact ⟨a, vs, h1, h2, h3⟩
theorem Rds.scr {ns : List Int} (h : Rds K F H x (.scr ns)) : ∃ a, x = .ref a ∧ SqL K H a (ns.map V.int) := by
  rcases h with h | ⟨a, h1, h2⟩
  · exact h.scrI
  · exact h2.elim
theorem Rds.tup {ds : List D} (h : Rds K F H x (.tup ds)) : ∃ a vs, x = .ref a ∧ SqT K H a vs ∧ Ats K F H vs ds := by
  rcases h with h | ⟨a, h1, h2⟩
  · exact h.tupI
  · exact h2.elim
theorem Rds.int {i : Int} (h : Rds K F H x (.int i)) : x = .int i := by
  rcases h with h | ⟨a, h1, h2⟩
  · exact h.intI
  · exact h2.elim
theorem Rds.str {i : Str} (h : Rds K F H x (.str i)) : x = .str i := by
  rcases h with h | ⟨a, h1, h2⟩
  · exact h.strI
  · exact h2.elim
theorem Rds.bl {b : Bool} (h : Rds K F H x (.bl b)) : x = .bl b := by
  rcases h with h | ⟨a, h1, h2⟩
  · exact h.blI
  · exact h2.elim
theorem Rds.non (h : Rds K F H x .non) : x = .non := by
  rcases h with h | ⟨a, h1, h2⟩
  · exact h.nonI
  · exact h2.elim
theorem Rds.ty {n : String} (h : Rds K F H x (.ty n)) : x = .ty n := by
  rcases h with h | ⟨a, h1, h2⟩
  · cases h; rfl
  · exact h2.elim
theorem Rds.cls {a : Addr} (h : Rds K F H x (.cls a)) : x = .ref a := by
  rcases h with h | ⟨a, h1, h2⟩
  · cases h; rfl
  · exact h2.elim
end

/-! ### two-place operations -/
def lift2 (o : D → D → Option R) (ra rb : R) : DS → Out := fun S => match ra.get S, rb.get S with
  | some a, some b => match o a b with
    | some r => .ok r S
    | none => .stuck
  | _, _ => .stuck
def bin (o : D → D → Option R) (f g : DS → Out) : DS → Out := bnd f fun ra => bnd g fun rb => lift2 o ra rb
/-- the operation on values r does on trees what o says -/
def OpD (K : Fr) (r : R2) (o : D → D → Option R) : Prop := ∀ (B : Bs) (F : Addr → Prop) (S : DS) (σ : St) (H : Hp) (x y : V) (a b : D) (rr : R) (Q : VK),
  Rel K B F S σ H → Rds K F H x a → Rds K F H y b → o a b = some rr → PoOk K B S F H σ Q rr S → r x y H Q
section
variable {X : Cx} {W : WX} {e e1 e2 : Expr} {f g : DS → Out} {pos : Pos} {r : R2} {o : D → D → Option R}
theorem lift2_po {K : Fr} {B : Bs} {F : Addr → Prop} {S : DS} {σ : St} {H : Hp} {x y : V} {ra rb : R} {Q : VK} (h : OpD K r o) (rel : Rel K B F S σ H) (sa : RVs K F σ H x ra) (sb : RVs K F σ H y rb) (p : Po K W B S F H σ Q (lift2 o ra rb S)) : r x y H Q := by
  unfold lift2 at p
  cases ha : ra.get S with
  | none => rw [ha] at p; exact p.elim
  | some a =>
    cases hb : rb.get S with
    | none => rw [ha, hb] at p; exact p.elim
    | some b =>
      rw [ha, hb] at p
      dsimp only at p
      cases hr : o a b with
      | none => rw [hr] at p; exact p.elim
      | some rr =>
        rw [hr] at p
        exact h _ _ _ _ _ x y a b rr Q rel (sa.rds rel ha) (sb.rds rel hb) hr p
theorem tOp_of {K : Fr} (h : OpD K r o) {σ : St} {H : Hp} {Q : VK} (q : tE K W (bin o f g) σ H Q) : tOp r (tE K W f) (tE K W g) σ H Q := by
  obtain ⟨B, F, S, rel, p⟩ := q
  obtain ⟨B1, F1, S1, rel1, p1⟩ := tE_bnd rel p
  refine ⟨B1, F1, S1, rel1, Po.imp ?_ p1⟩
  rintro x H1 ⟨F2, S2, ra, x2, rel2, rv2, p2⟩
  obtain ⟨B3, F3, S3, rel3, p3⟩ := tE_bnd rel2 p2
  refine ⟨B3, F3, S3, rel3, Po.imp ?_ p3⟩
  rintro y H2 ⟨F4, S4, rb, x4, rel4, rv4, p4⟩
  have sa := RVs.ext x4.toExt rv2.s
  exact lift2_po h rel4 sa rv4.s p4
theorem ev_bin {op : Operator} (ho : OpR X (binaryOp op) r) (h : OpD X.K r o) (a : EV X W e1 f) (b : EV X W e2 g) : EV X W (.BinOp e1 op e2 pos) (bin o f g) :=
  ⟨PE.imp (pe_op ho a.pe b.pe) fun σ H Q q => tOp_of h q⟩
theorem ev_cmp {op : CmpOp} (ho : OpR X (compareOp op) r) (h : OpD X.K r o) (a : EV X W e1 f) (b : EV X W e2 g) (hm : behindInMarks op e2 = false) : EV X W (.Compare e1 [op] [e2] pos) (bin o f g) :=
  ⟨PE.imp (pe_cmpR ho a.pe b.pe hm) fun σ H Q q => tOp_of h q⟩
theorem OpD.or {K : Fr} {r r' : R2} {o : D → D → Option R} (h : ∀ B F S σ H x y a b rr Q, Rel K B F S σ H → Rds K F H x a → Rds K F H y b → o a b = some rr → PoOk K B S F H σ Q rr S → r x y H Q ∨ r' x y H Q) : OpD K (fun x y H Q => r x y H Q ∨ r' x y H Q) o := h

/-- + -/
def addD : D → D → Option R
  | .int i, .int j => some (.v (.int (i + j)))
  | .str x, .str y => if x.length + y.length ≤ sizeLine then some (.v (.str (x ++ y))) else none
  | .lst xs, .lst ys => if xs.length + ys.length ≤ sizeLine then some (.ow (.lst (xs ++ ys))) else none
  | _, _ => none
abbrev rAddS : R2 := fun x y H Q => ∃ i j, x = .str i ∧ y = .str j ∧ i.length + j.length ≤ sizeLine ∧ Q (.str (i ++ j)) H
abbrev rAdd : R2 := fun x y H Q => (rI0 fun i j => .int (i + j)) x y H Q ∨ (rAddS x y H Q ∨ rCat x y H Q)
theorem add_or : OpR X (binaryOp .Add) rAdd := OpR.or op_add (OpR.or op_add_str op_cat)
theorem addD_ok {K : Fr} : OpD K rAdd addD := by
  intro B F S σ H x y a b rr Q rel hx hy e p
  unfold addD at e
  split at e
  · cases e
    exact .inl ⟨_, _, hx.int, hy.int, p.val rel (.int _)⟩
  · split at e
    · rename_i hl
      cases e
      exact .inr (.inl ⟨_, _, hx.str, hy.str, hl, p.val rel (.str _)⟩)
    · cases e
  · split at e
    · rename_i hl
      cases e
      obtain ⟨l, vs, e1, h1, t1⟩ := hx.lst
      obtain ⟨m, ws, e2, h2, t2⟩ := hy.lst
      refine .inr (.inr ⟨l, m, vs, ws, e1, e2, h1, h2, by rw [t1.length, t2.length]; exact hl, fun q hq => p.list rel (t1.append t2) hq⟩)
    · cases e
  · cases e
theorem ev_add (a : EV X W e1 f) (b : EV X W e2 g) : EV X W (.BinOp e1 .Add e2 pos) (bin addD f g) := ev_bin add_or addD_ok a b
/-- a rule of two ints -/
theorem intD {K : Fr} {C : Int → Int → Prop} {gv : Int → Int → V} {o : D → D → Option R} (h : ∀ a b rr, o a b = some rr → ∃ i j d, a = .int i ∧ b = .int j ∧ C i j ∧ rr = .v d ∧ ∀ F H, At K F H (gv i j) d) : OpD K (rI C gv) o := by
  intro B F S σ H x y a b rr Q rel hx hy e p
  obtain ⟨i, j, d, rfl, rfl, hc, rfl, ha⟩ := h a b rr e
  exact ⟨i, j, hx.int, hy.int, hc, p.val rel (ha F H)⟩
theorem intD0 {K : Fr} {gv : Int → Int → V} {o : D → D → Option R} (h : ∀ a b rr, o a b = some rr → ∃ i j d, a = .int i ∧ b = .int j ∧ rr = .v d ∧ ∀ F H, At K F H (gv i j) d) : OpD K (rI0 gv) o := by
  intro B F S σ H x y a b rr Q rel hx hy e p
  obtain ⟨i, j, d, rfl, rfl, rfl, ha⟩ := h a b rr e
  exact ⟨i, j, hx.int, hy.int, p.val rel (ha F H)⟩
def subD : D → D → Option R
  | .int i, .int j => some (.v (.int (i - j)))
  | _, _ => none
theorem ev_sub (a : EV X W e1 f) (b : EV X W e2 g) : EV X W (.BinOp e1 .Sub e2 pos) (bin subD f g) := ev_bin op_sub (intD0 fun a b rr e => by
  unfold subD at e
  split at e
  · cases e; exact ⟨_, _, _, rfl, rfl, rfl, fun _ _ => .int _⟩
  · cases e) a b
/-- a product: a factor within 2^64, or both below some half a million bits -/
def mulOk (i j : Int) : Bool := decide ((-(2 ^ 64) < i ∧ i < 2 ^ 64) ∨ (-(2 ^ 64) < j ∧ j < 2 ^ 64))
theorem mulOk_l {i j : Int} (h1 : -(2 ^ 64) < i) (h2 : i < 2 ^ 64) : mulOk i j = true := decide_eq_true (.inl ⟨h1, h2⟩)
theorem mulOk_r {i j : Int} (h1 : -(2 ^ 64) < j) (h2 : j < 2 ^ 64) : mulOk i j = true := decide_eq_true (.inr ⟨h1, h2⟩)
def mulD : D → D → Option R
  | .int i, .int j => if mulOk i j then some (.v (.int (i * j))) else none
  | .lst xs, .int k => if xs.length * k.toNat ≤ 100000 ∧ k ≤ 100000 ∧ 0 ≤ k then some (.ow (.lst (List.replicate k.toNat xs).flatten)) else none
  | _, _ => none
abbrev rMul : R2 := fun x y H Q => (rI CMul fun i j => .int (i * j)) x y H Q ∨ rRep x y H Q
theorem mul_or : OpR X (binaryOp .Mult) rMul := OpR.or op_mul op_rep
theorem Ats.rep {K : Fr} {F : Addr → Prop} {H : Hp} {vs : List V} {ds : List D} (t : Ats K F H vs ds) : ∀ n : Nat, Ats K F H (List.replicate n vs).flatten (List.replicate n ds).flatten
  | 0 => .nil
  | n + 1 => by
    rw [List.replicate_succ, List.replicate_succ, List.flatten_cons, List.flatten_cons]
    exact t.append (Ats.rep t n)
theorem mulD_ok {K : Fr} : OpD K rMul mulD := by
  intro B F S σ H x y a b rr Q rel hx hy e p
  unfold mulD at e
  split at e
  · split at e
    · rename_i hl
      cases e
      unfold mulOk at hl
      have hc := of_decide_eq_true hl
      exact .inl ⟨_, _, hx.int, hy.int, hc, p.val rel (.int _)⟩
    · cases e
  · split at e
    · rename_i hl
      cases e
      obtain ⟨l, vs, e1, h1, t1⟩ := hx.lst
      refine .inr ⟨l, _, vs, e1, hy.int, h1, by omega, by omega, ?_, fun q hq => p.list rel (t1.rep _) hq⟩
      rw [t1.length, sizeLine_eq]
      omega
    · cases e
  · cases e
theorem ev_mul (a : EV X W e1 f) (b : EV X W e2 g) : EV X W (.BinOp e1 .Mult e2 pos) (bin mulD f g) := ev_bin mul_or mulD_ok a b
/-- // by a divisor from 1 to 2^30 - 1 -/
def fdivD : D → D → Option R
  | .int i, .int j => if 0 < j ∧ j < 1073741824 then some (.v (.int (i / j))) else none
  | _, _ => none
theorem ev_fdiv (a : EV X W e1 f) (b : EV X W e2 g) : EV X W (.BinOp e1 .FloorDiv e2 pos) (bin fdivD f g) := ev_bin op_fdiv (intD fun a b rr e => by
  unfold fdivD at e
  split at e
  · split at e
    · rename_i hc
      cases e; exact ⟨_, _, _, rfl, rfl, hc, rfl, fun _ _ => .int _⟩
    · cases e
  · cases e) a b
def modD : D → D → Option R
  | .int i, .int j => if 0 < j then some (.v (.int (i % j))) else none
  | _, _ => none
theorem ev_mod (a : EV X W e1 f) (b : EV X W e2 g) : EV X W (.BinOp e1 .Mod e2 pos) (bin modD f g) := ev_bin op_mod (intD fun a b rr e => by
  unfold modD at e
  split at e
  · split at e
    · rename_i hc
      cases e; exact ⟨_, _, _, rfl, rfl, hc, rfl, fun _ _ => .int _⟩
    · cases e
  · cases e) a b
def powD : D → D → Option R
  | .int i, .int j => if 0 ≤ j ∧ j ≤ 1000000 ∧ i.natAbs < 2 ^ 64 then some (.v (.int (i ^ j.toNat))) else none
  | _, _ => none
theorem ev_pow (a : EV X W e1 f) (b : EV X W e2 g) : EV X W (.BinOp e1 .Pow e2 pos) (bin powD f g) := ev_bin op_pow (intD fun a b rr e => by
  unfold powD at e
  split at e
  · split at e
    · rename_i hc
      cases e; exact ⟨_, _, _, rfl, rfl, hc, rfl, fun _ _ => .int _⟩
    · cases e
  · cases e) a b
/-- comparisons of ints -/
def cmpD (p : Int → Int → Bool) : D → D → Option R
  | .int i, .int j => some (.v (.bl (p i j)))
  | _, _ => none
theorem cmpD_ok {K : Fr} {p : Int → Int → Bool} : OpD K (rI0 fun i j => .bl (p i j)) (cmpD p) := intD0 fun a b rr e => by
  unfold cmpD at e
  split at e
  · cases e; exact ⟨_, _, _, rfl, rfl, rfl, fun _ _ => .bl _⟩
  · cases e
abbrev ltD := cmpD fun i j => decide (i < j)
abbrev leD := cmpD fun i j => decide (i ≤ j)
abbrev gtD := cmpD fun i j => decide (j < i)
abbrev geD := cmpD fun i j => decide (j ≤ i)
theorem ev_lt (a : EV X W e1 f) (b : EV X W e2 g) : EV X W (.Compare e1 [.Lt] [e2] pos) (bin ltD f g) := ev_cmp op_lt cmpD_ok a b (nomark _)
theorem ev_le (a : EV X W e1 f) (b : EV X W e2 g) : EV X W (.Compare e1 [.LtE] [e2] pos) (bin leD f g) := ev_cmp op_le cmpD_ok a b (nomark _)
theorem ev_gt (a : EV X W e1 f) (b : EV X W e2 g) : EV X W (.Compare e1 [.Gt] [e2] pos) (bin gtD f g) := ev_cmp op_gt cmpD_ok a b (nomark _)
theorem ev_ge (a : EV X W e1 f) (b : EV X W e2 g) : EV X W (.Compare e1 [.GtE] [e2] pos) (bin geD f g) := ev_cmp op_ge cmpD_ok a b (nomark _)

/-! ### == and != of data -/
mutual
def D.py : D → Option PyData
  | .non => some .none
  | .bl b => some (.bool b)
  | .int i => some (.int i)
  | .str x => some (.str x)
  | .lst xs => match D.pys xs with
    | some ps => some (.list ps)
    | none => none
  | .tup xs => match D.pys xs with
    | some ps => some (.tuple ps)
    | none => none
  | .tpx xs => match D.pys xs with
    | some ps => some (.tuple ps)
    | none => none
  | _ => none
def D.pys : List D → Option (List PyData)
  | [] => some []
  | d :: ds => match D.py d, D.pys ds with
    | some p, some ps => some (p :: ps)
    | _, _ => none
end
mutual
theorem At.dp {K : Fr} {F : Addr → Prop} {H : Hp} : ∀ {x : V} {d : D} {p : PyData}, At K F H x d → d.py = some p → Dp K H x p
  | _, _, _, .non, e => by simp only [D.py] at e; cases e; exact .non
  | _, _, _, .bl b, e => by simp only [D.py] at e; cases e; exact .bl b
  | _, _, _, .int i, e => by simp only [D.py] at e; cases e; exact .int i
  | _, _, _, .str s, e => by simp only [D.py] at e; cases e; exact .str s
  | _, _, _, .ty n, e => by simp [D.py] at e
  | _, _, _, .cls a, e => by simp [D.py] at e
  | _, _, _, .scr h, e => by simp [D.py] at e
  | _, _, _, .dct f h t, e => by simp [D.py] at e
  | _, _, _, .ins f h t, e => by simp [D.py] at e
  | _, _, _, .box h, e => by simp [D.py] at e
  | _, _, _, @At.lst _ _ _ a vs ds f h t, e => by
    simp only [D.py] at e
    cases q : D.pys ds with
    | none => rw [q] at e; cases e
    | some ps =>
      rw [q] at e
      cases e
      exact .lst (.inl (.inl h)) (Ats.dp t q)
  | _, _, _, @At.tup _ _ _ a vs ds f h t, e => by
    simp only [D.py] at e
    cases q : D.pys ds with
    | none => rw [q] at e; cases e
    | some ps =>
      rw [q] at e
      cases e
      exact .tup (.inl h) (Ats.dp t q)
  | _, _, _, @At.tpx _ _ _ a o vs ds f h g t, e => by
    simp only [D.py] at e
    cases q : D.pys ds with
    | none => rw [q] at e; cases e
    | some ps =>
      rw [q] at e
      cases e
      exact .tup (.inl (.inr ⟨o, h⟩)) (Ats.dp t q)
  | _, _, _, @At.ktup _ _ _ a vs ds h t, e => by
    simp only [D.py] at e
    cases q : D.pys ds with
    | none => rw [q] at e; cases e
    | some ps =>
      rw [q] at e
      cases e
      exact .tup h.sq (Ats.dp t q)
theorem Ats.dp {K : Fr} {F : Addr → Prop} {H : Hp} : ∀ {xs : List V} {ds : List D} {ps : List PyData}, Ats K F H xs ds → D.pys ds = some ps → DpAll K H xs ps
  | _, _, _, .nil, e => by simp only [D.pys] at e; cases e; exact .nil
  | _, _, _, @Ats.cons _ _ _ v d vs ds h t, e => by
    simp only [D.pys] at e
    cases q : D.py d with
    | none => rw [q] at e; cases e
    | some p =>
      cases q2 : D.pys ds with
      | none => rw [q, q2] at e; cases e
      | some ps =>
        rw [q, q2] at e
        cases e
        exact .cons (At.dp h q) (Ats.dp t q2)
end
theorem Rds.dp {K : Fr} {F : Addr → Prop} {H : Hp} {x : V} {d : D} {p : PyData} (h : Rds K F H x d) (e : d.py = some p) : Dp K H x p := by
  rcases h with h | ⟨a, rfl, h⟩
  · exact h.dp e
  · cases d with
    | lst ds =>
      obtain ⟨vs, h1, h2⟩ := h
      simp only [D.py] at e
      cases q : D.pys ds with
      | none => rw [q] at e; cases e
      | some ps =>
        rw [q] at e
        cases e
        exact .lst (.inl (.inl h1)) (h2.dp q)
    | ins C fs => simp [D.py] at e
    | _ => exact h.elim
def eqP (neg : Bool) (a b : D) : Option R := match a.py, b.py with
  | some p, some q => if SeqAt.shaped p = true ∧ SeqAt.shaped q = true then some (.v (.bl (if neg then !PyData.eqv p q else PyData.eqv p q))) else none
  | _, _ => none
/-- two texts are compared as they are; else data -/
def eqD (neg : Bool) : D → D → Option R
  | .str x, .str y => some (.v (.bl (if neg then !decide (x = y) else decide (x = y))))
  | a, b => eqP neg a b
abbrev rEqA (K : Fr) : R2 := fun x y H Q => rEq x y H Q ∨ rEqD K x y H Q
abbrev rNeA (K : Fr) : R2 := fun x y H Q => rNe x y H Q ∨ rNeD K x y H Q
theorem eq_or (hu : X.A.units + 64 < cLine) : OpR X (compareOp .Eq) (rEqA X.K) := OpR.or op_eq (op_eqD hu)
theorem ne_or (hu : X.A.units + 64 < cLine) : OpR X (compareOp .NotEq) (rNeA X.K) := OpR.or op_ne (op_neD hu)
theorem dec_strV {x y : Str} : decide (V.str x = V.str y) = decide (x = y) := by
  by_cases h : x = y
  · subst h
    simp
  · have : ¬ V.str x = V.str y := fun z => h (by cases z; rfl)
    simp [h, this]
theorem eqD_ok {K : Fr} : OpD K (rEqA K) (eqD false) := by
  intro B F S σ H x y a b rr Q rel hx hy e p
  unfold eqD at e
  split at e
  · cases e
    rw [hx.str, hy.str]
    refine .inl ⟨rfl, ?_⟩
    rw [dec_strV]
    exact p.val rel (.bl _)
  · unfold eqP at e
    split at e
    · rename_i u v hu hv
      split at e
      · rename_i hs
        cases e
        exact .inr ⟨u, v, hx.dp hu, hy.dp hv, hs.1, hs.2, p.val rel (.bl _)⟩
      · cases e
    · cases e
theorem neD_ok {K : Fr} : OpD K (rNeA K) (eqD true) := by
  intro B F S σ H x y a b rr Q rel hx hy e p
  unfold eqD at e
  split at e
  · cases e
    rw [hx.str, hy.str]
    refine .inl ⟨rfl, ?_⟩
    rw [dec_strV]
    exact p.val rel (.bl _)
  · unfold eqP at e
    split at e
    · rename_i u v hu hv
      split at e
      · rename_i hs
        cases e
        exact .inr ⟨u, v, hx.dp hu, hy.dp hv, hs.1, hs.2, p.val rel (.bl _)⟩
      · cases e
    · cases e
theorem ev_eq {k : Nat} (hr : Room k X.A) (a : EV X W e1 f) (b : EV X W e2 g) : EV X W (.Compare e1 [.Eq] [e2] pos) (bin (eqD false) f g) := ev_cmp (eq_or hr.units) eqD_ok a b (nomark _)
theorem ev_ne {k : Nat} (hr : Room k X.A) (a : EV X W e1 f) (b : EV X W e2 g) : EV X W (.Compare e1 [.NotEq] [e2] pos) (bin (eqD true) f g) := ev_cmp (ne_or hr.units) neD_ok a b (nomark _)

/-! ### in, not in -/
def D.flat : D → Option V
  | .non => some .non
  | .bl b => some (.bl b)
  | .int i => some (.int i)
  | .str x => some (.str x)
  | _ => none
def D.flats : List D → Option (List V)
  | [] => some []
  | d :: ds => match d.flat, D.flats ds with
    | some v, some vs => some (v :: vs)
    | _, _ => none
theorem At.flatE {K : Fr} {F : Addr → Prop} {H : Hp} {x : V} {d : D} {v : V} (h : At K F H x d) (e : d.flat = some v) : x = v ∧ flatV v = true := by
  cases h <;> simp only [D.flat] at e <;> cases e <;> exact ⟨rfl, rfl⟩
theorem Ats.flatE {K : Fr} {F : Addr → Prop} {H : Hp} : ∀ {xs : List V} {ds : List D} {vs : List V}, Ats K F H xs ds → D.flats ds = some vs → xs = vs ∧ vs.all flatV = true
  | _, _, _, .nil, e => by simp only [D.flats] at e; cases e; exact ⟨rfl, rfl⟩
  | _, _, _, @Ats.cons _ _ _ v d vs ds h t, e => by
    simp only [D.flats] at e
    cases q : d.flat with
    | none => rw [q] at e; cases e
    | some p =>
      cases q2 : D.flats ds with
      | none => rw [q, q2] at e; cases e
      | some ps =>
        rw [q, q2] at e
        cases e
        obtain ⟨r1, r2⟩ := h.flatE q
        obtain ⟨r3, r4⟩ := Ats.flatE t q2
        subst r1 r3
        exact ⟨rfl, by rw [List.all_cons, r2, r4]; rfl⟩
theorem Rds.flatE {K : Fr} {F : Addr → Prop} {H : Hp} {x : V} {d : D} {v : V} (h : Rds K F H x d) (e : d.flat = some v) : x = v ∧ flatV v = true := by
  rcases h with h | ⟨a, _, h⟩
  · exact h.flatE e
  · cases d <;> first | exact h.elim | cases e
def inD (neg : Bool) : D → D → Option R
  | .str x, .str z => match x.cps.toList with
    | [c] => some (.v (.bl (if neg then !decide (c ∈ z.cps.toList) else decide (c ∈ z.cps.toList))))
    | _ => none
  | a, .lst ds => match a.flat, D.flats ds with
    | some v, some vs => some (.v (.bl (if neg then !inV v vs else inV v vs)))
    | _, _ => none
  | a, .tup ds => match a.flat, D.flats ds with
    | some v, some vs => some (.v (.bl (if neg then !inV v vs else inV v vs)))
    | _, _ => none
  | _, _ => none
abbrev rSign (neg : Bool) : R2 := fun x y H Q => ∃ (c : Nat) (z : Str), x = .str ⟨#[c]⟩ ∧ y = .str z ∧ Q (.bl (if neg then !decide (c ∈ z.cps.toList) else decide (c ∈ z.cps.toList))) H
abbrev rInA (K : Fr) (neg : Bool) : R2 := fun x y H Q => rSign neg x y H Q ∨ rIn K neg x y H Q
theorem in_or : OpR X (compareOp .In) (rInA X.K false) := OpR.or (r := rSign false) op_in_sign op_in_seq
theorem notin_or : OpR X (compareOp .NotIn) (rInA X.K true) := OpR.or (r := rSign true) op_notIn_sign op_notIn_seq
theorem str_one {x : Str} {c : Nat} (h : x.cps.toList = [c]) : x = ⟨#[c]⟩ := by
  obtain ⟨⟨l⟩⟩ := x
  dsimp only at h
  subst h
  rfl
theorem inD_ok {K : Fr} {neg : Bool} : OpD K (rInA K neg) (inD neg) := by
  intro B F S σ H x y a b rr Q rel hx hy e p
  unfold inD at e
  split at e
  · split at e
    · rename_i c hc
      cases e
      refine .inl ⟨c, _, ?_, hy.str, p.val rel (.bl _)⟩
      rw [hx.str, str_one hc]
    · cases e
  · split at e
    · rename_i v vs hv hvs
      cases e
      obtain ⟨l, ws, e1, h1, t1⟩ := hy.lst
      obtain ⟨rfl, f1⟩ := hx.flatE hv
      obtain ⟨rfl, f2⟩ := t1.flatE hvs
      exact .inr ⟨l, _, e1, .inl (.inl (.inl h1)), f1, f2, p.val rel (.bl _)⟩
    · cases e
  · split at e
    · rename_i v vs hv hvs
      cases e
      obtain ⟨l, ws, e1, h1, t1⟩ := hy.tup
      obtain ⟨rfl, f1⟩ := hx.flatE hv
      obtain ⟨rfl, f2⟩ := t1.flatE hvs
      exact .inr ⟨l, _, e1, .inr h1, f1, f2, p.val rel (.bl _)⟩
    · cases e
  · cases e
theorem ev_in (a : EV X W e1 f) (b : EV X W e2 g) (hm : behindInMarks .In e2 = false := by rfl) : EV X W (.Compare e1 [.In] [e2] pos) (bin (inD false) f g) := ev_cmp in_or inD_ok a b hm
theorem ev_notin (a : EV X W e1 f) (b : EV X W e2 g) (hm : behindInMarks .NotIn e2 = false := by rfl) : EV X W (.Compare e1 [.NotIn] [e2] pos) (bin (inD true) f g) := ev_cmp notin_or inD_ok a b hm
end
end DL
namespace DL
open PySem PySem.Spec PyProof.Rows L2
variable [Nm]

/-! ### names, constants -/
def var (i : Nat) : DS → Out := fun S => match S[i]? with
  | some (.fr d) => .ok (.v d) S
  | some (.ow _ _) => .ok (.bw i) S
  | _ => .stuck
def cst (d : D) : DS → Out := fun S => .ok (.v d) S
/-- the same with a fresh object frozen -/
def fz (f : DS → Out) : DS → Out := fun S => match f S with
  | .ok (.ow d) S' => .ok (.v d) S'
  | o => o
section
variable {K : Fr} {W : WX} {B : Bs} {F F' : Addr → Prop} {H H' : Hp} {σ : St} {Q : VK} {S : DS}
theorem Rel.drop {i : Nat} {d : D} (r : Rel K B F S σ H) (hi : S[i]? = some (.ow false d)) : Rel K B F (S.set i .un) σ H := by
  have li : i < S.length := (List.getElem?_eq_some_iff.mp hi).1
  have ne : ∀ {j : Nat} {p : Bool} {e : D}, (S.set i .un)[j]? = some (.ow p e) → i ≠ j ∧ S[j]? = some (.ow p e) := by
    intro j p e h
    by_cases z : i = j
    · subst z
      rw [List.getElem?_set_self li] at h
      cases h
    · rw [List.getElem?_set_ne z] at h
      exact ⟨z, h⟩
  refine ⟨by rw [r.len, List.length_set], fun j s hs => ?_, fun j k a p q e e' h1 h2 => r.dis j k a p q e e' (ne h1).2 (ne h2).2, r.trk, r.f0, r.new, r.keep, fun j a e h => r.own j a e (ne h).2, fun j a h => ?_, fun j a e h => r.onl j a e (ne h).2, r.f0t, r.tabs⟩
  · by_cases z : i = j
    · subst z
      obtain ⟨o, ho, _⟩ := r.sl i _ hi
      rw [List.getElem?_set_self li] at hs
      cases hs
      exact ⟨o, ho, trivial⟩
    · rw [List.getElem?_set_ne z] at hs
      exact r.sl j s hs
  · obtain ⟨h1, e, h2⟩ := r.par j a h
    refine ⟨h1, e, ?_⟩
    have z : i ≠ j := fun z => by
      rw [z, h2] at hi
      cases hi
    rw [List.getElem?_set_ne z]
    exact h2
/-- a fresh object, frozen -/
theorem Fresh.frz {G : Hp} {x : V} {d : D} (r : Rel K B F S σ H) (h : Fresh K B G F S σ H x d) : ∃ a, G a = none ∧ Ext F H (fun b => F b ∨ b = a) H ∧ Rel K B (fun b => F b ∨ b = a) S σ H ∧ At K (fun b => F b ∨ b = a) H x d := by
  obtain ⟨a, rfl, nf, own, h0, g0, ns⟩ := h
  have e : Ext F H (fun b => F b ∨ b = a) H := ⟨fun _ h => .inl h, fun _ _ _ h _ => h, fun _ _ h => h⟩
  refine ⟨a, g0, e, ?_, (own.ext e fun _ h => h).at (.inr rfl)⟩
  refine ⟨r.len, fun i s hs => ?_, r.dis, fun b h => ?_, fun b h => .inl (r.f0 b h), fun b h => ?_, r.keep, r.own, r.par, r.onl, r.f0t, r.tabs⟩
  · obtain ⟨o, ho, hsl⟩ := r.sl i s hs
    refine ⟨o, ho, ?_⟩
    cases s with
    | un => trivial
    | fr d => obtain ⟨v, h1, h2⟩ := hsl; exact ⟨v, h1, h2.ext e⟩
    | ow p d =>
      obtain ⟨b, h1, h2, h3⟩ := hsl
      refine ⟨b, h1, fun z => ?_, h3.ext e fun _ h => h⟩
      rcases z with z | z
      · exact h2 z
      · rw [h1, z] at ho
        exact ns i p d hs ho
  · rcases h with h | h
    · exact r.trk b h
    · rw [h]; exact own.there
  · rcases h with h | h
    · exact r.new b h
    · rw [h]; exact .inr h0
theorem Po.fz {f : DS → Out} (p : Po K W B S F H σ Q (fz f S)) : Po K W B S F H σ Q (f S) := by
  unfold DL.fz at p
  cases e : f S with
  | ok r S' =>
    rw [e] at p
    cases r with
    | ow d =>
      intro x H1 F1 x1 r1 v1
      obtain ⟨a, g, x2, r2, v2⟩ := Fresh.frz r1 v1
      exact p x H1 _ ⟨x1.toExt.trans x2, x1.rest, x1.own, fun b h => h.elim (x1.new b) fun h => .inr (by rw [h]; exact g), x1.there⟩ r2 v2
    | _ => exact p
  | exc C fs S' => rw [e] at p; exact p
  | stuck => rw [e] at p; exact p
end
section
variable {X : Cx} {W : WX} {e e1 e2 : Expr} {f g h : DS → Out} {pos : Pos}
theorem EV.fz (a : EV X W e f) : EV X W e (fz f) := ⟨PE.imp a.pe fun σ H Q ⟨B, F, S, rel, p⟩ => ⟨B, F, S, rel, p.fz⟩⟩
theorem ev_var (i : Nat) {x : Str} (h : PE X (.Name x pos) (tVar i)) : EV X W (.Name x pos) (var i) := by
  refine ⟨PE.imp h fun σ H Q ⟨B, F, S, rel, p⟩ => ?_⟩
  unfold var at p
  cases hs : S[i]? with
  | none => rw [hs] at p; exact p.elim
  | some s =>
    rw [hs] at p
    obtain ⟨o, ho, hsl⟩ := rel.sl i s hs
    cases s with
    | un => exact p.elim
    | fr d =>
      obtain ⟨v, rfl, hv⟩ := hsl
      exact ⟨v, ho, PoOk.val p rel hv⟩
    | ow q d =>
      obtain ⟨a, rfl, hv⟩ := hsl
      exact ⟨_, ho, p _ _ _ (Xt.refl σ S F H) rel ho⟩
theorem ev_cst {v : V} {d : D} (h : PE X e (tC v)) (a : ∀ F H, At X.K F H v d) : EV X W e (cst d) :=
  ⟨PE.imp h fun σ H Q ⟨B, F, S, rel, p⟩ => PoOk.val p rel (a F H)⟩
theorem ev_int {i j} : EV X W (.Constant (.int i) j pos) (cst (.int i)) := ev_cst pe_int fun _ _ => .int i
theorem ev_bl {b j} : EV X W (.Constant (.bool b) j pos) (cst (.bl b)) := ev_cst pe_bl fun _ _ => .bl b
theorem ev_non {j} : EV X W (.Constant .none j pos) (cst .non) := ev_cst pe_non fun _ _ => .non
theorem ev_str {x j} : EV X W (.Constant (.str x) j pos) (cst (.str x)) := ev_cst pe_str fun _ _ => .str x

/-! ### tests -/
/-- a test, as the value of its mirror, a bool -/
structure TV (X : Cx) (W : WX) (e : Expr) (f : DS → Out) : Prop where
  pt : PT X e (tB (tE X.K W f))
structure TW (X : Cx) (W : WX) (e : Expr) (f : DS → Out) : Prop where
  pw : PW X e (tB (tE X.K W f))
theorem PT.imp {t t' : TT} (p : PT X e t) (h : ∀ σ H Q, t' σ H Q → t σ H Q) : PT X e t' := ⟨fun pins s σ H Q I q => p.run pins s σ H Q I (h σ H Q q)⟩
theorem PW.imp {t t' : TT} (p : PW X e t) (h : ∀ σ H Q, t' σ H Q → t σ H Q) : PW X e t' := ⟨fun wh pins s σ H Q I q => p.run wh pins s σ H Q I (h σ H Q q)⟩
theorem EV.tv (a : EV X W e f) (he : ∀ whole, isTrue e X.env whole = (do let v ← whole; standAt e.pos; holding [v] (truthy v)) := by intro _; rfl) : TV X W e f := ⟨pt_val a.pe he⟩
theorem TW.tv (a : TW X W e f) : TV X W e f := ⟨a.pw.pt⟩
theorem tv_cmp {op : CmpOp} {r : R2} {o : D → D → Option R} (ho : OpR X (compareOp op) r) (hd : OpD X.K r o) (a : EV X W e1 f) (b : EV X W e2 g) (hm : behindInMarks op e2 = false) : TV X W (.Compare e1 [op] [e2] pos) (bin o f g) :=
  ⟨PT.imp (pt_cmpR ho a.pe b.pe hm) fun σ H Q q => tOp_of hd q⟩
theorem tv_lt (a : EV X W e1 f) (b : EV X W e2 g) : TV X W (.Compare e1 [.Lt] [e2] pos) (bin ltD f g) := tv_cmp op_lt cmpD_ok a b (nomark _)
theorem tv_le (a : EV X W e1 f) (b : EV X W e2 g) : TV X W (.Compare e1 [.LtE] [e2] pos) (bin leD f g) := tv_cmp op_le cmpD_ok a b (nomark _)
theorem tv_gt (a : EV X W e1 f) (b : EV X W e2 g) : TV X W (.Compare e1 [.Gt] [e2] pos) (bin gtD f g) := tv_cmp op_gt cmpD_ok a b (nomark _)
theorem tv_ge (a : EV X W e1 f) (b : EV X W e2 g) : TV X W (.Compare e1 [.GtE] [e2] pos) (bin geD f g) := tv_cmp op_ge cmpD_ok a b (nomark _)
theorem tv_eq {k : Nat} (hr : Room k X.A) (a : EV X W e1 f) (b : EV X W e2 g) : TV X W (.Compare e1 [.Eq] [e2] pos) (bin (eqD false) f g) := tv_cmp (eq_or hr.units) eqD_ok a b (nomark _)
theorem tv_ne {k : Nat} (hr : Room k X.A) (a : EV X W e1 f) (b : EV X W e2 g) : TV X W (.Compare e1 [.NotEq] [e2] pos) (bin (eqD true) f g) := tv_cmp (ne_or hr.units) neD_ok a b (nomark _)
theorem tv_in (a : EV X W e1 f) (b : EV X W e2 g) (hm : behindInMarks .In e2 = false := by rfl) : TV X W (.Compare e1 [.In] [e2] pos) (bin (inD false) f g) := tv_cmp in_or inD_ok a b hm
theorem tv_notin (a : EV X W e1 f) (b : EV X W e2 g) (hm : behindInMarks .NotIn e2 = false := by rfl) : TV X W (.Compare e1 [.NotIn] [e2] pos) (bin (inD true) f g) := tv_cmp notin_or inD_ok a b hm

/-! ### and, or, not, if else -/
def andD (f g : DS → Out) : DS → Out := bnd f fun r S => match r with
  | .v (.bl true) => g S
  | .v (.bl false) => .ok (.v (.bl false)) S
  | _ => .stuck
def orD (f g : DS → Out) : DS → Out := bnd f fun r S => match r with
  | .v (.bl true) => .ok (.v (.bl true)) S
  | .v (.bl false) => g S
  | _ => .stuck
def notD (f : DS → Out) : DS → Out := bnd f fun r S => match r with
  | .v (.bl b) => .ok (.v (.bl (!b))) S
  | _ => .stuck
def iteD (f g h : DS → Out) : DS → Out := bnd f fun r S => match r with
  | .v (.bl true) => g S
  | .v (.bl false) => h S
  | _ => .stuck
/-- a bool's value -/
theorem blOf {K : Fr} {B : Bs} {G : Hp} {F : Addr → Prop} {S : DS} {σ : St} {H : Hp} {x : V} {b : Bool} (h : RV K B G F S σ H x (.v (.bl b))) : x = .bl b := At.blI h
theorem ev_one {op : BoolOp} (a : EV X W e f) : EV X W (.BoolOp op [e] pos) f := ⟨pe_one a.pe⟩
theorem ev_and {rest : List Expr} (a : EV X W e1 f) (b : EV X W (.BoolOp .And (e2 :: rest) pos) g) : EV X W (.BoolOp .And (e1 :: e2 :: rest) pos) (andD f g) := by
  refine ⟨PE.imp (pe_and a.pe b.pe) fun σ H Q ⟨B, F, S, rel, p⟩ => ?_⟩
  obtain ⟨B1, F1, S1, rel1, p1⟩ := tE_bnd rel p
  refine ⟨B1, F1, S1, rel1, Po.imp ?_ p1⟩
  rintro x H1 ⟨F2, S2, r, x2, rel2, rv2, p2⟩
  match r, rv2, p2 with
  | .v (.bl true), rv2, p2 => exact ⟨true, blOf rv2, iteT (⟨B, F2, S2, rel2, p2⟩)⟩
  | .v (.bl false), rv2, p2 => exact ⟨false, blOf rv2, iteF (PoOk.val p2 rel2 (.bl false))⟩
theorem ev_or {rest : List Expr} (a : EV X W e1 f) (b : EV X W (.BoolOp .Or (e2 :: rest) pos) g) : EV X W (.BoolOp .Or (e1 :: e2 :: rest) pos) (orD f g) := by
  refine ⟨PE.imp (pe_or a.pe b.pe) fun σ H Q ⟨B, F, S, rel, p⟩ => ?_⟩
  obtain ⟨B1, F1, S1, rel1, p1⟩ := tE_bnd rel p
  refine ⟨B1, F1, S1, rel1, Po.imp ?_ p1⟩
  rintro x H1 ⟨F2, S2, r, x2, rel2, rv2, p2⟩
  match r, rv2, p2 with
  | .v (.bl true), rv2, p2 => exact ⟨true, blOf rv2, iteT (PoOk.val p2 rel2 (.bl true))⟩
  | .v (.bl false), rv2, p2 => exact ⟨false, blOf rv2, iteF (⟨B, F2, S2, rel2, p2⟩)⟩
theorem ev_not (a : EV X W e f) : EV X W (.UnaryOp .Not e pos) (notD f) := by
  refine ⟨PE.imp (pe_not a.pe) fun σ H Q ⟨B, F, S, rel, p⟩ => ?_⟩
  obtain ⟨B1, F1, S1, rel1, p1⟩ := tE_bnd rel p
  refine ⟨B1, F1, S1, rel1, Po.imp ?_ p1⟩
  rintro x H1 ⟨F2, S2, r, x2, rel2, rv2, p2⟩
  match r, rv2, p2 with
  | .v (.bl b), rv2, p2 => exact ⟨b, blOf rv2, PoOk.val p2 rel2 (.bl _)⟩
theorem tw_one {op : BoolOp} (a : TV X W e f) : TW X W (.BoolOp op [e] pos) f := by
  cases op with
  | And => exact ⟨pw_and1 a.pt⟩
  | Or => exact ⟨pw_or1 a.pt⟩
theorem tw_and {rest : List Expr} (a : TV X W e1 f) (b : TW X W (.BoolOp .And (e2 :: rest) pos) g) : TW X W (.BoolOp .And (e1 :: e2 :: rest) pos) (andD f g) := by
  refine ⟨PW.imp (pw_and a.pt b.pw) fun σ H Q ⟨B, F, S, rel, p⟩ => ?_⟩
  obtain ⟨B1, F1, S1, rel1, p1⟩ := tE_bnd rel p
  refine ⟨B1, F1, S1, rel1, Po.imp ?_ p1⟩
  rintro x H1 ⟨F2, S2, r, x2, rel2, rv2, p2⟩
  match r, rv2, p2 with
  | .v (.bl true), rv2, p2 => exact ⟨true, blOf rv2, iteT (⟨B, F2, S2, rel2, p2⟩)⟩
  | .v (.bl false), rv2, p2 =>
    refine ⟨false, blOf rv2, iteF ?_⟩
    obtain ⟨k, z, q⟩ := PoOk.val p2 rel2 (.bl false)
    cases z
    exact q
theorem tw_or {rest : List Expr} (a : TV X W e1 f) (b : TW X W (.BoolOp .Or (e2 :: rest) pos) g) : TW X W (.BoolOp .Or (e1 :: e2 :: rest) pos) (orD f g) := by
  refine ⟨PW.imp (pw_or a.pt b.pw) fun σ H Q ⟨B, F, S, rel, p⟩ => ?_⟩
  obtain ⟨B1, F1, S1, rel1, p1⟩ := tE_bnd rel p
  refine ⟨B1, F1, S1, rel1, Po.imp ?_ p1⟩
  rintro x H1 ⟨F2, S2, r, x2, rel2, rv2, p2⟩
  match r, rv2, p2 with
  | .v (.bl true), rv2, p2 =>
    refine ⟨true, blOf rv2, iteT ?_⟩
    obtain ⟨k, z, q⟩ := PoOk.val p2 rel2 (.bl true)
    cases z
    exact q
  | .v (.bl false), rv2, p2 => exact ⟨false, blOf rv2, iteF (⟨B, F2, S2, rel2, p2⟩)⟩
theorem tv_not (a : TV X W e f) : TV X W (.UnaryOp .Not e pos) (notD f) := by
  refine ⟨PT.imp (pt_not a.pt) fun σ H Q ⟨B, F, S, rel, p⟩ => ?_⟩
  obtain ⟨B1, F1, S1, rel1, p1⟩ := tE_bnd rel p
  refine ⟨B1, F1, S1, rel1, Po.imp ?_ p1⟩
  rintro x H1 ⟨F2, S2, r, x2, rel2, rv2, p2⟩
  match r, rv2, p2 with
  | .v (.bl b), rv2, p2 =>
    refine ⟨b, blOf rv2, ?_⟩
    obtain ⟨k, z, q⟩ := PoOk.val p2 rel2 (.bl _)
    cases z
    exact q
theorem ev_ife {c : Expr} (t : TV X W c f) (a : EV X W e1 g) (b : EV X W e2 h) : EV X W (.IfExp c e1 e2 pos) (iteD f g h) := by
  refine ⟨PE.imp (pe_ifExp t.pt a.pe b.pe) fun σ H Q ⟨B, F, S, rel, p⟩ => ?_⟩
  obtain ⟨B1, F1, S1, rel1, p1⟩ := tE_bnd rel p
  refine ⟨B1, F1, S1, rel1, Po.imp ?_ p1⟩
  rintro x H1 ⟨F2, S2, r, x2, rel2, rv2, p2⟩
  match r, rv2, p2 with
  | .v (.bl true), rv2, p2 => exact ⟨true, blOf rv2, iteT (⟨B, F2, S2, rel2, p2⟩)⟩
  | .v (.bl false), rv2, p2 => exact ⟨false, blOf rv2, iteF (⟨B, F2, S2, rel2, p2⟩)⟩
end

/-! ### arguments -/
inductive AOut where
  | ok (rs : List R) (S : DS)
  | exc (C : Addr) (fs : List (Str × D)) (S : DS)
  | stuck
inductive RVsL (K : Fr) (F : Addr → Prop) (σ : St) (H : Hp) : List V → List R → Prop
  | nil : RVsL K F σ H [] []
  | cons {x : V} {r : R} {xs : List V} {rs : List R} (h : RVs K F σ H x r) (t : RVsL K F σ H xs rs) : RVsL K F σ H (x :: xs) (r :: rs)
def PoA (K : Fr) (W : WX) (B : Bs) (S : DS) (F : Addr → Prop) (H : Hp) (σ : St) (Q : List V → Hp → Prop) : AOut → Prop
  | .ok rs S' => ∀ xs H' F', Xt σ S F H S' F' H' → Rel K B F' S' σ H' → RVsL K F' σ H' xs rs → Q xs H'
  | .exc C fs S' => PoEx K W B S F H σ C fs S'
  | .stuck => False
def tA (K : Fr) (W : WX) (f : DS → AOut) : TA := fun σ H Q => ∃ B F S, Rel K B F S σ H ∧ PoA K W B S F H σ Q (f S)
structure AV (X : Cx) (W : WX) (es : List Expr) (f : DS → AOut) : Prop where
  pa : PA X es (tA X.K W f)
def aNil : DS → AOut := fun S => .ok [] S
def aCons (f : DS → Out) (g : DS → AOut) : DS → AOut := fun S => match f S with
  | .ok r S1 => match g S1 with
    | .ok rs S2 => .ok (r :: rs) S2
    | o => o
  | .exc C fs S' => .exc C fs S'
  | .stuck => .stuck
section
variable {K : Fr} {W : WX} {B : Bs} {F F' : Addr → Prop} {H H' : Hp} {σ : St} {S S1 : DS} {X : Cx} {e : Expr} {es : List Expr} {f : DS → Out} {g : DS → AOut}
theorem PoA.ext {Q : List V → Hp → Prop} {o : AOut} (e : Xt σ S F H S1 F' H') (h : PoA K W B S F H σ Q o) : PoA K W B S1 F' H' σ Q o := by
  cases o with
  | ok rs S' => exact fun xs H2 F2 e2 => h xs H2 F2 (e.trans e2)
  | exc C fs S' => exact PoEx.ext e h
  | stuck => exact h
theorem PoA.imp {Q Q' : List V → Hp → Prop} {o : AOut} (q : ∀ x H, Q x H → Q' x H) (h : PoA K W B S F H σ Q o) : PoA K W B S F H σ Q' o := by
  cases o with
  | ok r S' => exact fun x H2 F2 e2 r2 v2 => q _ _ (h x H2 F2 e2 r2 v2)
  | exc C fs S' => exact h
  | stuck => exact h
theorem PA.imp {t t' : TA} (p : PA X es t) (h : ∀ σ H Q, t' σ H Q → t σ H Q) : PA X es t' := ⟨fun pos pins s σ H Q I q => p.run pos pins s σ H Q I (h σ H Q q)⟩
theorem RVsL.ext (x : Ext F H F' H') : ∀ {xs : List V} {rs : List R}, RVsL K F σ H xs rs → RVsL K F' σ H' xs rs
  | _, _, .nil => .nil
  | _, _, .cons h t => .cons (h.ext x) (RVsL.ext x t)
theorem av_nil : AV X W [] aNil := ⟨PA.imp pa_nil fun σ H Q ⟨B, F, S, rel, p⟩ => p _ _ _ (Xt.refl σ S F H) rel .nil⟩
theorem av_cons (a : EV X W e f) (b : AV X W es g) (hs : starEach (e :: es) X.env = (false, eval e X.env) :: starEach es X.env := by rfl) : AV X W (e :: es) (aCons f g) := by
  refine ⟨PA.imp (pa_cons a.pe b.pa hs) fun σ H Q ⟨B, F, S, rel, p⟩ => ⟨B, F, S, rel, ?_⟩⟩
  unfold aCons at p
  cases e1 : f S with
  | stuck => rw [e1] at p; exact p
  | exc C fs S' => rw [e1] at p; exact p
  | ok r S1 =>
    rw [e1] at p
    dsimp only at p
    intro x H1 F1 x1 rel1 rv1
    refine ⟨B, F1, S1, rel1, ?_⟩
    cases e2 : g S1 with
    | stuck => rw [e2] at p; exact p
    | exc C fs S' => rw [e2] at p; exact PoEx.ext x1 p
    | ok rs S2 =>
      rw [e2] at p
      exact fun xs H2 F2 x2 rel2 rv2 => p _ _ _ (x1.trans x2) rel2 (.cons (rv1.s.ext x2.toExt) rv2)
/-- the trees of frozen values -/
def vals : List R → Option (List D)
  | [] => some []
  | .v d :: rs => match vals rs with
    | some ds => some (d :: ds)
    | none => none
  | _ => none
def gets (S : DS) : List R → Option (List D)
  | [] => some []
  | r :: rs => match r.get S, gets S rs with
    | some d, some ds => some (d :: ds)
    | _, _ => none
inductive Rdss (K : Fr) (F : Addr → Prop) (H : Hp) : List V → List D → Prop
  | nil : Rdss K F H [] []
  | cons {x : V} {d : D} {xs : List V} {ds : List D} (h : Rds K F H x d) (t : Rdss K F H xs ds) : Rdss K F H (x :: xs) (d :: ds)
theorem RVsL.vals : ∀ {xs : List V} {rs : List R} {ds : List D}, RVsL K F σ H xs rs → DL.vals rs = some ds → Ats K F H xs ds
  | _, _, _, .nil, e => by cases e; exact .nil
  | _, _, _, @RVsL.cons _ _ _ _ x r xs rs h t, e => by
    cases r with
    | v d =>
      simp only [DL.vals] at e
      cases q : DL.vals rs with
      | none => rw [q] at e; cases e
      | some es => rw [q] at e; cases e; exact .cons h (RVsL.vals t q)
    | _ => simp [DL.vals] at e
theorem RVsL.gets (rel : Rel K B F S σ H) : ∀ {xs : List V} {rs : List R} {ds : List D}, RVsL K F σ H xs rs → DL.gets S rs = some ds → Rdss K F H xs ds
  | _, _, _, .nil, e => by cases e; exact .nil
  | _, _, _, @RVsL.cons _ _ _ _ x r xs rs h t, e => by
    simp only [DL.gets] at e
    cases q : r.get S with
    | none => rw [q] at e; cases e
    | some d =>
      cases q2 : DL.gets S rs with
      | none => rw [q, q2] at e; cases e
      | some es => rw [q, q2] at e; cases e; exact .cons (h.rds rel q) (RVsL.gets rel t q2)
/-- displays -/
def lstD (g : DS → AOut) : DS → Out := fun S => match g S with
  | .ok rs S' => match vals rs with
    | some ds => if ds.length ≤ sizeLine then .ok (.ow (.lst ds)) S' else .stuck
    | none => .stuck
  | .exc C fs S' => .exc C fs S'
  | .stuck => .stuck
def tupD (g : DS → AOut) : DS → Out := fun S => match g S with
  | .ok rs S' => match vals rs with
    | some ds => if ds.length ≤ sizeLine then .ok (.v (.tup ds)) S' else .stuck
    | none => .stuck
  | .exc C fs S' => .exc C fs S'
  | .stuck => .stuck
theorem ev_lst {pos : Pos} (a : AV X W es g) : EV X W (.List es pos) (lstD g) := by
  refine ⟨PE.imp (pe_lst a.pa) fun σ H Q ⟨B, F, S, rel, p⟩ => ⟨B, F, S, rel, ?_⟩⟩
  unfold lstD at p
  cases e1 : g S with
  | stuck => rw [e1] at p; exact p
  | exc C fs S' => rw [e1] at p; exact p
  | ok rs S1 =>
    rw [e1] at p
    dsimp only at p
    intro xs H1 F1 x1 rel1 rv1
    cases e2 : vals rs with
    | none => rw [e2] at p; exact p.elim
    | some ds =>
      rw [e2] at p
      dsimp only at p
      split at p
      · rename_i hl
        have t := rv1.vals e2
        refine ⟨by rw [t.length]; exact hl, fun q hq => PoOk.list (PoOk.ext x1 p) rel1 t hq⟩
      · exact p.elim
theorem ev_tup {pos : Pos} {k : Nat} (a : AV X W es g) : EV X W (.Tuple es k pos) (tupD g) := by
  refine ⟨PE.imp (pe_tup a.pa) fun σ H Q ⟨B, F, S, rel, p⟩ => ⟨B, F, S, rel, ?_⟩⟩
  unfold tupD at p
  cases e1 : g S with
  | stuck => rw [e1] at p; exact p
  | exc C fs S' => rw [e1] at p; exact p
  | ok rs S1 =>
    rw [e1] at p
    dsimp only at p
    intro xs H1 F1 x1 rel1 rv1
    cases e2 : vals rs with
    | none => rw [e2] at p; exact p.elim
    | some ds =>
      rw [e2] at p
      dsimp only at p
      split at p
      · rename_i hl
        have t := rv1.vals e2
        refine ⟨by rw [t.length]; exact hl, fun q hq => PoOk.tuple (PoOk.ext x1 p) rel1 t hq⟩
      · exact p.elim

/-! ### calls of built-ins -/
def liftL (o : List D → Option R) (g : DS → AOut) : DS → Out := fun S => match g S with
  | .ok rs S' => match gets S' rs with
    | some ds => match o ds with
      | some r => .ok r S'
      | none => .stuck
    | none => .stuck
  | .exc C fs S' => .exc C fs S'
  | .stuck => .stuck
def CaD (K : Fr) (r : List V → Hp → VK → Prop) (o : List D → Option R) : Prop := ∀ (B : Bs) (F : Addr → Prop) (S : DS) (σ : St) (H : Hp) (xs : List V) (ds : List D) (rr : R) (Q : VK),
  Rel K B F S σ H → Rdss K F H xs ds → o ds = some rr → PoOk K B S F H σ Q rr S → r xs H Q
theorem tCB_of {r : List V → Hp → VK → Prop} {o : List D → Option R} (h : CaD K r o) {H : Hp} {Q : VK} (q : tE K W (liftL o g) σ H Q) : tCB r (tA K W g) σ H Q := by
  obtain ⟨B, F, S, rel, p⟩ := q
  refine ⟨B, F, S, rel, ?_⟩
  unfold liftL at p
  cases e1 : g S with
  | stuck => rw [e1] at p; exact p
  | exc C fs S' => rw [e1] at p; exact p
  | ok rs S1 =>
    rw [e1] at p
    dsimp only at p
    intro xs H1 F1 x1 rel1 rv1
    cases e2 : gets S1 rs with
    | none => rw [e2] at p; exact p.elim
    | some ds =>
      rw [e2] at p
      dsimp only at p
      cases e3 : o ds with
      | none => rw [e3] at p; exact p.elim
      | some rr =>
        rw [e3] at p
        exact h _ _ _ _ _ xs ds rr Q rel1 (rv1.gets rel1 e2) e3 (PoOk.ext x1 p)
theorem ev_cb {x : Str} {id : String} {p pos : Pos} {r : List V → Hp → VK → Prop} {o : List D → Option R} (hc : CallR X (.builtin id) r) (hd : CaD X.K r o) (hg : Gl X x) (hm : X.mg x = none) (hv : bootBuiltins x = some (.builtin id)) (ha : AV X W (e :: es) g)
    (hn : x ≠ "__name__" := by decide) (hdb : (x == ("__debug__" : Str)) = false := by decide) (he : starEach (e :: es) X.env = (false, eval e X.env) :: starEach es X.env := by rfl) (hpl : (backTo pos (starEach es X.env)).any (·.1) = false := by rfl) :
    EV X W (.Call (.Name x p) (e :: es) [] pos) (liftL o g) := ⟨PE.imp (pe_callB hc hg hm hv ha.pa hn hdb he hpl) fun σ H Q q => tCB_of hd q⟩
theorem ev_ct {x : Str} {T : String} {p pos : Pos} {r : List V → Hp → VK → Prop} {o : List D → Option R} (hc : CallR X (.type T) r) (hd : CaD X.K r o) (hg : Gl X x) (hm : X.mg x = none) (hv : bootBuiltins x = some (.type T)) (ha : AV X W (e :: es) g)
    (hn : x ≠ "__name__" := by decide) (hdb : (x == ("__debug__" : Str)) = false := by decide) (he : starEach (e :: es) X.env = (false, eval e X.env) :: starEach es X.env := by rfl) (hpl : (backTo pos (starEach es X.env)).any (·.1) = false := by rfl) :
    EV X W (.Call (.Name x p) (e :: es) [] pos) (liftL o g) := ⟨PE.imp (pe_callTy hc hg hm hv ha.pa hn hdb he hpl) fun σ H Q q => tCB_of hd q⟩
end
end DL
namespace DL
open PySem PySem.Spec PyProof.Rows L2
variable [Nm]

section
variable {K : Fr} {F : Addr → Prop} {H : Hp}
theorem Rdss.one {xs : List V} {d : D} (h : Rdss K F H xs [d]) : ∃ x, xs = [x] ∧ Rds K F H x d := by
  cases h with
  | cons h t => cases t; exact ⟨_, rfl, h⟩
theorem Rdss.two {xs : List V} {d e : D} (h : Rdss K F H xs [d, e]) : ∃ x y, xs = [x, y] ∧ Rds K F H x d ∧ Rds K F H y e := by
  cases h with
  | cons h t =>
    cases t with
    | cons h2 t => cases t; exact ⟨_, _, rfl, h, h2⟩
/-- lists of ints, of bools, of texts -/
def iLs : List D → Option (List Int)
  | [] => some []
  | .int i :: ds => match iLs ds with
    | some is => some (i :: is)
    | none => none
  | _ => none
def bLs : List D → Option (List Bool)
  | [] => some []
  | .bl i :: ds => match bLs ds with
    | some is => some (i :: is)
    | none => none
  | _ => none
def sLs : List D → Option (List Str)
  | [] => some []
  | .str i :: ds => match sLs ds with
    | some is => some (i :: is)
    | none => none
  | _ => none
theorem Ats.toI : ∀ {vs : List V} {ds : List D} {is : List Int}, Ats K F H vs ds → DL.iLs ds = some is → vs = is.map V.int
  | _, _, _, .nil, e => by cases e; rfl
  | _, _, _, @Ats.cons _ _ _ v d vs ds h t, e => by
    cases d with
    | int i =>
      simp only [DL.iLs] at e
      cases q : DL.iLs ds with
      | none => rw [q] at e; cases e
      | some es => rw [q] at e; cases e; rw [h.intI, Ats.toI t q]; rfl
    | _ => simp [DL.iLs] at e
theorem Ats.toB : ∀ {vs : List V} {ds : List D} {is : List Bool}, Ats K F H vs ds → DL.bLs ds = some is → vs = is.map V.bl
  | _, _, _, .nil, e => by cases e; rfl
  | _, _, _, @Ats.cons _ _ _ v d vs ds h t, e => by
    cases d with
    | bl i =>
      simp only [DL.bLs] at e
      cases q : DL.bLs ds with
      | none => rw [q] at e; cases e
      | some es => rw [q] at e; cases e; rw [h.blI, Ats.toB t q]; rfl
    | _ => simp [DL.bLs] at e
theorem Ats.toS : ∀ {vs : List V} {ds : List D} {is : List Str}, Ats K F H vs ds → DL.sLs ds = some is → vs = is.map V.str
  | _, _, _, .nil, e => by cases e; rfl
  | _, _, _, @Ats.cons _ _ _ v d vs ds h t, e => by
    cases d with
    | str i =>
      simp only [DL.sLs] at e
      cases q : DL.sLs ds with
      | none => rw [q] at e; cases e
      | some es => rw [q] at e; cases e; rw [h.strI, Ats.toS t q]; rfl
    | _ => simp [DL.sLs] at e
theorem Ats.ofStrs : ∀ ss : List Str, Ats K F H (ss.map V.str) (ss.map D.str)
  | [] => .nil
  | s :: ss => .cons (.str s) (Ats.ofStrs ss)
theorem Ats.ofInts : ∀ ss : List Int, Ats K F H (ss.map V.int) (ss.map D.int)
  | [] => .nil
  | s :: ss => .cons (.int s) (Ats.ofInts ss)
end

/-! ### built-ins -/
section
variable {X : Cx} {W : WX} {e e1 e2 : Expr} {es : List Expr} {f f1 f2 : DS → Out} {g : DS → AOut} {p pos : Pos}
def lenD : List D → Option R
  | [.lst ds] => some (.v (.int ds.length))
  | [.tup ds] => some (.v (.int ds.length))
  | [.scr ns] => some (.v (.int ns.length))
  | [.str x] => if x.length ≤ sizeLine then some (.v (.int x.length)) else none
  | _ => none
theorem lenD_ok : CaD X.K (fun xs H Q => ∃ x n, xs = [x] ∧ LenV X.K x H n ∧ Q (.int n) H) lenD := by
  intro B F S σ H xs ds rr Q rel hx e p
  unfold lenD at e
  split at e
  · cases e
    obtain ⟨x, rfl, h⟩ := hx.one
    obtain ⟨a, vs, rfl, h1, t⟩ := h.lst
    exact ⟨_, _, rfl, .inl ⟨vs, .inl (.inl h1), rfl⟩, by rw [t.length]; exact p.val rel (.int _)⟩
  · cases e
    obtain ⟨x, rfl, h⟩ := hx.one
    obtain ⟨a, vs, rfl, h1, t⟩ := h.tup
    exact ⟨_, _, rfl, .inr ⟨vs, h1, rfl⟩, by rw [t.length]; exact p.val rel (.int _)⟩
  · cases e
    obtain ⟨x, rfl, h⟩ := hx.one
    obtain ⟨a, rfl, h1⟩ := h.scr
    exact ⟨_, _, rfl, .inl ⟨_, h1, rfl⟩, by rw [List.length_map]; exact p.val rel (.int _)⟩
  · split at e
    · rename_i hl
      cases e
      obtain ⟨x, rfl, h⟩ := hx.one
      rw [h.str]
      exact ⟨_, _, rfl, ⟨hl, rfl⟩, p.val rel (.int _)⟩
    · cases e
  · cases e
theorem ev_len (hg : Gl X "len") (hm : X.mg "len" = none) (a : AV X W [e] g) (he : starEach [e] X.env = (false, eval e X.env) :: starEach [] X.env := by rfl) : EV X W (.Call (.Name "len" p) [e] [] pos) (liftL lenD g) :=
  ev_cb call_len lenD_ok hg hm (by decide +kernel) a (by decide) (by decide) he (by rfl)
def intC : List D → Option R
  | [.int i] => some (.v (.int i))
  | [.bl k] => some (.v (.int (if k then 1 else 0)))
  | _ => none
theorem intC_ok : CaD X.K (fun xs H Q => (∃ i, xs = [.int i] ∧ Q (.int i) H) ∨ ∃ k, xs = [.bl k] ∧ Q (.int (if k then 1 else 0)) H) intC := by
  intro B F S σ H xs ds rr Q rel hx e p
  unfold intC at e
  split at e
  · cases e
    obtain ⟨x, rfl, h⟩ := hx.one
    exact .inl ⟨_, by rw [h.int], p.val rel (.int _)⟩
  · cases e
    obtain ⟨x, rfl, h⟩ := hx.one
    exact .inr ⟨_, by rw [h.bl], p.val rel (.int _)⟩
  · cases e
theorem ev_intC (hg : Gl X "int") (hm : X.mg "int" = none) (a : AV X W [e] g) (he : starEach [e] X.env = (false, eval e X.env) :: starEach [] X.env := by rfl) : EV X W (.Call (.Name "int" p) [e] [] pos) (liftL intC g) :=
  ev_ct call_int1 intC_ok hg hm (by decide +kernel) a (by decide) (by decide) he (by rfl)
def absC : List D → Option R
  | [.int i] => some (.v (.int (if i < 0 then -i else i)))
  | _ => none
theorem absC_ok : CaD X.K (fun xs H Q => ∃ i, xs = [.int i] ∧ Q (.int (if i < 0 then -i else i)) H) absC := by
  intro B F S σ H xs ds rr Q rel hx e p
  unfold absC at e
  split at e
  · cases e
    obtain ⟨x, rfl, h⟩ := hx.one
    exact ⟨_, by rw [h.int], p.val rel (.int _)⟩
  · cases e
theorem ev_abs (hg : Gl X "abs") (hm : X.mg "abs" = none) (a : AV X W [e] g) (he : starEach [e] X.env = (false, eval e X.env) :: starEach [] X.env := by rfl) : EV X W (.Call (.Name "abs" p) [e] [] pos) (liftL absC g) :=
  ev_cb call_abs absC_ok hg hm (by decide +kernel) a (by decide) (by decide) he (by rfl)
def max2 : List D → Option R
  | [.int i, .int j] => some (.v (.int (if j > i then j else i)))
  | _ => none
theorem max2_ok : CaD X.K (fun xs H Q => ∃ i j, xs = [.int i, .int j] ∧ Q (.int (if j > i then j else i)) H) max2 := by
  intro B F S σ H xs ds rr Q rel hx e p
  unfold max2 at e
  split at e
  · cases e
    obtain ⟨x, y, rfl, h, h2⟩ := hx.two
    exact ⟨_, _, by rw [h.int, h2.int], p.val rel (.int _)⟩
  · cases e
theorem ev_max2 (hc : X.calm = true) (hg : Gl X "max") (hm : X.mg "max" = none) (a : AV X W [e1, e2] g) (he : starEach [e1, e2] X.env = (false, eval e1 X.env) :: starEach [e2] X.env := by rfl) (hpl : (backTo pos (starEach [e2] X.env)).any (·.1) = false := by rfl) :
    EV X W (.Call (.Name "max" p) [e1, e2] [] pos) (liftL max2 g) := ev_cb (call_max2 hc) max2_ok hg hm (by decide +kernel) a (by decide) (by decide) he hpl
def min2 : List D → Option R
  | [.int i, .int j] => some (.v (.int (if j < i then j else i)))
  | _ => none
theorem min2_ok : CaD X.K (fun xs H Q => ∃ i j, xs = [.int i, .int j] ∧ Q (.int (if j < i then j else i)) H) min2 := by
  intro B F S σ H xs ds rr Q rel hx e p
  unfold min2 at e
  split at e
  · cases e
    obtain ⟨x, y, rfl, h, h2⟩ := hx.two
    exact ⟨_, _, by rw [h.int, h2.int], p.val rel (.int _)⟩
  · cases e
theorem ev_min2 (hc : X.calm = true) (hg : Gl X "min") (hm : X.mg "min" = none) (a : AV X W [e1, e2] g) (he : starEach [e1, e2] X.env = (false, eval e1 X.env) :: starEach [e2] X.env := by rfl) (hpl : (backTo pos (starEach [e2] X.env)).any (·.1) = false := by rfl) :
    EV X W (.Call (.Name "min" p) [e1, e2] [] pos) (liftL min2 g) := ev_cb (call_min2 hc) min2_ok hg hm (by decide +kernel) a (by decide) (by decide) he hpl
/-- list(xs), tuple(xs) -/
def listC : List D → Option R
  | [.lst ds] => some (.ow (.lst ds))
  | [.tup ds] => some (.ow (.lst ds))
  | _ => none
theorem listC_ok : CaD X.K (fun xs H Q => ∃ p ys, xs = [.ref p] ∧ (SqL X.K H p ys ∨ SqT X.K H p ys) ∧ ∀ l, H l = none → Q (.ref l) (upd H l (.lst ys))) listC := by
  intro B F S σ H xs ds rr Q rel hx e p
  unfold listC at e
  split at e
  · cases e
    obtain ⟨x, rfl, h⟩ := hx.one
    obtain ⟨a, vs, rfl, h1, t⟩ := h.lst
    exact ⟨_, vs, rfl, .inl (.inl (.inl h1)), fun l hl => p.list rel t hl⟩
  · cases e
    obtain ⟨x, rfl, h⟩ := hx.one
    obtain ⟨a, vs, rfl, h1, t⟩ := h.tup
    exact ⟨_, vs, rfl, .inr h1, fun l hl => p.list rel t hl⟩
  · cases e
theorem ev_listC (hg : Gl X "list") (hm : X.mg "list" = none) (a : AV X W [e] g) (he : starEach [e] X.env = (false, eval e X.env) :: starEach [] X.env := by rfl) : EV X W (.Call (.Name "list" p) [e] [] pos) (liftL listC g) :=
  ev_ct call_list_of listC_ok hg hm (by decide +kernel) a (by decide) (by decide) he (by rfl)
def tupC : List D → Option R
  | [.lst ds] => some (.v (.tup ds))
  | _ => none
theorem tupC_ok : CaD X.K (fun xs H Q => ∃ p ys, xs = [.ref p] ∧ ((SqL X.K H p ys ∧ ∀ l, H l = none → Q (.ref l) (upd H l (.tup ys))) ∨ (SqT X.K H p ys ∧ Q (.ref p) H))) tupC := by
  intro B F S σ H xs ds rr Q rel hx e p
  unfold tupC at e
  split at e
  · cases e
    obtain ⟨x, rfl, h⟩ := hx.one
    obtain ⟨a, vs, rfl, h1, t⟩ := h.lst
    exact ⟨_, vs, rfl, .inl ⟨.inl (.inl h1), fun l hl => p.tuple rel t hl⟩⟩
  · cases e
theorem ev_tupC (hg : Gl X "tuple") (hm : X.mg "tuple" = none) (a : AV X W [e] g) (he : starEach [e] X.env = (false, eval e X.env) :: starEach [] X.env := by rfl) : EV X W (.Call (.Name "tuple" p) [e] [] pos) (liftL tupC g) :=
  ev_ct call_tuple_of tupC_ok hg hm (by decide +kernel) a (by decide) (by decide) he (by rfl)
def strC : List D → Option R
  | [.int i] => if i.natAbs.log2 < 1920 then some (.v (.str (toString i))) else none
  | _ => none
theorem strC_ok : CaD X.K (fun xs H Q => ∃ i, xs = [.int i] ∧ i.natAbs.log2 < 1920 ∧ Q (.str (toString i)) H) strC := by
  intro B F S σ H xs ds rr Q rel hx e p
  unfold strC at e
  split at e
  · split at e
    · rename_i hl
      cases e
      obtain ⟨x, rfl, h⟩ := hx.one
      exact ⟨_, by rw [h.int], hl, p.val rel (.str _)⟩
    · cases e
  · cases e
theorem ev_strC (hg : Gl X "str") (hm : X.mg "str" = none) (a : AV X W [e] g) (he : starEach [e] X.env = (false, eval e X.env) :: starEach [] X.env := by rfl) : EV X W (.Call (.Name "str" p) [e] [] pos) (liftL strC g) :=
  ev_ct call_str_int strC_ok hg hm (by decide +kernel) a (by decide) (by decide) he (by rfl)
def allC : List D → Option R
  | [.lst ds] => match bLs ds with
    | some bs => some (.v (.bl (bs.all id)))
    | none => none
  | _ => none
theorem allC_ok : CaD X.K (L2.rAll X.K) allC := by
  intro B F S σ H xs ds rr Q rel hx e p
  unfold allC at e
  split at e
  · split at e
    · rename_i bs hb
      cases e
      obtain ⟨x, rfl, h⟩ := hx.one
      obtain ⟨a, vs, rfl, h1, t⟩ := h.lst
      exact ⟨_, bs, rfl, by rw [← t.toB hb]; exact .inl (.inl h1), p.val rel (.bl _)⟩
    · cases e
  · cases e
theorem ev_all (hc : X.calm = true) (hg : Gl X "all") (hm : X.mg "all" = none) (a : AV X W [e] g) (he : starEach [e] X.env = (false, eval e X.env) :: starEach [] X.env := by rfl) : EV X W (.Call (.Name "all" p) [e] [] pos) (liftL allC g) :=
  ev_cb (cr_all hc) allC_ok hg hm (by decide +kernel) a (by decide) (by decide) he (by rfl)
def anyC : List D → Option R
  | [.lst ds] => match bLs ds with
    | some bs => some (.v (.bl (bs.any id)))
    | none => none
  | _ => none
theorem anyC_ok : CaD X.K (L2.rAny X.K) anyC := by
  intro B F S σ H xs ds rr Q rel hx e p
  unfold anyC at e
  split at e
  · split at e
    · rename_i bs hb
      cases e
      obtain ⟨x, rfl, h⟩ := hx.one
      obtain ⟨a, vs, rfl, h1, t⟩ := h.lst
      exact ⟨_, bs, rfl, by rw [← t.toB hb]; exact .inl (.inl h1), p.val rel (.bl _)⟩
    · cases e
  · cases e
theorem ev_any (hc : X.calm = true) (hg : Gl X "any") (hm : X.mg "any" = none) (a : AV X W [e] g) (he : starEach [e] X.env = (false, eval e X.env) :: starEach [] X.env := by rfl) : EV X W (.Call (.Name "any" p) [e] [] pos) (liftL anyC g) :=
  ev_cb (cr_any hc) anyC_ok hg hm (by decide +kernel) a (by decide) (by decide) he (by rfl)
/-- divmod of an int by one from 1 to 2^30 - 1 -/
def divC : List D → Option R
  | [.int i, .int j] => if 0 < j ∧ j < 1073741824 then some (.v (.tup [.int (i / j), .int (i % j)])) else none
  | _ => none
theorem divC_ok : CaD X.K (fun xs H Q => ∃ i j, xs = [.int i, .int j] ∧ CDiv i j ∧ ∀ p, H p = none → Q (.ref p) (upd H p (.tup [.int (i / j), .int (i % j)]))) divC := by
  intro B F S σ H xs ds rr Q rel hx e p
  unfold divC at e
  split at e
  · split at e
    · rename_i hl
      cases e
      obtain ⟨x, y, rfl, h, h2⟩ := hx.two
      exact ⟨_, _, by rw [h.int, h2.int], hl, fun q hq => p.tuple rel (.cons (.int _) (.cons (.int _) .nil)) hq⟩
    · cases e
  · cases e
theorem ev_div (hg : Gl X "divmod") (hm : X.mg "divmod" = none) (a : AV X W [e1, e2] g) (he : starEach [e1, e2] X.env = (false, eval e1 X.env) :: starEach [e2] X.env := by rfl) (hpl : (backTo pos (starEach [e2] X.env)).any (·.1) = false := by rfl) :
    EV X W (.Call (.Name "divmod" p) [e1, e2] [] pos) (liftL divC g) := ev_cb call_divmod divC_ok hg hm (by decide +kernel) a (by decide) (by decide) he hpl
/-- repr of data -/
def rShow (K : Fr) : List V → Hp → VK → Prop := fun xs H Q => ∃ x d, xs = [x] ∧ Dp K H x d ∧ d.showable = true ∧ d.hasDict = false ∧ d.depth ≤ 60 ∧ d.shown.length ≤ sizeLine ∧ Q (.str d.shown) H
theorem call_show (hu : X.A.units + 64 < cLine) (hgd : X.A.guards = some []) : CallR X (.builtin "repr") (rShow X.K) := by
  intro pins s σ H xs us Q I r h
  obtain ⟨x, d, rfl, hd, sh, nd, dp, sz, q⟩ := h
  obtain ⟨u, rfl, rx⟩ := vals1 r
  obtain ⟨as, rd⟩ := Dp.reads I d x u hd rx
  cases hd with
  | non =>
    cases rx
    exact PySem.P.repr_of_none ⟨.str _, H, I.tok _, ⟨_, rfl⟩, by simpa [PyData.shown] using q⟩
  | bl b =>
    cases rx
    exact PySem.P.repr_of_bool ⟨.str _, H, I.tok _, ⟨_, rfl⟩, by simpa [PyData.shown] using q⟩
  | int i =>
    obtain ⟨t, rfl⟩ := rx
    exact PySem.P.repr_of_int (by simpa [PyData.showable] using sh) ⟨.str _, H, I.tok _, ⟨_, rfl⟩, by simpa [PyData.shown] using q⟩
  | str z =>
    obtain ⟨t, rfl⟩ := rx
    exact PySem.P.repr_of_str ⟨.str _, H, I.tok _, ⟨_, rfl⟩, by simpa [PyData.shown] using q⟩ (by simpa [PyData.shown] using sz)
  | lst hs ha =>
    cases rx
    exact repr_of_reads' rd sh (PyData.noDict_hsm nd) hgd (by omega) (fun _ _ e => e) (fun h' u tk k => ⟨.str _, H, I.kept (t' := tk) k, ⟨_, rfl⟩, q⟩) sz
  | tup hs ha =>
    cases rx
    exact repr_of_reads' rd sh (PyData.noDict_hsm nd) hgd (by omega) (fun _ _ e => e) (fun h' u tk k => ⟨.str _, H, I.kept (t' := tk) k, ⟨_, rfl⟩, q⟩) sz
def reprC : List D → Option R
  | [d] => match d.py with
    | some p => if p.showable = true ∧ p.hasDict = false ∧ p.depth ≤ 60 ∧ p.shown.length ≤ sizeLine then some (.v (.str p.shown)) else none
    | none => none
  | _ => none
theorem reprC_ok : CaD X.K (rShow X.K) reprC := by
  intro B F S σ H xs ds rr Q rel hx e p
  unfold reprC at e
  split at e
  · split at e
    · rename_i q hq
      split at e
      · rename_i hc
        cases e
        obtain ⟨x, rfl, h⟩ := hx.one
        exact ⟨_, _, rfl, h.dp hq, hc.1, hc.2.1, hc.2.2.1, hc.2.2.2, p.val rel (.str _)⟩
      · cases e
    · cases e
  · cases e
theorem ev_repr {k : Nat} (hr : Room k X.A) (hgd : X.A.guards = some []) (hg : Gl X "repr") (hm : X.mg "repr" = none) (a : AV X W [e] g) (he : starEach [e] X.env = (false, eval e X.env) :: starEach [] X.env := by rfl) : EV X W (.Call (.Name "repr" p) [e] [] pos) (liftL reprC g) :=
  ev_cb (call_show hr.units hgd) reprC_ok hg hm (by decide +kernel) a (by decide) (by decide) he (by rfl)

/-! ### subscripts, slices -/
def ixD : D → D → Option R
  | .lst ds, .int i => match atI ds i with
    | some d => some (.v d)
    | none => none
  | .tup ds, .int i => match atI ds i with
    | some d => some (.v d)
    | none => none
  | .scr ns, .int i => match atI ns i with
    | some d => some (.v (.int d))
    | none => none
  | .str z, .int i => if z.length ≤ sizeLine then (match atI z.cps.toList i with
    | some c => some (.v (.str ⟨#[c]⟩))
    | none => none) else none
  | _, _ => none
theorem atI_rel {K : Fr} {F : Addr → Prop} {H : Hp} {vs : List V} {ds : List D} {i : Int} {d : D} (t : Ats K F H vs ds) (h : atI ds i = some d) : ∃ v, atI vs i = some v ∧ At K F H v d := by
  unfold atI at h ⊢
  rw [t.length]
  cases q : ixN ds.length i with
  | none => rw [q] at h; cases h
  | some j =>
    rw [q] at h
    exact t.get' h
theorem atI_map {ns : List Int} {i n : Int} (h : atI ns i = some n) : atI (ns.map V.int) i = some (V.int n) := by
  unfold atI at h ⊢
  rw [List.length_map]
  cases q : ixN ns.length i with
  | none => rw [q] at h; cases h
  | some j =>
    rw [q] at h
    have h' : ns[j]? = some n := h
    show (ns.map V.int)[j]? = some (V.int n)
    rw [List.getElem?_map, h']
    rfl
abbrev rIxA (K : Fr) : R2 := fun x y H Q => rIxL K x y H Q ∨ (rIxT K x y H Q ∨ rIxS x y H Q)
theorem ixD_ok : OpD X.K (rIxA X.K) ixD := by
  intro B F S σ H x y a b rr Q rel hx hy e p
  unfold ixD at e
  split at e
  · split at e
    · rename_i d hd
      cases e
      obtain ⟨l, vs, e1, h1, t⟩ := hx.lst
      obtain ⟨v, hv, av⟩ := atI_rel t hd
      exact .inl ⟨l, vs, _, v, e1, hy.int, .inl (.inl h1), hv, p.val rel av⟩
    · cases e
  · split at e
    · rename_i d hd
      cases e
      obtain ⟨l, vs, e1, h1, t⟩ := hx.tup
      obtain ⟨v, hv, av⟩ := atI_rel t hd
      exact .inr (.inl ⟨l, vs, _, v, e1, hy.int, h1, hv, p.val rel av⟩)
    · cases e
  · split at e
    · rename_i d hd
      cases e
      obtain ⟨l, e1, h1⟩ := hx.scr
      exact .inl ⟨l, _, _, _, e1, hy.int, h1, atI_map hd, p.val rel (.int _)⟩
    · cases e
  · split at e
    · rename_i hl
      split at e
      · rename_i c hc
        cases e
        exact .inr (.inr ⟨_, _, c, hx.str, hy.int, hl, hc, p.val rel (.str _)⟩)
      · cases e
    · cases e
  · cases e
theorem ev_ix (a : EV X W e1 f1) (b : EV X W e2 f2) (hs : PlainIx e2 := by intro _ _; rfl) : EV X W (.Subscript e1 e2 pos) (bin ixD f1 f2) := ⟨PE.imp (pe_ix (IxR.or ix_list (IxR.or ix_tup ix_str)) a.pe b.pe hs) fun σ H Q q => tOp_of ixD_ok q⟩
/-- a[lo:hi] -/
def cutL {α : Type} (xs : List α) (lo hi : Option Int) : List α := (xs.drop (HT.sIx xs.length 0 lo)).take (HT.sIx xs.length xs.length hi - HT.sIx xs.length 0 lo)
theorem Ats.cut {K : Fr} {F : Addr → Prop} {H : Hp} {vs : List V} {ds : List D} (t : Ats K F H vs ds) (lo hi : Option Int) : Ats K F H (cutV vs lo hi) (cutL ds lo hi) := by
  unfold cutV cutL
  rw [t.length]
  exact (t.drop _).take _
theorem cutV_map (ns : List Int) (lo hi : Option Int) : cutV (ns.map V.int) lo hi = (cutL ns lo hi).map V.int := by
  unfold cutV cutL
  rw [List.length_map, List.map_take, List.map_drop]
def slD (lo hi : Option Int) : D → Option R
  | .lst ds => some (.ow (.lst (cutL ds lo hi)))
  | .scr ns => some (.ow (.lst ((cutL ns lo hi).map D.int)))
  | .tup ds => if HT.sIx ds.length 0 lo = 0 ∧ HT.sIx ds.length ds.length hi = ds.length then none else some (.v (.tup (cutL ds lo hi)))
  | .str z => if z.length ≤ sizeLine then some (.v (.str (cutS z lo hi))) else none
  | _ => none
/-- a part of a slice -/
def optV : V → Option (Option Int)
  | .non => some none
  | .int i => some (some i)
  | _ => none
def optI : R → Option (Option Int)
  | .v .non => some none
  | .v (.int i) => some (some i)
  | _ => none
theorem optI_rel {K : Fr} {B : Bs} {G : Hp} {F : Addr → Prop} {S : DS} {σ : St} {H : Hp} {x : V} {r : R} {o : Option Int} (h : RV K B G F S σ H x r) (e : optI r = some o) : optV x = some o := by
  unfold optI at e
  split at e
  · cases e
    rw [At.nonI h]
    rfl
  · cases e
    rw [At.intI h]
    rfl
  · cases e
structure OV (X : Cx) (W : WX) (e : Option Expr) (f : DS → Out) : Prop where
  po : PO X e (fun σ H Q => tE X.K W f σ H fun x H1 => ∃ o, optV x = some o ∧ Q o H1)
theorem PO.imp {e : Option Expr} {t t' : TO} (p : PO X e t) (h : ∀ σ H Q, t' σ H Q → t σ H Q) : PO X e t' := ⟨fun pins s σ H Q I q => p.run pins s σ H Q I (h σ H Q q)⟩
theorem ov_none : OV X W none (cst .non) := ⟨PO.imp po_none fun σ H Q ⟨B, F, S, rel, p⟩ => by
  obtain ⟨o, e, q⟩ := PoOk.val p rel .non
  cases e
  exact q⟩
def intO (f : DS → Out) : DS → Out := bnd f fun r S => match r with
  | .v (.int i) => .ok (.v (.int i)) S
  | _ => .stuck
theorem ov_some (a : EV X W e f) : OV X W (some e) (intO f) := ⟨PO.imp (po_some a.pe) fun σ H Q ⟨B, F, S, rel, p⟩ => by
  obtain ⟨B1, F1, S1, rel1, p1⟩ := tE_bnd rel p
  refine ⟨B1, F1, S1, rel1, Po.imp ?_ p1⟩
  rintro x H1 ⟨F2, S2, r, x2, rel2, rv2, p2⟩
  match r, rv2, p2 with
  | .v (.int i), rv2, p2 =>
    refine ⟨i, At.intI rv2, ?_⟩
    obtain ⟨o, e, q⟩ := PoOk.val p2 rel2 (.int i)
    cases e
    exact q⟩
def sliceD (f g h : DS → Out) : DS → Out := bnd f fun ra => bnd g fun rl S => match optI rl with
  | none => .stuck
  | some lo => bnd h (fun rh S => match optI rh with
    | none => .stuck
    | some hi => match ra.get S with
      | none => .stuck
      | some a => match slD lo hi a with
        | some r => .ok r S
        | none => .stuck) S
abbrev rSlA (K : Fr) : V → Option Int → Option Int → Hp → VK → Prop := fun x lo hi H Q => rSlL K x lo hi H Q ∨ (rSlT K x lo hi H Q ∨ rSlS x lo hi H Q)
theorem slD_ok {K : Fr} {B : Bs} {F : Addr → Prop} {S : DS} {σ : St} {H : Hp} {x : V} {a : D} {rr : R} {Q : VK} {lo hi : Option Int} (rel : Rel K B F S σ H) (hx : Rds K F H x a) (e : slD lo hi a = some rr) (p : PoOk K B S F H σ Q rr S) : rSlA K x lo hi H Q := by
  unfold slD at e
  split at e
  · cases e
    obtain ⟨l, vs, e1, h1, t⟩ := hx.lst
    exact .inl ⟨l, vs, e1, .inl (.inl h1), fun q hq => p.list rel (t.cut lo hi) hq⟩
  · cases e
    obtain ⟨l, e1, h1⟩ := hx.scr
    exact .inl ⟨l, _, e1, h1, fun q hq => by rw [cutV_map]; exact p.list rel (Ats.ofInts _) hq⟩
  · split at e
    · cases e
    · rename_i hn
      cases e
      obtain ⟨l, vs, e1, h1, t⟩ := hx.tup
      exact .inr (.inl ⟨l, vs, e1, h1, by rw [t.length]; exact hn, fun q hq => p.tuple rel (t.cut lo hi) hq⟩)
  · split at e
    · rename_i hl
      cases e
      exact .inr (.inr ⟨_, hx.str, hl, p.val rel (.str _)⟩)
    · cases e
  · cases e
theorem ev_slice {lo hi : Option Expr} {p2 : Pos} {fl fh : DS → Out} (a : EV X W e f) (l : OV X W lo fl) (h : OV X W hi fh) : EV X W (.Subscript e (.Slice lo hi none p2) pos) (sliceD f fl fh) := by
  refine ⟨PE.imp (pe_slice (SlR.or sl_list (SlR.or sl_tup sl_str)) a.pe l.po h.po) fun σ H Q ⟨B, F, S, rel, p⟩ => ?_⟩
  obtain ⟨B1, F1, S1, rel1, p1⟩ := tE_bnd rel p
  refine ⟨B1, F1, S1, rel1, Po.imp ?_ p1⟩
  rintro x H1 ⟨F2, S2, ra, x2, rel2, rv2, p2⟩
  obtain ⟨B3, F3, S3, rel3, p3⟩ := tE_bnd rel2 p2
  refine ⟨B3, F3, S3, rel3, Po.imp ?_ p3⟩
  rintro y H2 ⟨F4, S4, rl, x4, rel4, rv4, p4⟩
  have sa := RVs.ext x4.toExt rv2.s
  dsimp only at p4
  cases hl : optI rl with
  | none => rw [hl] at p4; exact p4.elim
  | some lo' =>
    rw [hl] at p4
    refine ⟨lo', optI_rel rv4 hl, ?_⟩
    obtain ⟨B5, F5, S5, rel5, p5⟩ := tE_bnd rel4 p4
    refine ⟨B5, F5, S5, rel5, Po.imp ?_ p5⟩
    rintro z H3 ⟨F6, S6, rh, x6, rel6, rv6, p6⟩
    have sb := RVs.ext x6.toExt sa
    dsimp only at p6
    cases hh : optI rh with
    | none => rw [hh] at p6; exact p6.elim
    | some hi' =>
      rw [hh] at p6
      refine ⟨hi', optI_rel rv6 hh, ?_⟩
      dsimp only at p6
      cases ha : ra.get S6 with
      | none => rw [ha] at p6; exact p6.elim
      | some a =>
        rw [ha] at p6
        dsimp only at p6
        cases hs : slD lo' hi' a with
        | none => rw [hs] at p6; exact p6.elim
        | some rr => rw [hs] at p6; exact slD_ok rel6 (sb.rds rel6 ha) hs p6
/-- xs[::-1] -/
def revD (f : DS → Out) : DS → Out := bnd f fun ra S => match ra.get S with
  | some (.lst ds) => .ok (.ow (.lst ds.reverse)) S
  | _ => .stuck
theorem ev_rev {k : Nat} {p1 p2 p3 : Pos} (a : EV X W e f) : EV X W (.Subscript e (.Slice none none (some (.UnaryOp .USub (.Constant (.int 1) k p1) p2)) p3) pos) (revD f) := by
  refine ⟨PE.imp (L2.pe_revL a.pe) fun σ H Q ⟨B, F, S, rel, p⟩ => ?_⟩
  obtain ⟨B1, F1, S1, rel1, p1⟩ := tE_bnd rel p
  refine ⟨B1, F1, S1, rel1, Po.imp ?_ p1⟩
  rintro x H1 ⟨F2, S2, ra, x2, rel2, rv2, p2⟩
  dsimp only at p2
  cases ha : ra.get S2 with
  | none => rw [ha] at p2; exact p2.elim
  | some a =>
    rw [ha] at p2
    have hx := rv2.s.rds rel2 ha
    cases a with
    | lst ds =>
      obtain ⟨l, vs, e1, h1, t⟩ := hx.lst
      exact ⟨l, vs, e1, .inl (.inl h1), fun q hq => PoOk.list p2 rel2 t.rev hq⟩
    | _ => exact p2.elim

/-! ### methods of built-in types that change nothing -/
def tyD (T : String) : D → Bool
  | .str _ => T == "str"
  | .lst _ => T == "list"
  | .scr _ => T == "list"
  | _ => false
theorem tyD_ok {K : Fr} {F : Addr → Prop} {H : Hp} {T : String} {x : V} {d : D} (h : Rds K F H x d) (e : tyD T d = true) : tyV K T x H := by
  unfold tyD at e
  split at e
  · rw [h.str]; exact eq_of_beq e
  · obtain ⟨a, vs, rfl, h1, _⟩ := h.lst
    exact .inl ⟨eq_of_beq e, vs, .inl (.inl h1)⟩
  · obtain ⟨a, rfl, h1⟩ := h.scr
    exact .inl ⟨eq_of_beq e, _, h1⟩
  · cases e
def bmD (T : String) (o : D → List D → Option R) (f : DS → Out) (g : DS → AOut) : DS → Out := bnd f fun ra S => match ra.get S with
  | none => .stuck
  | some d => if tyD T d then (match g S with
    | .ok rs S2 => match ra.get S2 with
      | none => .stuck
      | some a => match gets S2 rs with
        | none => .stuck
        | some ds => match o a ds with
          | some r => .ok r S2
          | none => .stuck
    | .exc C fs S' => .exc C fs S'
    | .stuck => .stuck) else .stuck
def MeD (K : Fr) (r : V → List V → Hp → VK → Prop) (o : D → List D → Option R) : Prop := ∀ (B : Bs) (F : Addr → Prop) (S : DS) (σ : St) (H : Hp) (x : V) (xs : List V) (a : D) (ds : List D) (rr : R) (Q : VK),
  Rel K B F S σ H → Rds K F H x a → Rdss K F H xs ds → o a ds = some rr → PoOk K B S F H σ Q rr S → r x xs H Q
theorem tBM_of {T : String} {r : V → List V → Hp → VK → Prop} {o : D → List D → Option R} {K : Fr} (h : MeD K r o) {σ : St} {H : Hp} {Q : VK} (q : tE K W (bmD T o f g) σ H Q) : tBM K T r (tE K W f) (tA K W g) σ H Q := by
  obtain ⟨B, F, S, rel, p⟩ := q
  obtain ⟨B1, F1, S1, rel1, p1⟩ := tE_bnd rel p
  refine ⟨B1, F1, S1, rel1, Po.imp ?_ p1⟩
  rintro x H1 ⟨F2, S2, ra, x2, rel2, rv2, p2⟩
  dsimp only at p2
  cases ha : ra.get S2 with
  | none => rw [ha] at p2; exact p2.elim
  | some d =>
    rw [ha] at p2
    dsimp only at p2
    split at p2
    · rename_i ht
      refine ⟨tyD_ok (rv2.s.rds rel2 ha) ht, B, F2, S2, rel2, ?_⟩
      cases eg : g S2 with
      | stuck => rw [eg] at p2; exact p2
      | exc C fs S' => rw [eg] at p2; exact p2
      | ok rs S3 =>
        rw [eg] at p2
        dsimp only at p2
        intro xs H3 F3 x3 rel3 rv3
        have sa := RVs.ext x3.toExt rv2.s
        cases hb : ra.get S3 with
        | none => rw [hb] at p2; exact p2.elim
        | some a =>
          rw [hb] at p2
          dsimp only at p2
          cases hc : gets S3 rs with
          | none => rw [hc] at p2; exact p2.elim
          | some ds =>
            rw [hc] at p2
            dsimp only at p2
            cases hd : o a ds with
            | none => rw [hd] at p2; exact p2.elim
            | some rr => rw [hd] at p2; exact h _ _ _ _ _ x xs a ds rr Q rel3 (sa.rds rel3 hb) (rv3.gets rel3 hc) hd (PoOk.ext x3 p2)
    · exact p2.elim
theorem ev_bm {o : Expr} {name : Str} {apos cpos : Pos} {T id : String} {r : V → List V → Hp → VK → Prop} {od : D → List D → Option R} (pa : PlainAttrs T) (slot : Slot T name id) (hty : typeOf (.builtin id) = pure (.type "method_descriptor")) (hm : MtR X id r) (hd : MeD X.K r od) (ho : EV X W o f) (ha : AV X W (e :: es) g)
    (hbase : attributeBase o name X.env (eval o X.env) = eval o X.env := by rfl) (few : ((backTo cpos (starEach (e :: es) X.env)).all (fun z => !z.1) && (backToKw cpos (keywordEach [] X.env)).all (fun z => z.1.isSome) && decide ((e :: es).length + ([] : List Keyword).length + (if ([] : List Keyword).isEmpty then 0 else 1) < 30)) = true := by rfl) (hline : (apos.endLine == cpos.line) = true := by rfl) (hs : starEach (e :: es) X.env = (false, eval e X.env) :: starEach es X.env := by rfl) (hplain : (backTo cpos (starEach es X.env)).any (·.1) = false := by rfl) :
    EV X W (.Call (.Attribute o name apos) (e :: es) [] cpos) (bmD T od f g) := ⟨PE.imp (pe_bm pa slot hty hm ho.pe ha.pa hbase few hline hs hplain) fun σ H Q q => tBM_of hd q⟩
end
end DL
namespace DL
open PySem PySem.Spec PyProof.Rows L2
variable [Nm]

/-! ### statements -/
inductive Fl where
  | nx (S : DS) | rt (r : R) (S : DS) | bk (S : DS) | ct (S : DS)
  | exc (C : Addr) (fs : List (Str × D)) (S : DS)
  | stuck
def PoS (K : Fr) (W : WX) (B : Bs) (F : Addr → Prop) (H : Hp) (E : Ends) : Fl → Prop
  | .nx S' => ∀ σ' H' F', Ext F H F' H' → Rel K B F' S' σ' H' → E.nx σ' H'
  | .bk S' => ∀ σ' H' F', Ext F H F' H' → Rel K B F' S' σ' H' → E.bk σ' H'
  | .ct S' => ∀ σ' H' F', Ext F H F' H' → Rel K B F' S' σ' H' → E.ct σ' H'
  | .rt r S' => ∀ x σ' H' F', Ext F H F' H' → Rel K B F' S' σ' H' → RV K B B.H0 F' S' σ' H' x r → E.rt x H'
  | .exc C fs S' => ∀ dx fvs σ' H' F', Ext F H F' H' → Rel K B F' S' σ' H' → H' dx = some (.xd fvs) → B.H0 dx = none → Fts K F' H' fvs fs → W (.ref C) (some dx) σ' H'
  | .stuck => False
def tS (K : Fr) (W : WX) (g : DS → Fl) : TS := fun E σ H => ∃ B F S, Rel K B F S σ H ∧ PoS K W B F H E (g S)
structure SV (X : Cx) (W : WX) (st : Stmt) (g : DS → Fl) : Prop where
  ps : PS X st (tS X.K W g)
structure SVs (X : Cx) (W : WX) (st : List Stmt) (g : DS → Fl) : Prop where
  ps : PSs X st (tS X.K W g)
theorem PS.imp {X : Cx} {st : Stmt} {t t' : TS} (p : PS X st t) (h : ∀ E σ H, t' E σ H → t E σ H) : PS X st t' := ⟨fun pins s σ H E I q => p.run pins s σ H E I (h E σ H q)⟩
theorem PSs.imp {X : Cx} {st : List Stmt} {t t' : TS} (p : PSs X st t) (h : ∀ E σ H, t' E σ H → t E σ H) : PSs X st t' := ⟨fun pins s σ H E I q => p.run pins s σ H E I (h E σ H q)⟩

def skipS : DS → Fl := fun S => .nx S
def seqS (g h : DS → Fl) : DS → Fl := fun S => match g S with
  | .nx S' => h S'
  | o => o
def expS (f : DS → Out) : DS → Fl := fun S => match f S with
  | .ok _ S' => .nx S'
  | .exc C fs S' => .exc C fs S'
  | .stuck => .stuck
def retS (f : DS → Out) : DS → Fl := fun S => match f S with
  | .ok r S' => .rt r S'
  | .exc C fs S' => .exc C fs S'
  | .stuck => .stuck
def ifS (f : DS → Out) (g h : DS → Fl) : DS → Fl := fun S => match f S with
  | .ok (.v (.bl true)) S' => g S'
  | .ok (.v (.bl false)) S' => h S'
  | .exc C fs S' => .exc C fs S'
  | _ => .stuck
/-- may slot i be stored anew -/
def freeSl (S : DS) (i : Nat) : Bool := match S[i]? with
  | some (.ow true _) => false
  | some _ => true
  | none => false
def putN (i : Nat) : R → DS → Fl := fun r S => if freeSl S i then (match r with
  | .v d => .nx (S.set i (.fr d))
  | .ow d => .nx (S.set i (.ow false d))
  | .bw _ => .stuck) else .stuck
def asgS (i : Nat) (f : DS → Out) : DS → Fl := fun S => match f S with
  | .ok r S' => putN i r S'
  | .exc C fs S' => .exc C fs S'
  | .stuck => .stuck
/-- the own object of slot i is frozen -/
def frzS (i : Nat) : DS → Fl := fun S => match S[i]? with
  | some (.ow false d) => .nx (S.set i (.fr d))
  | _ => .stuck
section
variable {K : Fr} {W : WX} {B : Bs} {F F' : Addr → Prop} {H H' : Hp} {σ : St} {S S1 : DS} {E : Ends}
theorem PoS.ext {o : Fl} (e : Ext F H F' H') (h : PoS K W B F H E o) : PoS K W B F' H' E o := by
  cases o with
  | nx S' => exact fun σ' H2 F2 e2 => h σ' H2 F2 (e.trans e2)
  | bk S' => exact fun σ' H2 F2 e2 => h σ' H2 F2 (e.trans e2)
  | ct S' => exact fun σ' H2 F2 e2 => h σ' H2 F2 (e.trans e2)
  | rt r S' => exact fun x σ' H2 F2 e2 => h x σ' H2 F2 (e.trans e2)
  | exc C fs S' => exact fun dx fvs σ' H2 F2 e2 => h dx fvs σ' H2 F2 (e.trans e2)
  | stuck => exact h
theorem PoS.ex {C : Addr} {fs : List (Str × D)} {S' : DS} (h : PoS K W B F H E (.exc C fs S')) : PoEx K W B S F H σ C fs S' := fun dx fvs H1 F1 x r => h dx fvs σ H1 F1 x.toExt r
/-- what the new value of a slot must be -/
def NewAt (K : Fr) (B : Bs) (F : Addr → Prop) (S : DS) (σ : St) (H : Hp) (x : V) : Sl → Prop
  | .un => True
  | .fr d => At K F H x d
  | .ow false d => Fresh K B B.H0 F S σ H x d
  | .ow true _ => False
theorem Rel.setV {i : Nat} {x : V} {s : Sl} (r : Rel K B F S σ H) (fs : freeSl S i = true) (n : NewAt K B F S σ H x s) : Rel K B F (S.set i s) (σ.set i (some x)) H := by
  have li : i < S.length := by
    refine Nat.lt_of_not_le fun z => ?_
    unfold freeSl at fs
    rw [List.getElem?_eq_none z] at fs
    cases fs
  have lσ : i < σ.length := by rw [r.len]; exact li
  have np : ∀ d, S[i]? ≠ some (.ow true d) := fun d z => by
    unfold freeSl at fs
    rw [z] at fs
    cases fs
  have old : ∀ {j : Nat} {p : Bool} {d : D} {a : Addr}, (S.set i s)[j]? = some (.ow p d) → (σ.set i (some x))[j]? = some (some (.ref a)) →
      (i = j ∧ p = false ∧ s = .ow false d ∧ x = .ref a) ∨ (i ≠ j ∧ S[j]? = some (.ow p d) ∧ σ[j]? = some (some (.ref a))) := by
    intro j p d a h1 h2
    by_cases z : i = j
    · subst z
      rw [List.getElem?_set_self li] at h1
      rw [List.getElem?_set_self lσ] at h2
      cases h1
      cases h2
      cases p with
      | true => exact n.elim
      | false => exact .inl ⟨rfl, rfl, rfl, rfl⟩
    · rw [List.getElem?_set_ne z] at h1 h2
      exact .inr ⟨z, h1, h2⟩
  have fr : ∀ {d : D} {a : Addr} {j : Nat} {p : Bool} {e : D}, s = .ow false d → x = .ref a → S[j]? = some (.ow p e) → σ[j]? ≠ some (some (.ref a)) := by
    intro d a j p e h1 h2 h3
    subst h1 h2
    obtain ⟨b, e1, _, _, _, _, q⟩ := n
    cases e1
    exact q j p e h3
  refine ⟨by rw [List.length_set, List.length_set]; exact r.len, fun j t ht => ?_, fun j k a p q d e h1 h2 h3 h4 => ?_, r.trk, r.f0, r.new, r.keep, fun j a d h1 h2 => ?_, fun j a h => ?_, fun j a d h1 h2 => ?_, r.f0t, r.tabs⟩
  · by_cases z : i = j
    · subst z
      rw [List.getElem?_set_self li] at ht
      cases ht
      refine ⟨some x, List.getElem?_set_self lσ, ?_⟩
      cases s with
      | un => trivial
      | fr d => exact ⟨x, rfl, n⟩
      | ow p d =>
        cases p with
        | true => exact n.elim
        | false =>
          obtain ⟨a, e1, e2, e3, _, _, _⟩ := n
          exact ⟨a, by rw [e1], e2, e3⟩
    · rw [List.getElem?_set_ne z] at ht ⊢
      exact r.sl j t ht
  · rcases old h1 h3 with ⟨e1, _, e3, e4⟩ | ⟨e1, e2, e3⟩
    · rcases old h2 h4 with ⟨f1, _, f3, f4⟩ | ⟨f1, f2, f3⟩
      · exact e1.symm.trans f1
      · exact absurd f3 (fr e3 e4 f2)
    · rcases old h2 h4 with ⟨f1, _, f3, f4⟩ | ⟨f1, f2, f3⟩
      · exact absurd e3 (fr f3 f4 e2)
      · exact r.dis j k a p q d e e2 f2 e3 f3
  · rcases old h1 h2 with ⟨e1, _, e3, e4⟩ | ⟨e1, e2, e3⟩
    · subst e3 e4
      obtain ⟨b, z, _, _, q, _, _⟩ := n
      cases z
      exact q
    · exact r.own j a d e2 e3
  · obtain ⟨h1, d, h2⟩ := r.par j a h
    have z : i ≠ j := fun z => by
      subst z
      exact np d h2
    rw [List.getElem?_set_ne z, List.getElem?_set_ne z]
    exact ⟨h1, d, h2⟩
  · rcases old h1 h2 with ⟨_, e2, _⟩ | ⟨e1, e2, e3⟩
    · cases e2
    · exact r.onl j a d e2 e3
theorem Rel.frzSl {i : Nat} {d : D} (r : Rel K B F S σ H) (hi : S[i]? = some (.ow false d)) : ∃ F', Ext F H F' H ∧ Rel K B F' (S.set i (.fr d)) σ H := by
  obtain ⟨o, ho, a, rfl, nf, own⟩ := r.sl i _ hi
  have li : i < S.length := (List.getElem?_eq_some_iff.mp hi).1
  have fr : Fresh K B B.H0 F (S.set i .un) σ H (.ref a) d := ⟨a, rfl, nf, own, r.own i a d hi ho, r.own i a d hi ho, fun j p e h z => by
    by_cases y : i = j
    · subst y
      rw [List.getElem?_set_self li] at h
      cases h
    · rw [List.getElem?_set_ne y] at h
      exact y (r.dis i j a _ _ _ _ hi h ho z)⟩
  obtain ⟨a', _, x, r', at'⟩ := Fresh.frz (r.drop hi) fr
  refine ⟨_, x, ?_⟩
  have e1 : (S.set i .un).set i (.fr d) = S.set i (.fr d) := by rw [List.set_set]
  have e2 : σ.set i (some (.ref a)) = σ := by
    apply List.ext_getElem?
    intro j
    by_cases y : i = j
    · subst y
      rw [List.getElem?_set_self (by rw [r.len]; exact li), ho]
    · rw [List.getElem?_set_ne y]
  have q := r'.setV (i := i) (x := .ref a) (s := .fr d) (by unfold freeSl; rw [List.getElem?_set_self li]) at'
  rw [e1, e2] at q
  exact q
end

section
variable {X : Cx} {W : WX} {st : Stmt} {sts : List Stmt} {e : Expr} {f : DS → Out} {g h : DS → Fl} {pos : Pos}
theorem svs_nil : SVs X W [] skipS := ⟨PSs.imp pss_nil fun E σ H ⟨B, F, S, rel, p⟩ => p σ H F (Ext.refl F H) rel⟩
theorem svs_cons (a : SV X W st g) (b : SVs X W sts h) : SVs X W (st :: sts) (seqS g h) := by
  refine ⟨PSs.imp (pss_cons a.ps b.ps) fun E σ H ⟨B, F, S, rel, p⟩ => ⟨B, F, S, rel, ?_⟩⟩
  unfold seqS at p
  cases q : g S with
  | nx S' =>
    rw [q] at p
    exact fun σ' H' F' x r => ⟨B, F', S', r, PoS.ext x p⟩
  | bk S' => rw [q] at p; exact p
  | ct S' => rw [q] at p; exact p
  | rt r S' => rw [q] at p; exact p
  | exc C fs S' => rw [q] at p; exact p
  | stuck => rw [q] at p; exact p
theorem svs_one (a : SV X W st g) : SVs X W [st] g := ⟨pss_one a.ps⟩
/-- an own object frozen ahead of a statement -/
theorem svs_frz (i : Nat) (a : SVs X W sts g) : SVs X W sts (seqS (frzS i) g) := by
  refine ⟨PSs.imp a.ps fun E σ H ⟨B, F, S, rel, p⟩ => ?_⟩
  unfold seqS frzS at p
  cases q : S[i]? with
  | none => rw [q] at p; exact p.elim
  | some s =>
    rw [q] at p
    cases s with
    | un => exact p.elim
    | fr d => exact p.elim
    | ow b d =>
      cases b with
      | true => exact p.elim
      | false =>
        obtain ⟨F', x, r⟩ := rel.frzSl q
        exact ⟨B, F', _, r, PoS.ext x p⟩
theorem sv_pass : SV X W (.Pass pos) skipS := ⟨PS.imp ps_pass fun E σ H ⟨B, F, S, rel, p⟩ => p σ H F (Ext.refl F H) rel⟩
theorem sv_break : SV X W (.Break pos) (fun S => .bk S) := ⟨PS.imp ps_break fun E σ H ⟨B, F, S, rel, p⟩ => p σ H F (Ext.refl F H) rel⟩
theorem sv_continue : SV X W (.Continue pos) (fun S => .ct S) := ⟨PS.imp ps_continue fun E σ H ⟨B, F, S, rel, p⟩ => p σ H F (Ext.refl F H) rel⟩
theorem sv_exp (a : EV X W e f) (hs : swapsWith e none pos.line X.env = pure false := by rfl) : SV X W (.Expr e pos) (expS f) := by
  refine ⟨PS.imp (ps_expr a.pe hs) fun E σ H ⟨B, F, S, rel, p⟩ => ⟨B, F, S, rel, ?_⟩⟩
  unfold expS at p
  cases q : f S with
  | ok r S' => rw [q] at p; exact fun x H' F' xt r' _ => p σ H' F' xt.toExt r'
  | exc C fs S' => rw [q] at p; exact PoS.ex p
  | stuck => rw [q] at p; exact p
theorem sv_ret (a : EV X W e f) : SV X W (.Return (some e) pos) (retS f) := by
  refine ⟨PS.imp (ps_ret a.pe) fun E σ H ⟨B, F, S, rel, p⟩ => ⟨B, F, S, rel, ?_⟩⟩
  unfold retS at p
  cases q : f S with
  | ok r S' => rw [q] at p; exact fun x H' F' xt r' v => p x σ H' F' xt.toExt r' (v.back fun _ => rel.h0)
  | exc C fs S' => rw [q] at p; exact PoS.ex p
  | stuck => rw [q] at p; exact p
theorem sv_retN : SV X W (.Return none pos) (fun S => .rt (.v .non) S) := ⟨PS.imp ps_retN fun E σ H ⟨B, F, S, rel, p⟩ => p .non σ H F (Ext.refl F H) rel .non⟩
theorem sv_if {a b : List Stmt} {t : Expr} (c : TV X W t f) (ha : SVs X W a g) (hb : SVs X W b h) : SV X W (.If t a b pos) (ifS f g h) := by
  refine ⟨PS.imp (ps_if c.pt ha.ps hb.ps) fun E σ H ⟨B, F, S, rel, p⟩ => ⟨B, F, S, rel, ?_⟩⟩
  unfold ifS at p
  cases q : f S with
  | exc C fs S' => rw [q] at p; exact PoS.ex p
  | stuck => rw [q] at p; exact p
  | ok r S' =>
    rw [q] at p
    intro x H' F' xt r' v
    match r, v, p with
    | .v (.bl true), v, p => exact ⟨true, blOf v, iteT ⟨B, F', S', r', PoS.ext xt.toExt p⟩⟩
    | .v (.bl false), v, p => exact ⟨false, blOf v, iteF ⟨B, F', S', r', PoS.ext xt.toExt p⟩⟩
/-- return x, x an own local: the object goes out -/
def retMov (i : Nat) : DS → Fl := fun S => match S[i]? with
  | some (.ow false d) => .rt (.ow d) (S.set i .un)
  | _ => .stuck
theorem sv_retMov (i : Nat) {x : Str} {px : Pos} (h : PE X (.Name x px) (tVar i)) : SV X W (.Return (some (.Name x px)) pos) (retMov i) := by
  refine ⟨PS.imp (ps_ret h) fun E σ H ⟨B, F, S, rel, p⟩ => ?_⟩
  unfold retMov at p
  cases hs : S[i]? with
  | none => rw [hs] at p; exact p.elim
  | some s =>
    rw [hs] at p
    cases s with
    | un => exact p.elim
    | fr d => exact p.elim
    | ow q d =>
      cases q with
      | true => exact p.elim
      | false =>
        obtain ⟨o, ho, a, rfl, nf, own⟩ := rel.sl i _ hs
        have li : i < S.length := (List.getElem?_eq_some_iff.mp hs).1
        refine ⟨_, ho, p _ σ H F (Ext.refl F H) (rel.drop hs) ⟨a, rfl, nf, own, rel.own i a d hs ho, rel.own i a d hs ho, fun j pj ej hj z => ?_⟩⟩
        by_cases y : i = j
        · subst y
          rw [List.getElem?_set_self li] at hj
          cases hj
        · rw [List.getElem?_set_ne y] at hj
          exact y (rel.dis i j a _ _ _ _ hs hj ho z)
/-- a statement that the mirror never comes to -/
theorem sv_never : SV X W st (fun _ => .stuck) := ⟨PS.imp ps_never fun E σ H ⟨B, F, S, rel, p⟩ => p⟩
theorem putN_ok {K : Fr} {B : Bs} {F F' : Addr → Prop} {H H' : Hp} {σ : St} {S' : DS} {E : Ends} {i : Nat} {r : R} {x : V} (p : PoS K W B F H E (putN i r S')) (xt : Ext F H F' H') {G : Hp} (rel : Rel K B F' S' σ H') (v : RV K B G F' S' σ H' x r) (kG : ∀ a, G a = none → B.H0 a = none) : E.nx (σ.set i (some x)) H' := by
  unfold putN at p
  split at p
  · rename_i fs
    cases r with
    | v d => exact p _ _ _ xt (rel.setV fs v)
    | ow d => exact p _ _ _ xt (rel.setV fs (v.back kG))
    | bw j => exact p.elim
  · exact p.elim
theorem sv_asg {i : Nat} {x : Str} {pos' : Pos} (hN : X.N.Nodup) (hi : X.N[i]? = some x) (hx : Loc X.env.scope x) (a : EV X W e f) (hs : swapsWith e (some (.Name x pos')) pos.line X.env = pure false := by rfl)
    (hf : X.fn x = true ∨ X.env.scope.names.lookup x = some .local := by first | exact .inl rfl | exact .inr rfl) : SV X W (.Assign [.Name x pos'] e pos) (asgS i f) := by
  refine ⟨PS.imp (ps_set hN hi hx a.pe hs hf) fun E σ H ⟨B, F, S, rel, p⟩ => ⟨B, F, S, rel, ?_⟩⟩
  unfold asgS at p
  cases q : f S with
  | exc C fs S' => rw [q] at p; exact PoS.ex p
  | stuck => rw [q] at p; exact p
  | ok r S' => rw [q] at p; exact fun y H' F' xt r' v => putN_ok p xt.toExt r' v fun _ => rel.h0

/-! ### targets -/
/-- a target given the tree d -/
def tG (K : Fr) (W : WX) (b : D → DS → Fl) : TG := fun v σ H Q => ∃ B F S d, Rel K B F S σ H ∧ At K F H v d ∧ match b d S with
  | .nx S' => ∀ σ' H' F', Ext F H F' H' → Rel K B F' S' σ' H' → Q σ' H'
  | _ => False
structure GV (X : Cx) (W : WX) (tg : Expr) (b : D → DS → Fl) : Prop where
  pg : PG X tg (tG X.K W b)
theorem PG.imp {tg : Expr} {t t' : TG} (p : PG X tg t) (h : ∀ v σ H Q, t' v σ H Q → t v σ H Q) : PG X tg t' := ⟨fun pins s σ H v u Q I r q => p.run pins s σ H v u Q I r (h v σ H Q q)⟩
def nameG (i : Nat) : D → DS → Fl := fun d S => if freeSl S i then .nx (S.set i (.fr d)) else .stuck
theorem gv_name {i : Nat} {x : Str} (hN : X.N.Nodup) (hi : X.N[i]? = some x) (hx : Loc X.env.scope x) (hf : X.fn x = true ∨ X.env.scope.names.lookup x = some .local := by first | exact .inl rfl | exact .inr rfl) : GV X W (.Name x pos) (nameG i) := by
  refine ⟨PG.imp (pg_name hN hi hx hf) fun v σ H Q ⟨B, F, S, d, rel, at', p⟩ => ?_⟩
  unfold nameG at p
  split at p
  · rename_i S' q
    split at q
    · rename_i fs
      cases q
      exact p _ _ _ (Ext.refl F H) (rel.setV (s := .fr d) fs at')
    · cases q
  · exact p.elim
/-- a, b, .. = a tuple -/
def seqG : List (D → DS → Fl) → List D → DS → Fl
  | [], [], S => .nx S
  | b :: bs, d :: ds, S => match b d S with
    | .nx S' => seqG bs ds S'
    | _ => .stuck
  | _, _, _ => .stuck
def tupG (bs : List (D → DS → Fl)) : D → DS → Fl := fun d S => match d with
  | .tup ds => seqG bs ds S
  | .lst ds => seqG bs ds S
  | _ => .stuck
def tGs (K : Fr) (bs : List (D → DS → Fl)) : TGs := fun vs σ H Q => ∃ B F S ds, Rel K B F S σ H ∧ Ats K F H vs ds ∧ match seqG bs ds S with
  | .nx S' => ∀ σ' H' F', Ext F H F' H' → Rel K B F' S' σ' H' → Q σ' H'
  | _ => False
structure GVs (X : Cx) (W : WX) (ts : List Expr) (bs : List (D → DS → Fl)) : Prop where
  pg : PGs X ts (tGs X.K bs)
theorem PGs.imp {ts : List Expr} {t t' : TGs} (p : PGs X ts t) (h : ∀ v σ H Q, t' v σ H Q → t v σ H Q) : PGs X ts t' := ⟨fun pins s σ H v u Q I r q => p.run pins s σ H v u Q I r (h v σ H Q q)⟩
theorem gvs_nil : GVs X W [] [] := ⟨PGs.imp pgs_nil fun v σ H Q ⟨B, F, S, ds, rel, t, p⟩ => by
  cases t with
  | nil => exact ⟨rfl, p _ _ _ (Ext.refl F H) rel⟩
  | cons h t => exact p.elim⟩
theorem gvs_cons {tg : Expr} {b : D → DS → Fl} {bs : List (D → DS → Fl)} {ts : List Expr} (a : GV X W tg b) (c : GVs X W ts bs) (hs : (assignEach (tg :: ts) X.env).map (·.2) = assign tg X.env :: (assignEach ts X.env).map (·.2) := by rfl) : GVs X W (tg :: ts) (b :: bs) := by
  refine ⟨PGs.imp (pgs_cons a.pg c.pg hs) fun vs σ H Q ⟨B, F, S, ds, rel, t, p⟩ => ?_⟩
  cases t with
  | nil => exact p.elim
  | @cons v d vs ds h t =>
    simp only [seqG] at p
    refine ⟨v, vs, rfl, B, F, S, d, rel, h, ?_⟩
    cases q : b d S with
    | nx S1 =>
      rw [q] at p
      dsimp only at p ⊢
      intro σ1 H1 F1 x1 rel1
      refine ⟨B, F1, S1, ds, rel1, t.ext x1, ?_⟩
      cases q2 : seqG bs ds S1 with
      | nx S2 => rw [q2] at p; exact fun σ2 H2 F2 x2 rel2 => p σ2 H2 F2 (x1.trans x2) rel2
      | _ => rw [q2] at p; exact p.elim
    | _ => rw [q] at p; exact p.elim
theorem seqG_len : ∀ {bs : List (D → DS → Fl)} {ds : List D} {S S' : DS}, seqG bs ds S = .nx S' → bs.length = ds.length
  | [], [], _, _, _ => rfl
  | [], _ :: _, _, _, q => by simp [seqG] at q
  | _ :: _, [], _, _, q => by simp [seqG] at q
  | b :: bs, d :: ds, S, S', q => by
    simp only [seqG] at q
    split at q
    · rw [List.length_cons, List.length_cons, seqG_len q]
    · cases q
theorem gv_tup {ts : List Expr} {bs : List (D → DS → Fl)} {k : Nat} (hc : X.calm = true) (b : GVs X W ts bs) (hn : (assignEach ts X.env).length = bs.length := by rfl) (hst : (assignEach ts X.env).findIdx? (·.1) = none := by rfl) : GV X W (.Tuple ts k pos) (tupG bs) := by
  have both : PG X (.Tuple ts k pos) (fun v σ H Q => gTup X.K bs.length (tGs X.K bs) v σ H Q ∨ gUnl X.K bs.length (tGs X.K bs) v σ H Q) := ⟨fun pins s σ H v u Q I r h => by
    rcases h with h | h
    · exact (pg_tup (n := bs.length) hc b.pg hn hst).run pins s σ H v u Q I r h
    · exact (pg_unl (n := bs.length) hc b.pg hn hst).run pins s σ H v u Q I r h⟩
  refine ⟨PG.imp both fun v σ H Q ⟨B, F, S, d, rel, at', p⟩ => ?_⟩
  unfold tupG at p
  cases d with
  | tup ds =>
    obtain ⟨a, vs, rfl, h1, t⟩ := at'.tupI
    refine .inl ⟨a, vs, rfl, h1, ?_, B, F, S, ds, rel, t, p⟩
    split at p
    · rename_i S' q
      rw [t.length, seqG_len q]
    · exact p.elim
  | lst ds =>
    obtain ⟨a, vs, rfl, h1, t⟩ := at'.lstI
    refine .inr ⟨a, vs, rfl, .inl (.inl h1), ?_, B, F, S, ds, rel, t, p⟩
    split at p
    · rename_i S' q
      rw [t.length, seqG_len q]
    · exact p.elim
  | _ => exact p.elim
def namesG : List Nat → List D → DS → Fl
  | [], [], S => .nx S
  | i :: is, d :: ds, S => match nameG i d S with
    | .nx S' => namesG is ds S'
    | _ => .stuck
  | _, _, _ => .stuck
/-- a, b = x, y as a statement of two plain names -/
def parS (i j : Nat) (g : DS → AOut) : DS → Fl := fun S => match g S with
  | .ok [r1, r2] S' => match vals [r1, r2] with
    | some [d1, d2] => namesG [i, j] [d1, d2] S'
    | _ => .stuck
  | .exc C fs S' => .exc C fs S'
  | _ => .stuck
theorem sv_par {i j : Nat} {x y : Str} {a b : Expr} {ga : DS → AOut} {px py pt : Pos} {kt k2 pt2} (hc : X.calm = true) (hN : X.N.Nodup) (hi : X.N[i]? = some x) (hj : X.N[j]? = some y) (hij : i ≠ j)
    (hx : X.env.scope.names.lookup x = some .local) (hy : X.env.scope.names.lookup y = some .local) (ha : AV X W [a, b] ga)
    (hw : swappedStores [.Tuple [.Name x px, .Name y py] kt pt] (.Tuple [a, b] k2 pt2) X.env = pure (some [x, y]) := by rfl)
    (hs : swapsWithSole [.Tuple [.Name x px, .Name y py] kt pt] (.Tuple [a, b] k2 pt2) pos.line X.env = pure false := by rfl) :
    SV X W (.Assign [.Tuple [.Name x px, .Name y py] kt pt] (.Tuple [a, b] k2 pt2) pos) (parS i j ga) := by
  refine ⟨PS.imp (ps_par hc hN hi hj hij hx hy ha.pa hw hs) fun E σ H ⟨B, F, S, rel, p⟩ => ⟨B, F, S, rel, ?_⟩⟩
  unfold parS at p
  cases q : ga S with
  | exc C fs S' => rw [q] at p; exact PoS.ex p
  | stuck => rw [q] at p; exact p
  | ok rs S' =>
    rw [q] at p
    intro xs H' F' xt r' v
    match rs, v, p with
    | [.v d1, .v d2], .cons h1 (.cons h2 .nil), p =>
      refine ⟨_, _, rfl, ?_⟩
      have p' : PoS X.K W B F H E (namesG [i, j] [d1, d2] S') := p
      simp only [namesG] at p'
      unfold nameG at p'
      by_cases f1 : freeSl S' i = true
      · rw [if_pos f1] at p'
        dsimp only at p'
        by_cases f2 : freeSl (S'.set i (.fr d1)) j = true
        · rw [if_pos f2] at p'
          have r1 := r'.setV (s := .fr d1) f1 h1
          exact p' _ _ _ xt.toExt (r1.setV (s := .fr d2) f2 h2)
        · rw [if_neg f2] at p'
          exact p'.elim
      · rw [if_neg f1] at p'
        exact p'.elim
    | [.v d1, .ow d2], _, p => exact p.elim
    | [.v d1, .bw d2], _, p => exact p.elim
    | [.ow d1, r2], _, p => exact p.elim
    | [.bw d1, r2], _, p => exact p.elim
    | [], _, p => exact p.elim
    | [r1], _, p => exact p.elim
    | r1 :: r2 :: r3 :: rs, _, p => exact p.elim

/-! ### for -/
def forD (bd : D → DS → Fl) (b : DS → Fl) : List D → DS → Fl
  | [], S => .nx S
  | d :: ds, S => match bd d S with
    | .nx S1 => match b S1 with
      | .nx S2 => forD bd b ds S2
      | .ct S2 => forD bd b ds S2
      | .bk S2 => .nx S2
      | o => o
    | _ => .stuck
/-- what stands behind i turns -/
def Turned (K : Fr) (W : WX) (B : Bs) (F0 : Addr → Prop) (H0 : Hp) (E : Ends) (bd : D → DS → Fl) (b : DS → Fl) (ds : List D) (i : Nat) (σ : St) (H : Hp) : Prop :=
  ∃ F S, Ext F0 H0 F H ∧ Rel K B F S σ H ∧ PoS K W B F H E (forD bd b (ds.drop i) S)
theorem turn_ok {K : Fr} {B : Bs} {F0 : Addr → Prop} {H0 : Hp} {E : Ends} {bd : D → DS → Fl} {b : DS → Fl} {ds : List D} {i : Nat} {σ : St} {H H1 : Hp} {x : V} {d : D} (hd : ds[i]? = some d) (t : Turned K W B F0 H0 E bd b ds i σ H)
    (nw : ∀ F S, Ext F0 H0 F H → Rel K B F S σ H → ∃ F1, Ext F H F1 H1 ∧ Rel K B F1 S σ H1 ∧ At K F1 H1 x d) :
    tG K W bd x σ H1 fun σ2 H2 => tS K W b { E with nx := Turned K W B F0 H0 E bd b ds (i + 1), ct := Turned K W B F0 H0 E bd b ds (i + 1), bk := E.nx } σ2 H2 := by
  obtain ⟨F, S, x0, rel, p⟩ := t
  obtain ⟨F1, x1, rel1, at1⟩ := nw F S x0 rel
  have li : i < ds.length := (List.getElem?_eq_some_iff.mp hd).1
  have e : ds.drop i = d :: ds.drop (i + 1) := by
    rw [List.drop_eq_getElem_cons li]
    rw [List.getElem?_eq_getElem li] at hd
    cases hd
    rfl
  rw [e] at p
  have p := PoS.ext x1 p
  have x01 := x0.trans x1
  refine ⟨B, F1, S, d, rel1, at1, ?_⟩
  simp only [forD] at p
  cases q : bd d S with
  | nx S1 =>
    rw [q] at p
    dsimp only at p ⊢
    intro σ2 H2 F2 x2 rel2
    have p := PoS.ext x2 p
    refine ⟨B, F2, S1, rel2, ?_⟩
    cases q2 : b S1 with
    | nx S2 => rw [q2] at p; exact fun σ3 H3 F3 x3 rel3 => ⟨F3, S2, (x01.trans x2).trans x3, rel3, PoS.ext x3 p⟩
    | ct S2 => rw [q2] at p; exact fun σ3 H3 F3 x3 rel3 => ⟨F3, S2, (x01.trans x2).trans x3, rel3, PoS.ext x3 p⟩
    | bk S2 => rw [q2] at p; exact p
    | rt r S2 => rw [q2] at p; exact p
    | exc C fs S2 => rw [q2] at p; exact p
    | stuck => rw [q2] at p; exact p
  | _ => rw [q] at p; exact p.elim
theorem turned_end {K : Fr} {B : Bs} {F0 : Addr → Prop} {H0 : Hp} {E : Ends} {bd : D → DS → Fl} {b : DS → Fl} {ds : List D} {σ : St} {H : Hp} (t : Turned K W B F0 H0 E bd b ds ds.length σ H) : E.nx σ H := by
  obtain ⟨F, S, x0, rel, p⟩ := t
  rw [List.drop_length] at p
  exact p σ H F (Ext.refl F H) rel
end
end DL
namespace DL
open PySem PySem.Spec PyProof.Rows L2
variable [Nm]

/-! ### what is walked -/
/-- J, met at (F1, H1), gives the trees ds -/
structure Feeds (K : Fr) (F1 : Addr → Prop) (H1 : Hp) (J : It) (ds : List D) : Prop where
  go : ∀ (i : Nat) (F : Addr → Prop) (H : Hp), Ext F1 H1 F H → i < ds.length → J.go i H
  stop : ∀ (F : Addr → Prop) (H : Hp), Ext F1 H1 F H → J.stop ds.length H
  yld : ∀ (i : Nat) (F : Addr → Prop) (H : Hp) (x : V) (H' : Hp), Ext F1 H1 F H → i < ds.length → J.yld i H x H' →
    ∃ (F' : Addr → Prop) (d : D), ds[i]? = some d ∧ (∀ b o, H b = some o → H' b = some o) ∧ (∀ a, F a → F' a) ∧ (∀ a, F' a → F a ∨ (H a = none ∧ ∃ o, H' a = some o)) ∧ (∀ P ps, H' P = some (.tbl ps) → H P = some (.tbl ps)) ∧ At K F' H' x d
theorem Feeds.ext {K : Fr} {F1 F2 : Addr → Prop} {H1 H2 : Hp} {J : It} {ds : List D} (f : Feeds K F1 H1 J ds) (x : Ext F1 H1 F2 H2) : Feeds K F2 H2 J ds :=
  ⟨fun i F H e => f.go i F H (x.trans e), fun F H e => f.stop F H (x.trans e), fun i F H y H' e => f.yld i F H y H' (x.trans e)⟩
inductive IOut where
  | ok (ds : List D) (S : DS)
  | exc (C : Addr) (fs : List (Str × D)) (S : DS)
  | stuck
def PoI (K : Fr) (W : WX) (B : Bs) (S : DS) (F : Addr → Prop) (H : Hp) (σ : St) (Q : It → Hp → Prop) : IOut → Prop
  | .ok ds S' => ∀ J H' F', Xt σ S F H S' F' H' → Rel K B F' S' σ H' → Feeds K F' H' J ds → Q J H'
  | .exc C fs S' => PoEx K W B S F H σ C fs S'
  | .stuck => False
def tI (K : Fr) (W : WX) (f : DS → IOut) : TI := fun σ H Q => ∃ B F S, Rel K B F S σ H ∧ PoI K W B S F H σ Q (f S)
structure IV (X : Cx) (W : WX) (tg e : Expr) (f : DS → IOut) : Prop where
  pi : PI X tg e (tI X.K W f)
theorem PI.imp {X : Cx} {tg e : Expr} {t t' : TI} (p : PI X tg e t) (h : ∀ σ H Q, t' σ H Q → t σ H Q) : PI X tg e t' := ⟨fun pins s σ H Q I q => p.run pins s σ H Q I (h σ H Q q)⟩
def iLst (f : DS → Out) : DS → IOut := fun S => match f S with
  | .ok (.v (.lst ds)) S' => .ok ds S'
  | .exc C fs S' => .exc C fs S'
  | _ => .stuck
def iTpl (f : DS → Out) : DS → IOut := fun S => match f S with
  | .ok (.v (.tup ds)) S' => .ok ds S'
  | .exc C fs S' => .exc C fs S'
  | _ => .stuck
/-- the signs of a text -/
def signs (z : Str) : List D := z.cps.toList.map fun c => D.str ⟨#[c]⟩
def iStrD (f : DS → Out) : DS → IOut := fun S => match f S with
  | .ok (.v (.str z)) S' => .ok (signs z) S'
  | .exc C fs S' => .exc C fs S'
  | _ => .stuck
def rng (lo : Int) (n : Nat) : List D := (List.range n).map fun (k : Nat) => D.int (lo + (k : Int))
theorem rng_get {lo : Int} {n i : Nat} (h : i < n) : (rng lo n)[i]? = some (.int (lo + (i : Int))) := by
  unfold rng
  rw [List.getElem?_map, List.getElem?_range h]
  rfl
theorem rng_len {lo : Int} {n : Nat} : (rng lo n).length = n := by simp [rng]
def smallI (i : Int) : Bool := decide (-(2 ^ 62) ≤ i ∧ i < 2 ^ 62)
def iR1 (ga : DS → AOut) : DS → IOut := fun S => match ga S with
  | .ok [.v (.int j)] S' => if smallI j then .ok (rng 0 j.toNat) S' else .stuck
  | .exc C fs S' => .exc C fs S'
  | _ => .stuck
def iR2 (ga : DS → AOut) : DS → IOut := fun S => match ga S with
  | .ok [.v (.int i), .v (.int j)] S' => if smallI i && smallI j then .ok (rng i (j - i).toNat) S' else .stuck
  | .exc C fs S' => .exc C fs S'
  | _ => .stuck
/-- pairs of a place and an item -/
def enumL (ds : List D) : List D := ds.mapIdx fun i d => D.tup [.int (i : Int), d]
def iEnL (ga : DS → AOut) : DS → IOut := fun S => match ga S with
  | .ok [.v (.lst ds)] S' => .ok (enumL ds) S'
  | .exc C fs S' => .exc C fs S'
  | _ => .stuck
section
variable {X : Cx} {W : WX} {tg e e2 : Expr} {f : DS → Out} {ga : DS → AOut} {pos p0 p1 : Pos}
theorem feeds_list {K : Fr} {F : Addr → Prop} {H : Hp} {a : Addr} {vs : List V} {ds : List D} (fa : F a) (ha : H a = some (.lst vs)) (t : Ats K F H vs ds) : Feeds K F H (Itl K a) ds := by
  refine ⟨fun i F' H' e hi => ?_, fun F' H' e => ⟨vs, .inl (.inl (e.kp fa ha)), by rw [t.length]; exact Nat.le_refl _⟩, fun i F' H' x H2 e hi y => ?_⟩
  · have hi' : i < vs.length := by rw [t.length]; exact hi
    exact ⟨vs, _, .inl (.inl (e.kp fa ha)), List.getElem?_eq_getElem hi'⟩
  · obtain ⟨rfl, q⟩ := y
    obtain ⟨d, hd, ad⟩ := t.get (q vs (.inl (.inl (e.kp fa ha))))
    exact ⟨F', d, hd, fun _ _ h => h, fun _ h => h, fun _ h => .inl h, fun _ _ h => h, ad.ext e⟩
theorem iv_list (a : EV X W e f) : IV X W tg e (iLst f) := by
  refine ⟨PI.imp (pi_list a.pe) fun σ H R ⟨B, F, S, rel, p⟩ => ⟨B, F, S, rel, ?_⟩⟩
  unfold iLst at p
  split at p
  · rename_i ds S' q
    rw [q]
    intro x H1 F1 xt rel1 (at1 : At X.K F1 H1 x (.lst ds))
    cases at1 with
    | lst fa ha t1 => exact ⟨_, rfl, ⟨_, .inl (.inl ha)⟩, p _ _ _ xt rel1 (feeds_list fa ha t1)⟩
  · rename_i C fs S' q
    rw [q]
    exact p
  · exact p.elim
theorem iv_tup (a : EV X W e f) : IV X W tg e (iTpl f) := by
  refine ⟨PI.imp (pi_tup a.pe) fun σ H R ⟨B, F, S, rel, p⟩ => ⟨B, F, S, rel, ?_⟩⟩
  unfold iTpl at p
  split at p
  · rename_i ds S' q
    rw [q]
    intro x H1 F1 xt rel1 (at1 : At X.K F1 H1 x (.tup ds))
    obtain ⟨a, vs, rfl, keep, t1⟩ : ∃ a vs, x = .ref a ∧ (∀ F2 H2, Ext F1 H1 F2 H2 → SqT X.K H2 a vs) ∧ Ats X.K F1 H1 vs ds := by
      cases at1 with
      | tup fa ha t1 => exact ⟨_, _, rfl, fun F2 H2 x2 => .inl (rdKeep x2 fa ha), t1⟩
      | ktup ha t1 => exact ⟨_, _, rfl, fun F2 H2 x2 => ha.sq, t1⟩
    refine ⟨a, rfl, ⟨vs, keep F1 H1 (Ext.refl _ _)⟩, p _ _ _ xt rel1 ⟨fun i F' H' e hi => ?_, fun F' H' e => ⟨vs, keep F' H' e, by rw [t1.length]; exact Nat.le_refl _⟩, fun i F' H' x H2 e hi y => ?_⟩⟩
    · have hi' : i < vs.length := by rw [t1.length]; exact hi
      exact ⟨vs, _, keep F' H' e, List.getElem?_eq_getElem hi'⟩
    · obtain ⟨rfl, q⟩ := y
      obtain ⟨d, hd, ad⟩ := t1.get (q vs (keep F' _ e))
      exact ⟨F', d, hd, fun _ _ h => h, fun _ h => h, fun _ h => .inl h, fun _ _ h => h, ad.ext e⟩
  · rename_i C fs S' q
    rw [q]
    exact p
  · exact p.elim
theorem iv_str (a : EV X W e f) : IV X W tg e (iStrD f) := by
  refine ⟨PI.imp (pi_str a.pe) fun σ H R ⟨B, F, S, rel, p⟩ => ⟨B, F, S, rel, ?_⟩⟩
  unfold iStrD at p
  split at p
  · rename_i z S' q
    rw [q]
    intro x H1 F1 xt rel1 (at1 : At X.K F1 H1 x (.str z))
    have len : (signs z).length = z.cps.size := by simp [signs]
    refine ⟨z, at1.strI, p _ _ _ xt rel1 ⟨fun i F' H' e hi => ?_, fun F' H' e => ?_, fun i F' H' x H2 e hi y => ?_⟩⟩
    · show i < z.cps.size
      rw [← len]; exact hi
    · show z.cps.size ≤ (signs z).length
      rw [len]; exact Nat.le_refl _
    · obtain ⟨rfl, c, hc, rfl⟩ := y
      refine ⟨F', .str ⟨#[c]⟩, ?_, fun _ _ h => h, fun _ h => h, fun _ h => .inl h, fun _ _ h => h, .str _⟩
      unfold signs
      rw [List.getElem?_map]
      have : z.cps.toList[i]? = some c := by simpa using hc
      rw [this]
      rfl
  · rename_i C fs S' q
    rw [q]
    exact p
  · exact p.elim
theorem feeds_rng {K : Fr} {F : Addr → Prop} {H : Hp} {lo : Int} {n : Nat} : Feeds K F H (Itr lo n) (rng lo n) := by
  refine ⟨fun i F' H' e hi => ?_, fun F' H' e => ?_, fun i F' H' x H2 e hi y => ?_⟩
  · rw [rng_len] at hi; exact hi
  · show n ≤ (rng lo n).length
    rw [rng_len]; exact Nat.le_refl _
  · obtain ⟨rfl, rfl⟩ := y
    rw [rng_len] at hi
    exact ⟨F', _, rng_get hi, fun _ _ h => h, fun _ h => h, fun _ h => .inl h, fun _ _ h => h, .int _⟩
theorem iv_rng1 (hg : Gl X "range") (hm : X.mg "range" = none) (a : AV X W [e] ga) (h1 : starEach [e] X.env = [(false, eval e X.env)] := by rfl) : IV X W tg (.Call (.Name "range" p0) [e] [] p1) (iR1 ga) := by
  refine ⟨PI.imp (pi_range1 hg hm a.pa h1) fun σ H R ⟨B, F, S, rel, p⟩ => ⟨B, F, S, rel, ?_⟩⟩
  unfold iR1 at p
  split at p
  · rename_i j S' q
    rw [q]
    intro xs H1 F1 xt rel1 rv1
    split at p
    · rename_i sm
      have sm := of_decide_eq_true sm
      match rv1 with
      | .cons h .nil =>
        rw [At.intI (show At X.K F1 H1 _ (.int j) from h)]
        exact ⟨j, rfl, sm.1, sm.2, p _ _ _ xt rel1 feeds_rng⟩
    · exact p.elim
  · rename_i C fs S' q
    rw [q]
    exact p
  · exact p.elim
theorem iv_rng2 (hg : Gl X "range") (hm : X.mg "range" = none) (a : AV X W [e, e2] ga) (h1 : starEach [e, e2] X.env = [(false, eval e X.env), (false, eval e2 X.env)] := by rfl) (h2 : starEach [e2] X.env = [(false, eval e2 X.env)] := by rfl) : IV X W tg (.Call (.Name "range" p0) [e, e2] [] p1) (iR2 ga) := by
  refine ⟨PI.imp (pi_range2 hg hm a.pa h1 h2) fun σ H R ⟨B, F, S, rel, p⟩ => ⟨B, F, S, rel, ?_⟩⟩
  unfold iR2 at p
  split at p
  · rename_i i j S' q
    rw [q]
    intro xs H1 F1 xt rel1 rv1
    split at p
    · rename_i sm
      have sm := Bool.and_eq_true_iff.mp sm
      have s1 := of_decide_eq_true sm.1
      have s2 := of_decide_eq_true sm.2
      match rv1 with
      | .cons h (.cons h' .nil) =>
        rw [At.intI (show At X.K F1 H1 _ (.int i) from h), At.intI (show At X.K F1 H1 _ (.int j) from h')]
        exact ⟨i, j, rfl, ⟨s1.1, s1.2, s2.1, s2.2⟩, p _ _ _ xt rel1 feeds_rng⟩
    · exact p.elim
  · rename_i C fs S' q
    rw [q]
    exact p
  · exact p.elim
theorem enumL_get {ds : List D} {i : Nat} {d : D} (h : ds[i]? = some d) : (enumL ds)[i]? = some (.tup [.int (i : Int), d]) := by
  unfold enumL
  rw [List.getElem?_mapIdx, h]
  rfl
theorem iv_enumL {elts : List Expr} {kk : Nat} {tpos : Pos} (hg : Gl X "enumerate") (hm : X.mg "enumerate" = none) (a : AV X W [e] ga) (h1 : starEach [e] X.env = [(false, eval e X.env)] := by rfl) : IV X W (.Tuple elts kk tpos) (.Call (.Name "enumerate" p0) [e] [] p1) (iEnL ga) := by
  refine ⟨PI.imp (pi_enum hg hm a.pa h1) fun σ H R ⟨B, F, S, rel, p⟩ => ⟨B, F, S, rel, ?_⟩⟩
  unfold iEnL at p
  split at p
  · rename_i ds S' q
    rw [q]
    intro xs H1 F1 xt rel1 rv1
    match rv1 with
    | .cons h .nil =>
      have h : At X.K F1 H1 _ (.lst ds) := h
      cases h with
      | @lst a vs _ fa ha t =>
        have len : (enumL ds).length = vs.length := by rw [t.length]; simp [enumL]
        refine ⟨a, vs, rfl, .inl (.inl ha), p _ _ _ xt rel1 ⟨fun i F' H' e hi => ?_, fun F' H' e => ?_, fun i F' H' x H2 e hi y => ?_⟩⟩
        · rw [len] at hi
          exact ⟨vs, _, .inl (.inl (e.kp fa ha)), List.getElem?_eq_getElem hi⟩
        · exact ⟨vs, .inl (.inl (e.kp fa ha)), by rw [len]; exact Nat.le_refl _⟩
        · obtain ⟨T, x', rfl, hT, rfl, q⟩ := y
          obtain ⟨d, hd, ad⟩ := t.get (q vs (.inl (.inl (e.kp fa ha))))
          have k : ∀ b o, H' b = some o → upd H' T (.tup [.int (i : Nat), x']) b = some o := fun b o h => by rw [upd_ne (ne_of_none h hT)]; exact h
          refine ⟨fun b => F' b ∨ b = T, _, enumL_get hd, k, fun _ h => .inl h, fun b h => ?_, upd_nt (by intro ps z; cases z), .tup (.inr rfl) (.inl upd_same) (.cons (.int _) (.cons ((ad.ext e).ext ⟨fun _ h => .inl h, fun b o _ h _ => k b o h, fun c q h => k c _ h⟩) .nil))⟩
          rcases h with h | h
          · exact .inl h
          · rw [h]
            exact .inr ⟨hT, _, upd_same⟩
  · rename_i C fs S' q
    rw [q]
    exact p
  · exact p.elim

/-! ### for -/
variable {g : DS → Fl} {bd : D → DS → Fl} {body : List Stmt} {fi : DS → IOut}
def forS (fi : DS → IOut) (bd : D → DS → Fl) (b : DS → Fl) : DS → Fl := fun S => match fi S with
  | .ok ds S' => forD bd b ds S'
  | .exc C fs S' => .exc C fs S'
  | .stuck => .stuck
theorem sv_for (hp : PassesOwn (model X.prog X.w) X.A X.env X.xe) (hc : X.calm = true) (a : IV X W tg e fi) (t : GV X W tg bd) (b : SVs X W body g) (hs : ∀ x, foldedSetIterable e X.env x = pure x := by intro _; rfl) : SV X W (.For tg e body [] pos) (forS fi bd g) := by
  refine ⟨PS.imp (ps_for hp hc a.pi t.pg b.ps hs) fun E σ H ⟨B, F, S, rel, p⟩ => ⟨B, F, S, rel, ?_⟩⟩
  unfold forS at p
  cases q : fi S with
  | exc C fs S' => rw [q] at p; exact PoS.ex p
  | stuck => rw [q] at p; exact p
  | ok ds S' =>
    rw [q] at p
    intro J H1 F1 xt rel1 fd
    have p := PoS.ext xt.toExt p
    refine ⟨fun i m σ' H' => m = ds.length - i ∧ i ≤ ds.length ∧ Turned X.K W B F1 H1 E bd g ds i σ' H', ⟨_, rfl, Nat.zero_le _, F1, S', Ext.refl _ _, rel1, p⟩, ?_⟩
    rintro i m σ' H' ⟨rfl, hi, tt⟩
    by_cases hl : i < ds.length
    · obtain ⟨F2, S2, x2, rel2, p2⟩ := id tt
      refine .inr ⟨fd.go i F2 H' x2 hl, Turned X.K W B F1 H1 E bd g ds (i + 1), fun σ3 H3 t3 => ⟨ds.length - (i + 1), by omega, rfl, hl, t3⟩, fun x H3 y => ?_⟩
      obtain ⟨F0, d, hd, k, s1, s2, _⟩ := fd.yld i F2 H' x H3 x2 hl y
      refine turn_ok hd tt fun F4 S4 x4 rel4 => ?_
      obtain ⟨F5, d', hd', k5, s5, n5, nt5, at5⟩ := fd.yld i F4 H' x H3 x4 hl y
      rw [hd] at hd'
      cases hd'
      obtain ⟨x5, rel5⟩ := rel4.grow k5 s5 n5 nt5
      exact ⟨F5, x5.toExt, rel5, at5⟩
    · have : i = ds.length := by omega
      subst this
      obtain ⟨F2, S2, x2, rel2, p2⟩ := id tt
      exact .inl ⟨fd.stop F2 H' x2, turned_end tt⟩
end
end DL
namespace DL
open PySem PySem.Spec PyProof.Rows L2
variable [Nm]

/-! ### the own objects changed -/
section
variable {K : Fr} {W : WX} {B : Bs} {F F' : Addr → Prop} {H H' : Hp} {σ : St} {S S1 : DS} {E : Ends}
theorem Rel.mut {i : Nat} {a : Addr} {p : Bool} {d d' : D} {o : HO} (r : Rel K B F S σ H) (hi : S[i]? = some (.ow p d)) (ha : σ[i]? = some (some (.ref a))) (hd : ∀ F' H', Ext F H F' H' → H' a = some o → OwnAt K F' H' a d') :
    Ext F H F (upd H a o) ∧ Rel K B F (S.set i (.ow p d')) σ (upd H a o) := by
  have li : i < S.length := (List.getElem?_eq_some_iff.mp hi).1
  have nF : ¬ F a := by
    obtain ⟨o', h1, b, h2, h3, _⟩ := r.sl i _ hi
    rw [ha] at h1
    cases h1
    cases h2
    exact h3
  have e : Ext F H F (upd H a o) := ⟨fun _ h => h, fun b u f h _ => by
    rw [upd_ne (fun z => nF (by rw [← z]; exact f))]
    exact h, fun c q h => by
    rw [upd_ne fun z => ?_]
    · exact h
    · obtain ⟨o', h1, b, h2, _, h3⟩ := r.sl i _ hi
      rw [ha] at h1
      cases h1
      cases h2
      rw [z] at h
      cases d with
      | lst ds => obtain ⟨vs, h1, _⟩ := h3; rw [h] at h1; unfold LamX.CodeO at h1; cases h1
      | ins C fs => obtain ⟨dx, fvs, h1, _⟩ := h3; rw [h] at h1; unfold LamX.CodeO at h1; cases h1
      | _ => exact h3.elim⟩
  have back : ∀ {j : Nat} {q : Bool} {t : D}, (S.set i (.ow p d'))[j]? = some (.ow q t) → ∃ t', S[j]? = some (.ow q t') := by
    intro j q t h
    by_cases z : i = j
    · subst z
      rw [List.getElem?_set_self li] at h
      cases h
      exact ⟨d, hi⟩
    · rw [List.getElem?_set_ne z] at h
      exact ⟨t, h⟩
  have nt : ∀ ps, o ≠ .tbl ps := fun ps z => by
    have h := hd F (upd H a o) e upd_same
    rw [z] at h
    cases d' with
    | lst ds => obtain ⟨vs, h1, _⟩ := h; rw [upd_same] at h1; cases h1
    | ins C fs => obtain ⟨dx, fvs, h1, _⟩ := h; rw [upd_same] at h1; cases h1
    | _ => exact h.elim
  have nc : ∀ q, H a ≠ some (LamX.CodeO a q) := fun q z => by
    obtain ⟨o', h1, b, h2, _, h3⟩ := r.sl i _ hi
    rw [ha] at h1
    cases h1
    cases h2
    cases d with
    | lst ds => obtain ⟨vs, h1, _⟩ := h3; rw [z] at h1; cases h1
    | ins C fs => obtain ⟨dx, fvs, h1, _⟩ := h3; rw [z] at h1; cases h1
    | _ => exact h3.elim
  have ntb : ∀ ps, H a ≠ some (.tbl ps) := fun q z => by
    obtain ⟨o', h1, b, h2, _, h3⟩ := r.sl i _ hi
    rw [ha] at h1
    cases h1
    cases h2
    cases d with
    | lst ds => obtain ⟨vs, h1, _⟩ := h3; rw [z] at h1; cases h1
    | ins C fs => obtain ⟨dx, fvs, h1, _⟩ := h3; rw [z] at h1; cases h1
    | _ => exact h3.elim
  have tabsM : AllTabs (upd H a o) := r.tabs.of (fun c q h => by
    by_cases z : c = a
    · rw [z] at h
      exact absurd h (nc q)
    · rw [upd_ne z]
      exact h) (fun P ps h => by
    by_cases z : P = a
    · rw [z] at h
      exact absurd h (ntb ps)
    · rw [upd_ne z]
      exact h) (upd_nt nt)
  refine ⟨e, by rw [r.len, List.length_set], fun j s hs => ?_, fun j k b p q t u h1 h2 h3 h4 => ?_, fun b f => ?_, r.f0, r.new, fun b u h m => ?_, fun j b t h1 h2 => ?_, fun j b h => ?_, fun j b t h1 h2 => ?_, r.f0t, tabsM⟩
  · by_cases z : i = j
    · subst z
      rw [List.getElem?_set_self li] at hs
      cases hs
      exact ⟨_, ha, a, rfl, nF, hd F _ e upd_same⟩
    · rw [List.getElem?_set_ne z] at hs
      obtain ⟨u, hu, hsl⟩ := r.sl j s hs
      refine ⟨u, hu, ?_⟩
      cases s with
      | un => trivial
      | fr t => obtain ⟨v, h1, h2⟩ := hsl; exact ⟨v, h1, h2.ext e⟩
      | ow q t =>
        obtain ⟨b, rfl, h2, h3⟩ := hsl
        refine ⟨b, rfl, h2, h3.ext e fun w hw => ?_⟩
        rw [upd_ne (fun y => z (r.dis i j a _ _ _ _ hi hs ha (by rw [← y]; exact hu)))]
        exact hw
  · obtain ⟨t', h1⟩ := back h1
    obtain ⟨u', h2⟩ := back h2
    exact r.dis j k b _ _ _ _ h1 h2 h3 h4
  · obtain ⟨u, hu⟩ := r.trk b f
    exact ⟨u, by rw [upd_ne (fun z => nF (by rw [← z]; exact f))]; exact hu⟩
  · have nb : b ≠ a := fun z => by
      subst z
      cases p with
      | true => exact m i (r.onl i b d hi ha)
      | false =>
        rw [r.own i b d hi ha] at h
        cases h
    exact (r.keep b u h m).of fun w hw => by rw [upd_ne nb]; exact hw
  · obtain ⟨t', h1⟩ := back h1
    exact r.own j b t' h1 h2
  · obtain ⟨h1, t, h2⟩ := r.par j b h
    refine ⟨h1, ?_⟩
    by_cases z : i = j
    · subst z
      rw [hi] at h2
      cases h2
      exact ⟨d', List.getElem?_set_self li⟩
    · rw [List.getElem?_set_ne z]
      exact ⟨t, h2⟩
  · obtain ⟨t', h1⟩ := back h1
    exact r.onl j b t' h1 h2
/-- where an own slot's object is -/
theorem Rel.ownAt {i : Nat} {p : Bool} {d : D} (r : Rel K B F S σ H) (hi : S[i]? = some (.ow p d)) : ∃ a, σ[i]? = some (some (.ref a)) ∧ ¬ F a ∧ OwnAt K F H a d := by
  obtain ⟨o, h1, a, rfl, h3, h4⟩ := r.sl i _ hi
  exact ⟨a, h1, h3, h4⟩
end
/-- x.append(e), x in the own slot i -/
def appS (i : Nat) (g : DS → AOut) : DS → Fl := fun S => match g S with
  | .ok [.v d] S' => match S'[i]? with
    | some (.ow p (.lst ds)) => if ds.length < sizeLine then .nx (S'.set i (.ow p (.lst (ds ++ [d])))) else .stuck
    | _ => .stuck
  | .exc C fs S' => .exc C fs S'
  | _ => .stuck
def isLst (S : DS) (i : Nat) : Bool := match S[i]? with
  | some (.ow _ (.lst _)) => true
  | _ => false
theorem isLst_ok {S : DS} {i : Nat} (h : isLst S i = true) : ∃ p ds, S[i]? = some (.ow p (.lst ds)) := by
  unfold isLst at h
  split at h
  · exact ⟨_, _, by assumption⟩
  · cases h
def guardS (b : DS → Bool) (g : DS → Fl) : DS → Fl := fun S => if b S then g S else .stuck
section
variable {X : Cx} {W : WX} {e e1 : Expr} {es : List Expr} {f : DS → Out} {ga : DS → AOut} {pos apos cpos : Pos} {x : Str}
theorem sv_app (i : Nat) {px : Pos} (hv : PE X (.Name x px) (tVar i)) (a : AV X W [e] ga)
    (hb : attributeBase (.Name x px) "append" X.env (eval (.Name x px) X.env) = eval (.Name x px) X.env := by rfl) (few : ((backTo cpos (starEach [e] X.env)).all (fun z => !z.1) && (backToKw cpos (keywordEach [] X.env)).all (fun z => z.1.isSome) && decide ([e].length + ([] : List Keyword).length + (if ([] : List Keyword).isEmpty then 0 else 1) < 30)) = true := by rfl)
    (hline : (apos.endLine == cpos.line) = true := by rfl) (hs : starEach [e] X.env = (false, eval e X.env) :: starEach [] X.env := by rfl) (hsw : swapsWith (.Call (.Attribute (.Name x px) "append" apos) [e] [] cpos) none pos.line X.env = pure false := by rfl) :
    SV X W (.Expr (.Call (.Attribute (.Name x px) "append" apos) [e] [] cpos) pos) (guardS (isLst · i) (appS i ga)) := by
  refine ⟨PS.imp (ps_expr (pe_bm PySem.F.plainAttrs_list PySem.F.slot_list_append PySem.F.type_list_append mt_append hv a.pa hb few hline hs (by rfl)) hsw) fun E σ H ⟨B, F, S, rel, p⟩ => ?_⟩
  unfold guardS at p
  split at p
  · rename_i gl
    obtain ⟨q, ds, hS⟩ := isLst_ok gl
    · obtain ⟨a, h1, h2, vs, h3, h4⟩ := rel.ownAt hS
      refine ⟨_, h1, .inl ⟨rfl, vs, .inl (.inl h3)⟩, B, F, S, rel, ?_⟩
      unfold appS at p
      split at p
      · rename_i d S' q
        rw [q]
        intro xs H1 F1 xt rel1 rv1
        split at p
        · rename_i q' ds' hS'
          obtain ⟨b, g1, g2, ws, g3, g4⟩ := rel1.ownAt hS'
          rw [h1] at g1
          cases g1
          split at p
          · rename_i hl
            match rv1 with
            | .cons h .nil =>
              refine ⟨a, ws, _, rfl, rfl, g3, by rw [g4.length]; exact hl, ?_⟩
              obtain ⟨x2, rel2⟩ := rel1.mut hS' h1 (o := .lst (ws ++ [_])) (d' := .lst (ds' ++ [d])) fun F2 H2 x2 hh => ⟨_, hh, (g4.ext x2).append (.cons (At.ext x2 h) .nil)⟩
              exact p _ _ _ (xt.toExt.trans x2) rel2
          · exact p.elim
        · exact p.elim
      · rename_i C fs S' q
        rw [q]
        exact PoS.ex p
      · exact p.elim
  · exact p.elim
/-- x[..] = d, x in the own slot i -/
def subG (i : Nat) (f : DS → Out) : D → DS → Fl := fun d S => if isLst S i then (match f S with
  | .ok (.v (.int k)) S' => match S'[i]? with
    | some (.ow p (.lst ds)) => match ixN ds.length k with
      | some j => .nx (S'.set i (.ow p (.lst (ds.set j d))))
      | none => .stuck
    | _ => .stuck
  | _ => .stuck) else .stuck
theorem gv_sub (i : Nat) {px : Pos} (hv : PE X (.Name x px) (tVar i)) (b : EV X (fun _ _ _ _ => False) e f) (hc : ∀ C fs S S', f S ≠ .exc C fs S')
    (ha : ∀ v, assign (.Subscript (.Name x px) e pos) X.env v = (do
      let ov ← holding [v] (eval (.Name x px) X.env)
      let iv ← holding [v, ov] (eval e X.env)
      standAt pos
      holding [v, ov, iv] (setItem ov iv v)
      release [v, ov, iv] []) := by intro _; rfl) : GV X W (.Subscript (.Name x px) e pos) (subG i f) := by
  refine ⟨PG.imp (pg_sub hv b.pe set_list ha) fun v σ H Q ⟨B, F, S, d, rel, at', p⟩ => ?_⟩
  unfold subG at p
  by_cases gl : isLst S i = true
  · rw [if_pos gl] at p
    obtain ⟨q0, ds0, hS0⟩ := isLst_ok gl
    obtain ⟨a, g1, _, _⟩ := rel.ownAt hS0
    refine ⟨_, g1, B, F, S, rel, ?_⟩
    cases q : f S with
    | stuck => rw [q] at p; exact p.elim
    | exc C fs S' => exact absurd q (hc _ _ _ _)
    | ok r S' =>
      rw [q] at p
      intro y H1 F1 xt rel1 aty
      cases r with
      | v t =>
        cases t with
        | int k =>
          try dsimp only at p
          cases hS : S'[i]? with
          | none => rw [hS] at p; exact p.elim
          | some s =>
            rw [hS] at p
            cases s with
            | ow pb t =>
              cases t with
              | lst ds =>
                try dsimp only at p
                cases hj : ixN ds.length k with
                | none => rw [hj] at p; exact p.elim
                | some j =>
                  rw [hj] at p
                  try dsimp only at p
                  obtain ⟨b, h1, g2, ws, g3, g4⟩ := rel1.ownAt hS
                  rw [g1] at h1
                  cases h1
                  refine ⟨a, ws, k, j, rfl, At.intI aty, g3, by rw [g4.length]; exact hj, ?_⟩
                  obtain ⟨x2, rel2⟩ := rel1.mut hS g1 (o := .lst (ws.set j v)) (d' := .lst (ds.set j d)) fun F2 H2 x2 hh => ⟨_, hh, (g4.ext x2).set j (At.ext (xt.toExt.trans x2) at')⟩
                  exact p _ _ _ (xt.toExt.trans x2) rel2
              | _ => exact p.elim
            | _ => exact p.elim
        | _ => exact p.elim
      | _ => exact p.elim
  · rw [if_neg gl] at p
    exact p.elim
end
end DL
namespace DL
open PySem PySem.Spec PyProof.Rows L2
variable [Nm]

/-! ### target = value -/
def asgT (f : DS → Out) (bd : D → DS → Fl) : DS → Fl := fun S => match f S with
  | .ok (.v d) S' => match bd d S' with
    | .nx S2 => .nx S2
    | _ => .stuck
  | .exc C fs S' => .exc C fs S'
  | _ => .stuck
section
variable {X : Cx} {W : WX} {tg e : Expr} {f : DS → Out} {bd : D → DS → Fl} {pos : Pos}
theorem sv_asgT (a : EV X W e f) (t : GV X W tg bd) (hs : swapsWithSole [tg] e pos.line X.env = pure false := by rfl) (hw : swappedStores [tg] e X.env = pure none := by rfl) (h1 : (assignEach [tg] X.env).map (·.2) = [assign tg X.env] := by rfl) : SV X W (.Assign [tg] e pos) (asgT f bd) := by
  refine ⟨PS.imp (ps_asg a.pe t.pg hs hw h1) fun E σ H ⟨B, F, S, rel, p⟩ => ⟨B, F, S, rel, ?_⟩⟩
  unfold asgT at p
  split at p
  · rename_i d S' q
    rw [q]
    intro x H1 F1 xt rel1 v
    refine ⟨B, F1, S', d, rel1, v, ?_⟩
    split at p
    · rename_i S2 q2
      try rw [q2]
      exact fun σ2 H2 F2 x2 rel2 => p σ2 H2 F2 (xt.toExt.trans x2) rel2
    · exact p.elim
  · rename_i C fs S' q
    rw [q]
    exact PoS.ex p
  · exact p.elim
end

/-! ### comprehensions -/
def wipeS (S : DS) : List Nat → DS
  | [] => S
  | v :: vs => (wipeS S vs).set v .un
/-- no slot of ws is own -/
def okW (S : DS) (ws : List Nat) : Bool := ws.all fun i => match S[i]? with
  | some .un => true
  | some (.fr _) => true
  | _ => false
def restS (S0 S : DS) : List Nat → DS
  | [] => S
  | v :: vs => match S0[v]? with
    | some s => (restS S0 S vs).set v s
    | none => restS S0 S vs
theorem wipeS_len {S : DS} : ∀ {ws : List Nat}, (wipeS S ws).length = S.length
  | [] => rfl
  | v :: vs => by unfold wipeS; rw [List.length_set, wipeS_len]
theorem wipeS_out {S : DS} {i : Nat} : ∀ {ws : List Nat}, i ∉ ws → (wipeS S ws)[i]? = S[i]?
  | [], _ => rfl
  | v :: vs, h => by
    have h1 : v ≠ i := fun e => h (by rw [e]; exact List.mem_cons_self)
    have h2 : i ∉ vs := fun m => h (List.mem_cons_of_mem _ m)
    unfold wipeS
    rw [List.getElem?_set_ne h1, wipeS_out h2]
theorem wipeS_in {S : DS} {i : Nat} : ∀ {ws : List Nat}, i ∈ ws → i < S.length → (wipeS S ws)[i]? = some .un
  | [], h, _ => (List.not_mem_nil h).elim
  | v :: vs, h, hl => by
    unfold wipeS
    by_cases e : v = i
    · subst e
      rw [List.getElem?_set_self (by rw [wipeS_len]; exact hl)]
    · rw [List.getElem?_set_ne e]
      exact wipeS_in ((List.mem_cons.mp h).resolve_left (Ne.symm e)) hl
theorem wipe_in {σ : St} {i : Nat} : ∀ {ws : List Nat}, i ∈ ws → i < σ.length → (wipe σ ws)[i]? = some none
  | [], h, _ => (List.not_mem_nil h).elim
  | v :: vs, h, hl => by
    unfold wipe
    by_cases e : v = i
    · subst e
      rw [List.getElem?_set_self (by rw [wipe_length]; exact hl)]
    · rw [List.getElem?_set_ne e]
      exact wipe_in ((List.mem_cons.mp h).resolve_left (Ne.symm e)) hl
theorem okW_at {S : DS} {ws : List Nat} (h : okW S ws = true) {i : Nat} (hi : i ∈ ws) : ∃ s, S[i]? = some s ∧ (s = .un ∨ ∃ d, s = .fr d) := by
  have := List.all_eq_true.mp h i hi
  split at this
  · exact ⟨_, by assumption, .inl rfl⟩
  · exact ⟨_, by assumption, .inr ⟨_, rfl⟩⟩
  · cases this
theorem wipeS_own {S : DS} {ws : List Nat} {i : Nat} {p : Bool} {d : D} (h : (wipeS S ws)[i]? = some (.ow p d)) : i ∉ ws ∧ S[i]? = some (.ow p d) := by
  have li : i < S.length := by
    have := (List.getElem?_eq_some_iff.mp h).1
    rwa [wipeS_len] at this
  by_cases hi : i ∈ ws
  · rw [wipeS_in hi li] at h
    cases h
  · rw [wipeS_out hi] at h
    exact ⟨hi, h⟩
theorem restS_len {S0 S : DS} : ∀ {ws : List Nat}, (restS S0 S ws).length = S.length
  | [] => rfl
  | v :: vs => by
    unfold restS
    split
    · rw [List.length_set, restS_len]
    · exact restS_len
theorem restS_out {S0 S : DS} {i : Nat} : ∀ {ws : List Nat}, i ∉ ws → (restS S0 S ws)[i]? = S[i]?
  | [], _ => rfl
  | v :: vs, h => by
    have h1 : v ≠ i := fun e => h (by rw [e]; exact List.mem_cons_self)
    have h2 : i ∉ vs := fun m => h (List.mem_cons_of_mem _ m)
    unfold restS
    split
    · rw [List.getElem?_set_ne h1, restS_out h2]
    · exact restS_out h2
theorem restS_in {S0 S : DS} {i : Nat} {s : Sl} (h0 : S0[i]? = some s) (hl : i < S.length) : ∀ {ws : List Nat}, i ∈ ws → (restS S0 S ws)[i]? = some s
  | [], h => (List.not_mem_nil h).elim
  | v :: vs, h => by
    unfold restS
    by_cases e : v = i
    · subst e
      rw [h0]
      dsimp only
      rw [List.getElem?_set_self (by rw [restS_len]; exact hl)]
    · have h' := (List.mem_cons.mp h).resolve_left (Ne.symm e)
      split
      · rw [List.getElem?_set_ne e]
        exact restS_in h0 hl h'
      · exact restS_in h0 hl h'
section
variable {K : Fr} {W : WX} {B : Bs} {F F' : Addr → Prop} {H H' : Hp} {σ : St} {S S1 : DS} {E : Ends} {ws : List Nat}
/-- the block's names forgotten -/
theorem Rel.wipe (r : Rel K B F S σ H) (ok : okW S ws = true) : Rel K B F (wipeS S ws) (L2.wipe σ ws) H := by
  refine ⟨by rw [wipe_length, wipeS_len]; exact r.len, fun i s hs => ?_, fun i j a p q d e h1 h2 h3 h4 => ?_, r.trk, r.f0, r.new, r.keep, fun i a d h1 h2 => ?_, fun i a h => ?_, fun i a d h1 h2 => ?_, r.f0t, r.tabs⟩
  · have li : i < S.length := by
      have := (List.getElem?_eq_some_iff.mp hs).1
      rwa [wipeS_len] at this
    by_cases hi : i ∈ ws
    · rw [wipeS_in hi li] at hs
      cases hs
      exact ⟨none, wipe_in hi (by rw [r.len]; exact li), trivial⟩
    · rw [wipeS_out hi] at hs
      rw [wipe_out hi]
      exact r.sl i s hs
  · obtain ⟨n1, h1⟩ := wipeS_own h1
    obtain ⟨n2, h2⟩ := wipeS_own h2
    rw [wipe_out n1] at h3
    rw [wipe_out n2] at h4
    exact r.dis i j a p q d e h1 h2 h3 h4
  · obtain ⟨n1, h1⟩ := wipeS_own h1
    rw [wipe_out n1] at h2
    exact r.own i a d h1 h2
  · obtain ⟨h1, d, h2⟩ := r.par i a h
    have n : i ∉ ws := fun hi => by
      obtain ⟨s, e1, e2⟩ := okW_at ok hi
      rw [h2] at e1
      cases e1
      rcases e2 with e2 | ⟨_, e2⟩ <;> cases e2
    rw [wipe_out n, wipeS_out n]
    exact ⟨h1, d, h2⟩
  · obtain ⟨n1, h1⟩ := wipeS_own h1
    rw [wipe_out n1] at h2
    exact r.onl i a d h1 h2
theorem NotOwn.wipe {b : Addr} (n : NotOwn S σ b) : NotOwn (wipeS S ws) (L2.wipe σ ws) b := fun i p d h => by
  obtain ⟨n1, h1⟩ := wipeS_own h
  rw [wipe_out n1]
  exact n i p d h1
/-- back to the def's names -/
theorem Rel.rest {T : DS} {H1 : Hp} {F1 : Addr → Prop} (r1 : Rel K B F1 S1 σ H1) (ok : okW S1 ws = true) (r : Rel K B F T (L2.wipe σ ws) H) (x : Ext F1 H1 F H) (wT : ∀ i ∈ ws, ∀ p d, T[i]? ≠ some (.ow p d)) : Rel K B F (restS S1 T ws) σ H ∧ ∀ b, NotOwn T (L2.wipe σ ws) b → NotOwn (restS S1 T ws) σ b := by
  have lT : T.length = S1.length := by
    have e1 := r.len
    rw [wipe_length] at e1
    rw [← e1, r1.len]
  have own : ∀ {i : Nat} {p : Bool} {d : D}, (restS S1 T ws)[i]? = some (.ow p d) → i ∉ ws ∧ T[i]? = some (.ow p d) := by
    intro i p d h
    by_cases hi : i ∈ ws
    · obtain ⟨s, e1, e2⟩ := okW_at ok hi
      have li : i < S1.length := (List.getElem?_eq_some_iff.mp e1).1
      rw [restS_in e1 (by rw [lT]; exact li) hi] at h
      cases h
      rcases e2 with e2 | ⟨_, e2⟩ <;> cases e2
    · rw [restS_out hi] at h
      exact ⟨hi, h⟩
  refine ⟨⟨by rw [restS_len, lT]; exact r1.len, fun i s hs => ?_, fun i j a p q d e h1 h2 h3 h4 => ?_, r.trk, r.f0, r.new, r.keep, fun i a d h1 h2 => ?_, fun i a h => ?_, fun i a d h1 h2 => ?_, r.f0t, r.tabs⟩, fun b n i p d h => ?_⟩
  · by_cases hi : i ∈ ws
    · obtain ⟨s', e1, e2⟩ := okW_at ok hi
      have li : i < S1.length := (List.getElem?_eq_some_iff.mp e1).1
      rw [restS_in e1 (by rw [lT]; exact li) hi] at hs
      cases hs
      obtain ⟨o, ho, hsl⟩ := r1.sl i _ e1
      refine ⟨o, ho, ?_⟩
      rcases e2 with rfl | ⟨d, rfl⟩
      · trivial
      · obtain ⟨v, z1, z2⟩ := hsl
        exact ⟨v, z1, z2.ext x⟩
    · rw [restS_out hi] at hs
      have := r.sl i s hs
      rwa [wipe_out hi] at this
  · obtain ⟨n1, h1⟩ := own h1
    obtain ⟨n2, h2⟩ := own h2
    exact r.dis i j a p q d e h1 h2 (by rw [wipe_out n1]; exact h3) (by rw [wipe_out n2]; exact h4)
  · obtain ⟨n1, h1⟩ := own h1
    exact r.own i a d h1 (by rw [wipe_out n1]; exact h2)
  · obtain ⟨h1, d, h2⟩ := r.par i a h
    have n : i ∉ ws := fun hi => wT i hi _ _ h2
    rw [wipe_out n] at h1
    rw [restS_out n]
    exact ⟨h1, d, h2⟩
  · obtain ⟨n1, h1⟩ := own h1
    exact r.onl i a d h1 (by rw [wipe_out n1]; exact h2)
  · obtain ⟨n1, h1⟩ := own h
    have := n i p d h1
    rwa [wipe_out n1] at this
end
/-- values put into slots -/
def putV (σ : St) : List Nat → List V → St
  | i :: is, v :: vs => putV (σ.set i (some v)) is vs
  | _, _ => σ
def putD (S : DS) : List Nat → List D → DS
  | i :: is, d :: ds => putD (S.set i (.fr d)) is ds
  | _, _ => S
/-- a comprehension's target: a name, or names in a tuple; one: it is a name -/
def tN (K : Fr) (one : Bool) (is : List Nat) : TG := fun v σ H Q => ∃ vs : List V, (if one = true then vs = [v] else ∃ a, v = .ref a ∧ (SqT K H a vs ∨ SqL K H a vs)) ∧ vs.length = is.length ∧ Q (putV σ is vs) H
structure NV (X : Cx) (tg : Expr) (one : Bool) (is : List Nat) : Prop where
  pg : PG X tg (tN X.K one is)
section
variable {X : Cx} {W : WX} {tg e : Expr} {f : DS → Out} {pos : Pos} {x : Str}
theorem nv_name {i : Nat} (hN : X.N.Nodup) (hi : X.N[i]? = some x) (hx : Loc X.env.scope x) (hf : X.fn x = true ∨ X.env.scope.names.lookup x = some .local := by first | exact .inl rfl | exact .inr rfl) : NV X (.Name x pos) true [i] :=
  ⟨PG.imp (pg_name hN hi hx hf) fun v σ H Q ⟨vs, h1, _, q⟩ => by
    rw [if_pos rfl] at h1
    subst h1
    exact q⟩
/-- the names of a tuple -/
structure NVs (X : Cx) (ts : List Expr) (is : List Nat) : Prop where
  pg : PGs X ts (fun vs σ H Q => vs.length = is.length ∧ Q (putV σ is vs) H)
theorem nvs_nil : NVs X [] [] := ⟨PGs.imp pgs_nil fun vs σ H Q ⟨h, q⟩ => by
  have : vs = [] := List.length_eq_zero_iff.mp h
  subst this
  exact ⟨rfl, q⟩⟩
theorem nvs_cons {i : Nat} {is : List Nat} {ts : List Expr} (hN : X.N.Nodup) (hi : X.N[i]? = some x) (hx : Loc X.env.scope x) (b : NVs X ts is) (hs : (assignEach (.Name x pos :: ts) X.env).map (·.2) = assign (.Name x pos) X.env :: (assignEach ts X.env).map (·.2) := by rfl)
    (hf : X.fn x = true ∨ X.env.scope.names.lookup x = some .local := by first | exact .inl rfl | exact .inr rfl) : NVs X (.Name x pos :: ts) (i :: is) :=
  ⟨PGs.imp (pgs_cons (pg_name hN hi hx hf) b.pg hs) fun vs σ H Q ⟨h, q⟩ => by
    cases vs with
    | nil => cases h
    | cons v vs => exact ⟨v, vs, rfl, by simpa using h, q⟩⟩
theorem nv_tup {ts : List Expr} {is : List Nat} {k : Nat} (hc : X.calm = true) (b : NVs X ts is) (hn : (assignEach ts X.env).length = is.length := by rfl) (hst : (assignEach ts X.env).findIdx? (·.1) = none := by rfl) : NV X (.Tuple ts k pos) false is := by
  refine ⟨⟨fun pins s σ H v u Q I r ⟨vs, h1, h2, q⟩ => ?_⟩⟩
  rw [if_neg Bool.false_ne_true] at h1
  obtain ⟨a, e, h1⟩ := h1
  subst e
  rcases h1 with h1 | h1
  · exact (pg_tup (n := is.length) hc b.pg hn hst).run pins s σ H _ u Q I r ⟨a, vs, rfl, h1, h2, h2, q⟩
  · exact (pg_unl (n := is.length) hc b.pg hn hst).run pins s σ H _ u Q I r ⟨a, vs, rfl, h1, h2, h2, q⟩
/-- a comprehension's tests -/
structure CV (X : Cx) (ifs : List Expr) (f : DS → Out) : Prop where
  pt : PTs X ifs (tB (tE X.K (fun _ _ _ _ => False) f))
theorem cv_nil : CV X [] (cst (.bl true)) := ⟨⟨fun pins s σ H Q I ⟨B, F, S, rel, p⟩ => by
  obtain ⟨c, z, q⟩ := PoOk.val p rel (.bl true)
  cases z
  exact pts_nil.run pins s σ H Q I q⟩⟩
theorem cv_one (a : TV X (fun _ _ _ _ => False) e f) : CV X [e] f := ⟨pts_one a.pt⟩
end
def bindD (one : Bool) (is : List Nat) (d : D) (T : DS) : Option DS := if one then (if is.length = 1 then some (putD T is [d]) else none) else (match d with
  | .tup ds => if ds.length = is.length then some (putD T is ds) else none
  | .lst ds => if ds.length = is.length then some (putD T is ds) else none
  | _ => none)
section
variable {K : Fr} {B : Bs} {F : Addr → Prop} {H : Hp} {τ : St} {T : DS}
theorem putV_len : ∀ {σ : St} {is : List Nat} {vs : List V}, (putV σ is vs).length = σ.length
  | _, [], _ => by simp [putV]
  | _, _ :: _, [] => by simp [putV]
  | _, i :: is, v :: vs => by unfold putV; rw [putV_len, List.length_set]
theorem wipe_set {σ : St} {i : Nat} {o : Option V} {ws : List Nat} (h : i ∈ ws) : wipe (σ.set i o) ws = wipe σ ws := by
  apply List.ext_getElem?
  intro j
  by_cases hj : j ∈ ws
  · by_cases hl : j < σ.length
    · rw [wipe_in hj hl, wipe_in hj (by rw [List.length_set]; exact hl)]
    · rw [List.getElem?_eq_none (by rw [wipe_length, List.length_set]; omega), List.getElem?_eq_none (by rw [wipe_length]; omega)]
  · rw [wipe_out hj, wipe_out hj, List.getElem?_set_ne (fun z => hj (by rw [← z]; exact h))]
theorem wipe_putV : ∀ {σ : St} {is : List Nat} {vs : List V} {ws : List Nat}, (∀ i ∈ is, i ∈ ws) → wipe (putV σ is vs) ws = wipe σ ws
  | _, [], _, _, _ => by simp [putV]
  | _, _ :: _, [], _, _ => by simp [putV]
  | _, i :: is, v :: vs, ws, h => by
    unfold putV
    rw [wipe_putV fun j hj => h j (List.mem_cons_of_mem _ hj), wipe_set (h i List.mem_cons_self)]
theorem wipe_wipe {σ : St} {ws : List Nat} : wipe (wipe σ ws) ws = wipe σ ws := by
  apply List.ext_getElem?
  intro j
  by_cases hj : j ∈ ws
  · by_cases hl : j < σ.length
    · rw [wipe_in hj hl, wipe_in hj (by rw [wipe_length]; exact hl)]
    · rw [List.getElem?_eq_none (by rw [wipe_length, wipe_length]; omega), List.getElem?_eq_none (by rw [wipe_length]; omega)]
  · rw [wipe_out hj]
/-- the names bound -/
theorem Rel.putV : ∀ {is : List Nat} {vs : List V} {ds : List D} {τ : St} {T : DS}, Rel K B F T τ H → (∀ i ∈ is, ∃ s, T[i]? = some s ∧ (s = .un ∨ ∃ d, s = .fr d)) → Ats K F H vs ds →
    Rel K B F (putD T is ds) (DL.putV τ is vs) H ∧ ∀ b, NotOwn T τ b → NotOwn (putD T is ds) (DL.putV τ is vs) b
  | [], _, _, _, _, r, _, _ => by
    unfold putD DL.putV
    exact ⟨r, fun _ n => n⟩
  | i :: is, _, _, τ, T, r, h, .nil => by
    unfold putD DL.putV
    exact ⟨r, fun _ n => n⟩
  | i :: is, _, _, τ, T, r, h, @Ats.cons _ _ _ v d vs ds a t => by
    unfold putD DL.putV
    obtain ⟨s, e1, e2⟩ := h i List.mem_cons_self
    have li : i < T.length := (List.getElem?_eq_some_iff.mp e1).1
    have fs : freeSl T i = true := by
      unfold freeSl
      rw [e1]
      rcases e2 with rfl | ⟨_, rfl⟩ <;> rfl
    have r1 := r.setV (s := .fr d) fs a
    obtain ⟨r2, n2⟩ := Rel.putV (is := is) r1 (fun j hj => by
      by_cases z : i = j
      · subst z
        exact ⟨_, List.getElem?_set_self li, .inr ⟨d, rfl⟩⟩
      · rw [List.getElem?_set_ne z]
        exact h j (List.mem_cons_of_mem _ hj)) t
    refine ⟨r2, fun b n => n2 b fun j p e hj => ?_⟩
    by_cases z : i = j
    · subst z
      rw [List.getElem?_set_self li] at hj
      cases hj
    · rw [List.getElem?_set_ne z] at hj
      rw [List.getElem?_set_ne z]
      exact n j p e hj
end
end DL
namespace DL
open PySem PySem.Spec PyProof.Rows L2
variable [Nm]

theorem Still.lst {H : Hp} {b : Addr} {vs : List V} (h : Still H b (.lst vs)) : H b = some (.lst vs) := by
  rcases h with h | ⟨ps, ps', h, _⟩
  · exact h
  · cases h
/-- within a comprehension: the base (F1, H1, T0, τ0), the new list at Da with acc, the trees done -/
structure LcS (K : Fr) (B : Bs) (F1 : Addr → Prop) (H1 : Hp) (T0 : DS) (τ0 : St) (Da : Addr) (F : Addr → Prop) (H : Hp) (T : DS) (σ : St) (acc : List V) (done : List D) : Prop where
  xt : Ext F1 H1 F H
  still : ∀ b o, b ≠ Da → H1 b = some o → NotOwn T0 τ0 b → Still H b o
  own : ∀ b, NotOwn T0 τ0 b → NotOwn T σ b
  new : ∀ a, F a → F1 a ∨ H1 a = none
  there : ∀ b o, H1 b = some o → ∃ o', H b = some o'
  rel : Rel K B F T σ H
  at_ : H Da = some (.lst acc)
  nF : ¬ F Da
  nB : B.H0 Da = none
  nO : NotOwn T σ Da
  ats : Ats K F H acc done
section
variable {K : Fr} {B : Bs} {F1 : Addr → Prop} {H1 : Hp} {T0 : DS} {τ0 : St} {Da : Addr} {F F' : Addr → Prop} {H H' : Hp} {T T' : DS} {σ : St} {acc : List V} {done : List D}
theorem LcS.step (I : LcS K B F1 H1 T0 τ0 Da F H T σ acc done) (x : Xt σ T F H T' F' H') (r : Rel K B F' T' σ H') : LcS K B F1 H1 T0 τ0 Da F' H' T' σ acc done := by
  refine ⟨I.xt.trans x.toExt, fun b o hd hb n => ?_, fun b n => x.own b (I.own b n), fun a h => ?_, fun b o h => ?_, r, (x.rest Da _ I.at_ I.nO).lst, fun z => ?_, I.nB, x.own Da I.nO, I.ats.ext x.toExt⟩
  · rcases I.still b o hd hb n with h | ⟨ps, ps', e, h⟩
    · exact x.rest b o h (I.own b n)
    · rcases x.rest b _ h (I.own b n) with y | ⟨qs, qs', _, y⟩
      · exact .inr ⟨ps, ps', e, y⟩
      · exact .inr ⟨ps, qs', e, y⟩
  · rcases x.new a h with z | z
    · exact I.new a z
    · refine .inr ?_
      cases w : H1 a with
      | none => rfl
      | some o =>
        obtain ⟨o', y⟩ := I.there a o w
        rw [z] at y
        cases y
  · obtain ⟨o', y⟩ := I.there b o h
    exact x.there b o' y
  · rcases x.new Da z with z | z
    · exact I.nF z
    · rw [I.at_] at z
      cases z
/-- an item behind the list -/
theorem LcS.app {y : V} {d : D} (I : LcS K B F1 H1 T0 τ0 Da F H T σ acc done) (a : At K F H y d) : LcS K B F1 H1 T0 τ0 Da F (upd H Da (.lst (acc ++ [y]))) T σ (acc ++ [y]) (done ++ [d]) := by
  have k : ∀ b o, b ≠ Da → H b = some o → upd H Da (.lst (acc ++ [y])) b = some o := fun b o n h => by rw [upd_ne n]; exact h
  have nd : ∀ b, F b → b ≠ Da := fun b f z => I.nF (by rw [← z]; exact f)
  have e : Ext F H F (upd H Da (.lst (acc ++ [y]))) := ⟨fun _ h => h, fun b o f h _ => k b o (nd b f) h, fun c q h => k c _ (fun z => by rw [z, I.at_] at h; unfold LamX.CodeO at h; cases h) h⟩
  refine ⟨I.xt.trans e, fun b o hd hb n => (I.still b o hd hb n).of fun w hw => k b w hd hw, I.own, I.new, fun b o h => ?_, ?_, upd_same, I.nF, I.nB, I.nO, (I.ats.ext e).append (.cons (a.ext e) .nil)⟩
  · by_cases z : b = Da
    · rw [z]
      exact ⟨_, upd_same⟩
    · obtain ⟨o', y⟩ := I.there b o h
      exact ⟨o', k b o' z y⟩
  · have r := I.rel
    have tabsA : AllTabs (upd H Da (.lst (acc ++ [y]))) := r.tabs.of (fun c q h => by
      by_cases z : c = Da
      · rw [z, I.at_] at h
        cases h
      · rw [upd_ne z]
        exact h) (fun P ps h => by
      by_cases z : P = Da
      · rw [z, I.at_] at h
        cases h
      · rw [upd_ne z]
        exact h) (upd_nt (by intro ps z; cases z))
    refine ⟨r.len, fun j s hs => ?_, r.dis, fun b fb => ?_, r.f0, r.new, fun b o hb hm => ?_, r.own, r.par, r.onl, r.f0t, tabsA⟩
    · obtain ⟨o, ho, hsl⟩ := r.sl j s hs
      refine ⟨o, ho, ?_⟩
      cases s with
      | un => trivial
      | fr t => obtain ⟨v, z1, z2⟩ := hsl; exact ⟨v, z1, z2.ext e⟩
      | ow pb t =>
        obtain ⟨b, rfl, z2, z3⟩ := hsl
        have nb : b ≠ Da := fun z => I.nO j pb t hs (by rw [← z]; exact ho)
        exact ⟨b, rfl, z2, z3.ext e fun w hw' => k b w nb hw'⟩
    · obtain ⟨o, ho⟩ := r.trk b fb
      exact ⟨o, k b o (nd b fb) ho⟩
    · have nb : b ≠ Da := fun z => by
        rw [z, I.nB] at hb
        cases hb
      exact (r.keep b o hb hm).of fun w hw' => k b w nb hw'
theorem LcS.wipe {ws : List Nat} (I : LcS K B F1 H1 T0 τ0 Da F H T σ acc done) (ok : okW T ws = true) : LcS K B F1 H1 T0 τ0 Da F H (wipeS T ws) (L2.wipe σ ws) acc done :=
  ⟨I.xt, I.still, fun b n => (I.own b n).wipe, I.new, I.there, I.rel.wipe ok, I.at_, I.nF, I.nB, I.nO.wipe, I.ats⟩
/-- new things laid -/
theorem LcS.grow (I : LcS K B F1 H1 T0 τ0 Da F H T σ acc done) (k : ∀ b o, H b = some o → H' b = some o) (sub : ∀ a, F a → F' a) (nw : ∀ a, F' a → F a ∨ (H a = none ∧ ∃ o, H' a = some o)) (nt : ∀ P ps, H' P = some (.tbl ps) → H P = some (.tbl ps)) : LcS K B F1 H1 T0 τ0 Da F' H' T σ acc done := by
  obtain ⟨x, r⟩ := I.rel.grow k sub nw nt
  exact I.step x r
theorem LcS.bind {is : List Nat} {vs : List V} {ds : List D} (I : LcS K B F1 H1 T0 τ0 Da F H T σ acc done) (h : ∀ i ∈ is, ∃ s, T[i]? = some s ∧ (s = .un ∨ ∃ d, s = .fr d)) (a : Ats K F H vs ds) : LcS K B F1 H1 T0 τ0 Da F H (putD T is ds) (putV σ is vs) acc done := by
  obtain ⟨r, n⟩ := I.rel.putV h a
  exact ⟨I.xt, I.still, fun b z => n b (I.own b z), I.new, I.there, r, I.at_, I.nF, I.nB, n Da I.nO, I.ats⟩
end
/-- the turns; tn: what one turn adds, and its state behind -/
def lcG (one : Bool) (is ws : List Nat) (tn : DS → Option (List D × DS)) : List D → DS → Option (List D × DS)
  | [], T => some ([], T)
  | d :: ds, T => match bindD one is d T with
    | none => none
    | some T1 => match tn T1 with
      | none => none
      | some (y, T3) => if okW T3 ws then (match lcG one is ws tn ds (wipeS T3 ws) with
        | some (ys, T4) => some (y ++ ys, T4)
        | none => none) else none
/-- one item, if the test says so -/
def elemT (c f : DS → Out) : DS → Option (List D × DS) := fun T1 => match c T1 with
  | .ok (.v (.bl true)) T2 => match f T2 with
    | .ok (.v y) T3 => some ([y], T3)
    | _ => none
  | .ok (.v (.bl false)) T2 => some ([], T2)
  | _ => none
/-- the second clause's own turns -/
def innT (c : DS → Out) (fi : DS → IOut) (one : Bool) (is ws : List Nat) (tn : DS → Option (List D × DS)) : DS → Option (List D × DS) := fun T1 => match c T1 with
  | .ok (.v (.bl true)) T2 => match fi T2 with
    | .ok ds S1 => if okW S1 ws && is.all (fun i => ws.contains i) then lcG one is ws tn ds (wipeS S1 ws) else none
    | _ => none
  | .ok (.v (.bl false)) T2 => some ([], T2)
  | _ => none
def compG (one : Bool) (is ws : List Nat) (fi : DS → IOut) (tn : DS → Option (List D × DS)) : DS → Out := fun S => match fi S with
  | .ok ds S1 => if okW S1 ws && is.all (fun i => ws.contains i) then (match lcG one is ws tn ds (wipeS S1 ws) with
    | some (ys, T) => if ys.length ≤ sizeLine then .ok (.ow (.lst ys)) (restS S1 T ws) else .stuck
    | none => .stuck) else .stuck
  | .exc C fs S' => .exc C fs S'
  | .stuck => .stuck
def compD (one : Bool) (is ws : List Nat) (fi : DS → IOut) (c f : DS → Out) : DS → Out := compG one is ws fi (elemT c f)
abbrev W0 : WX := fun _ _ _ _ => False
/-- one turn, as the rule for comprehensions asks for it -/
def TurnOk (K : Fr) (B : Bs) (F1 : Addr → Prop) (H1 : Hp) (T0 : DS) (τ0 : St) (Da : Addr) (ws : List Nat) (tn : DS → Option (List D × DS)) (P : St → (Hp → Prop) → Hp → Prop) : Prop :=
  ∀ (σ : St) (F : Addr → Prop) (H : Hp) (T : DS) (acc : List V) (done ys : List D) (T3 : DS) (Nx : Hp → Prop), LcS K B F1 H1 T0 τ0 Da F H T σ acc done → tn T = some (ys, T3) → done.length + ys.length ≤ sizeLine →
    (∀ F' H' acc' σ3, wipe σ3 ws = wipe σ ws → Ext F H F' H' → LcS K B F1 H1 T0 τ0 Da F' H' T3 σ3 acc' (done ++ ys) → Nx H') → P σ Nx H
section
variable {K : Fr} {B : Bs} {F1 : Addr → Prop} {H1 : Hp} {T0 : DS} {τ0 : St} {Da : Addr} {F : Addr → Prop} {H : Hp} {T Tend : DS} {σ : St} {acc : List V} {done ys : List D} {one : Bool} {is ws : List Nat} {tn : DS → Option (List D × DS)} {P : St → (Hp → Prop) → Hp → Prop}
theorem lc_loop {J : It} {ds : List D} {Ff : Addr → Prop} {Hf : Hp} {Fin : Hp → Prop} (fd : Feeds K Ff Hf J ds) (I0 : LcS K B F1 H1 T0 τ0 Da F H T (wipe σ ws) acc done) (w0 : ∀ j ∈ ws, T[j]? = some .un) (e0 : Ext Ff Hf F H) (go : lcG one is ws tn ds T = some (ys, Tend)) (bd : done.length + ys.length ≤ sizeLine)
    (sub : ∀ i ∈ is, i ∈ ws) (ht : TurnOk K B F1 H1 T0 τ0 Da ws tn P) (fin : ∀ F' H' acc', Ext F H F' H' → LcS K B F1 H1 T0 τ0 Da F' H' Tend (wipe σ ws) acc' (done ++ ys) → (∀ j ∈ ws, Tend[j]? = some .un) → Fin H') :
    ∃ W : Nat → Nat → Hp → Prop, (∃ m, W 0 m H) ∧ ∀ i m H, W i m H → (J.stop i H ∧ Fin H) ∨ (J.go i H ∧ ∃ Nx : Hp → Prop, (∀ H', Nx H' → ∃ m', m' < m ∧ W (i + 1) m' H') ∧ ∀ x H', J.yld i H x H' → tN K one is x (wipe σ ws) H' fun σ2 H2 => wipe σ2 ws = wipe σ ws ∧ P σ2 Nx H2) := by
  refine ⟨fun i m H' => m = ds.length - i ∧ i ≤ ds.length ∧ ∃ F' T' acc' done' rest, Ext F H F' H' ∧ LcS K B F1 H1 T0 τ0 Da F' H' T' (wipe σ ws) acc' done' ∧ (∀ j ∈ ws, T'[j]? = some .un) ∧ lcG one is ws tn (ds.drop i) T' = some (rest, Tend) ∧ done ++ ys = done' ++ rest,
    ⟨_, rfl, Nat.zero_le _, F, T, acc, done, ys, Ext.refl F H, I0, w0, go, rfl⟩, ?_⟩
  rintro i m H' ⟨rfl, hi, F', Ti, acc', done', rest, x, I, wI, g, eq⟩
  by_cases hl : i < ds.length
  · refine .inr ⟨fd.go i F' H' (e0.trans x) hl, fun H2 => ∃ F2 T2 acc2 done2 rest2, Ext F H F2 H2 ∧ LcS K B F1 H1 T0 τ0 Da F2 H2 T2 (wipe σ ws) acc2 done2 ∧ (∀ j ∈ ws, T2[j]? = some .un) ∧ lcG one is ws tn (ds.drop (i + 1)) T2 = some (rest2, Tend) ∧ done ++ ys = done2 ++ rest2, fun H2 z => ⟨_, by omega, rfl, hl, z⟩, fun v H3 y => ?_⟩
    obtain ⟨F3, d, hd, k3, s3, n3, nt3, at3⟩ := fd.yld i F' H' v H3 (e0.trans x) hl y
    have I3 := I.grow k3 s3 n3 nt3
    have e : ds.drop i = d :: ds.drop (i + 1) := by
      rw [List.drop_eq_getElem_cons hl]
      rw [List.getElem?_eq_getElem hl] at hd
      cases hd
      rfl
    rw [e] at g
    simp only [lcG] at g
    cases qb : bindD one is d Ti with
    | none => rw [qb] at g; cases g
    | some T1 =>
      rw [qb] at g
      dsimp only at g
      have wTi : ∀ j ∈ is, ∃ s, Ti[j]? = some s ∧ (s = .un ∨ ∃ d, s = .fr d) := fun j hj => ⟨_, wI j (sub j hj), .inl rfl⟩
      obtain ⟨vs, hv1, hv2, es, hT1, hes⟩ : ∃ vs : List V, (if one = true then vs = [v] else ∃ a, v = .ref a ∧ (SqT K H3 a vs ∨ SqL K H3 a vs)) ∧ vs.length = is.length ∧ ∃ es, T1 = putD Ti is es ∧ Ats K F3 H3 vs es := by
        unfold bindD at qb
        cases one with
        | true =>
          rw [if_pos rfl] at qb
          split at qb
          · rename_i h1
            cases qb
            exact ⟨[v], by rw [if_pos rfl], h1.symm, [d], rfl, .cons at3 .nil⟩
          · cases qb
        | false =>
          rw [if_neg Bool.false_ne_true] at qb
          cases d with
          | tup es =>
            dsimp only at qb
            split at qb
            · rename_i h1
              cases qb
              obtain ⟨a, vs, rfl, h2, h3⟩ := at3.tupI
              exact ⟨vs, by rw [if_neg Bool.false_ne_true]; exact ⟨a, rfl, .inl h2⟩, by rw [h3.length, h1], es, rfl, h3⟩
            · cases qb
          | lst es =>
            dsimp only at qb
            split at qb
            · rename_i h1
              cases qb
              obtain ⟨a, vs, rfl, h2, h3⟩ := at3.lstI
              exact ⟨vs, by rw [if_neg Bool.false_ne_true]; exact ⟨a, rfl, .inr (.inl (.inl h2))⟩, by rw [h3.length, h1], es, rfl, h3⟩
            · cases qb
          | _ => cases qb
      subst hT1
      refine ⟨vs, hv1, hv2, ?_⟩
      have hw : wipe (putV (wipe σ ws) is vs) ws = wipe σ ws := by rw [wipe_putV sub, wipe_wipe]
      refine ⟨hw, ?_⟩
      have I4 := I3.bind wTi hes
      cases qt : tn (putD Ti is es) with
      | none => rw [qt] at g; cases g
      | some r =>
        obtain ⟨y1, T3⟩ := r
        rw [qt] at g
        dsimp only at g
        split at g
        · rename_i ok3
          cases q4 : lcG one is ws tn (ds.drop (i + 1)) (wipeS T3 ws) with
          | none => rw [q4] at g; cases g
          | some r4 =>
            obtain ⟨ys4, T4⟩ := r4
            rw [q4] at g
            cases g
            have len : done.length + ys.length = done'.length + (y1.length + ys4.length) := by
              have := congrArg List.length eq
              simpa using this
            refine ht _ F3 H3 _ acc' done' y1 T3 _ I4 qt (by omega) fun F5 H5 acc5 σ3 hσ x5 I5 => ?_
            have I6 := I5.wipe ok3
            rw [hσ, hw] at I6
            refine ⟨F5, wipeS T3 ws, acc5, done' ++ y1, ys4, (x.trans ⟨s3, fun a o f h _ => k3 a o h, fun c q h => k3 c _ h⟩).trans x5, I6, fun j hj => ?_, q4, by rw [eq, List.append_assoc]⟩
            obtain ⟨s, e1, _⟩ := okW_at ok3 hj
            exact wipeS_in hj (List.getElem?_eq_some_iff.mp e1).1
        · cases g
  · have hi' : i = ds.length := by omega
    subst hi'
    refine .inl ⟨fd.stop F' H' (e0.trans x), ?_⟩
    rw [List.drop_length] at g
    simp only [lcG] at g
    cases g
    refine fin F' H' acc' x ?_ wI
    rw [eq, List.append_nil]
    exact I
/-- the last clause's turn -/
abbrev PEl (K : Fr) (Da : Addr) (c f : DS → Out) : St → (Hp → Prop) → Hp → Prop := fun σ Nx H => tB (tE K W0 c) σ H fun b H3 => if b = true then tE K W0 f σ H3 fun y H4 => ∃ acc, H4 Da = some (.lst acc) ∧ acc.length < sizeLine ∧ Nx (upd H4 Da (.lst (acc ++ [y]))) else Nx H3
theorem turn_elem {c f : DS → Out} {ws : List Nat} : TurnOk K B F1 H1 T0 τ0 Da ws (elemT c f) (PEl K Da c f) := by
  intro σ F H T acc done ys T3 Nx I go bd nx
  refine ⟨B, F, T, I.rel, ?_⟩
  unfold elemT at go
  cases qc : c T with
  | stuck => rw [qc] at go; cases go
  | exc C fs S' => rw [qc] at go; cases go
  | ok r T2 =>
    rw [qc] at go
    intro v H4 F4 x4 rel5 rv
    have I4 := I.step x4 rel5
    cases r with
    | v t =>
      cases t with
      | bl bb =>
        refine ⟨bb, At.blI rv, ?_⟩
        cases bb with
        | true =>
          refine iteT ⟨B, F4, T2, rel5, ?_⟩
          dsimp only at go
          cases qf : f T2 with
          | stuck => rw [qf] at go; cases go
          | exc C fs S' => rw [qf] at go; cases go
          | ok r3 T5 =>
            rw [qf] at go
            cases r3 with
            | v yd =>
              cases go
              intro y5 H5 F5 x5 rel6 aty
              have I5 := I4.step x5 rel6
              refine ⟨acc, I5.at_, ?_, nx F5 _ _ σ rfl (x4.toExt.trans (x5.toExt.trans ⟨fun _ h => h, fun b o fb h _ => ?_, fun c q h => by rw [upd_ne fun z => by rw [z, I5.at_] at h; unfold LamX.CodeO at h; cases h]; exact h⟩)) (I5.app aty)⟩
              · have := I.ats.length
                simp at bd
                omega
              · rw [upd_ne fun z => I5.nF (by rw [← z]; exact fb)]
                exact h
            | _ => cases go
        | false =>
          cases go
          refine iteF (nx F4 H4 acc σ rfl x4.toExt ?_)
          rw [List.append_nil]
          exact I4
      | _ => cases go
    | _ => cases go
theorem wipe_sub {ws vs : List Nat} {σ : St} (h : ∀ i ∈ vs, i ∈ ws) : wipe (wipe σ vs) ws = wipe σ ws := by
  apply List.ext_getElem?
  intro j
  by_cases hj : j ∈ ws
  · by_cases hl : j < σ.length
    · rw [wipe_in hj hl, wipe_in hj (by rw [wipe_length]; exact hl)]
    · rw [List.getElem?_eq_none (by rw [wipe_length, wipe_length]; omega), List.getElem?_eq_none (by rw [wipe_length]; omega)]
  · rw [wipe_out hj, wipe_out hj, wipe_out fun z => hj (h j z)]
/-- the first of two clauses -/
abbrev PIn (K : Fr) (Da : Addr) (c : DS → Out) (fi : DS → IOut) (one : Bool) (is vs : List Nat) (c1 f : DS → Out) : St → (Hp → Prop) → Hp → Prop := fun σ Nx H => tB (tE K W0 c) σ H fun b H3 => if b = true then tI K W0 fi σ H3 fun J1 H4 => ∃ W1 : Nat → Nat → Hp → Prop, (∃ m, W1 0 m H4) ∧ ∀ j k H, W1 j k H →
      (J1.stop j H ∧ Nx H) ∨ (J1.go j H ∧ ∃ Nx1 : Hp → Prop, (∀ H', Nx1 H' → ∃ k', k' < k ∧ W1 (j + 1) k' H') ∧ ∀ x H', J1.yld j H x H' → tN K one is x (wipe σ vs) H' fun σ3 H5 => wipe σ3 vs = wipe σ vs ∧ PEl K Da c1 f σ3 Nx1 H5) else Nx H3
theorem turn_inn {c : DS → Out} {fi : DS → IOut} {c1 f : DS → Out} {vs ws : List Nat} (sv : ∀ i ∈ vs, i ∈ ws) : TurnOk K B F1 H1 T0 τ0 Da ws (innT c fi one is vs (elemT c1 f)) (PIn K Da c fi one is vs c1 f) := by
  intro σ F H T acc done ys T3 Nx I go bd nx
  refine ⟨B, F, T, I.rel, ?_⟩
  unfold innT at go
  cases qc : c T with
  | stuck => rw [qc] at go; cases go
  | exc C fs S' => rw [qc] at go; cases go
  | ok r T2 =>
    rw [qc] at go
    intro v H4 F4 x4 rel5 rv
    have I4 := I.step x4 rel5
    cases r with
    | v t =>
      cases t with
      | bl bb =>
        refine ⟨bb, At.blI rv, ?_⟩
        cases bb with
        | true =>
          refine iteT ⟨B, F4, T2, rel5, ?_⟩
          dsimp only at go
          cases qf : fi T2 with
          | stuck => rw [qf] at go; cases go
          | exc C fs S' => rw [qf] at go; cases go
          | ok ds S1 =>
            rw [qf] at go
            dsimp only at go
            intro J H5 F5 x5 rel6 fd
            have I5 := I4.step x5 rel6
            split at go
            · rename_i cond
              have c1 := Bool.and_eq_true_iff.mp cond
              have I6 := I5.wipe c1.1
              refine lc_loop fd I6 (fun j hj => ?_) (Ext.refl F5 H5) go bd (fun i hi => by simpa using List.all_eq_true.mp c1.2 i hi) turn_elem fun F7 H7 acc7 x7 I7 _ => nx F7 H7 acc7 _ (wipe_sub sv) ((x4.toExt.trans x5.toExt).trans x7) I7
              obtain ⟨s, e1, _⟩ := okW_at c1.1 hj
              exact wipeS_in hj (List.getElem?_eq_some_iff.mp e1).1
            · cases go
        | false =>
          cases go
          refine iteF (nx F4 H4 acc σ rfl x4.toExt ?_)
          rw [List.append_nil]
          exact I4
      | _ => cases go
    | _ => cases go
/-- the whole, for any kind of turn -/
theorem comp_of {W : WX} {fi : DS → IOut} {Q : VK} {PP : Addr → St → (Hp → Prop) → Hp → Prop} (ht : ∀ B F1 H1 T0 Da, TurnOk K B F1 H1 T0 (wipe σ ws) Da ws tn (PP Da)) (h : tE K W (compG one is ws fi tn) σ H Q) :
    tI K W fi σ H fun J H1 => ∀ Da, H1 Da = none → ∃ W : Nat → Nat → Hp → Prop, (∃ m, W 0 m (upd H1 Da (.lst []))) ∧ ∀ i m H, W i m H →
      (J.stop i H ∧ Q (.ref Da) H) ∨ (J.go i H ∧ ∃ Nx : Hp → Prop, (∀ H', Nx H' → ∃ m', m' < m ∧ W (i + 1) m' H') ∧ ∀ x H', J.yld i H x H' → tN K one is x (wipe σ ws) H' fun σ2 H2 => wipe σ2 ws = wipe σ ws ∧ PP Da σ2 Nx H2) := by
  obtain ⟨B, F, S, rel, p⟩ := h
  refine ⟨B, F, S, rel, ?_⟩
  unfold compG at p
  cases q : fi S with
  | exc C fs S' => rw [q] at p; exact p
  | stuck => rw [q] at p; exact p
  | ok ds S1 =>
    rw [q] at p
    intro J H1 F1 xt rel1 fd Da hD
    dsimp only at p
    split at p
    · rename_i cond
      have c1 := Bool.and_eq_true_iff.mp cond
      cases q2 : lcG one is ws tn ds (wipeS S1 ws) with
      | none => rw [q2] at p; exact p.elim
      | some r =>
        obtain ⟨ys, T⟩ := r
        rw [q2] at p
        dsimp only at p
        split at p
        · rename_i hsz
          have relW := rel1.wipe c1.1
          obtain ⟨xl, rell⟩ := relW.lay (o := .lst []) hD
          have I0 : LcS K B F1 H1 (wipeS S1 ws) (wipe σ ws) Da F1 (upd H1 Da (.lst [])) (wipeS S1 ws) (wipe σ ws) [] [] :=
            ⟨xl.toExt, fun b o _ hb n => xl.rest b o hb n, fun _ n => n, fun _ h => .inl h, xl.there, rell, upd_same, relW.nF hD, relW.h0 hD, relW.nSl hD, .nil⟩
          refine lc_loop (σ := σ) fd I0 (fun j hj => ?_) xl.toExt q2 (by simpa using hsz) (fun i hi => by simpa using List.all_eq_true.mp c1.2 i hi) (ht B F1 H1 (wipeS S1 ws) Da) fun F' H' acc' x' I w' => ?_
          · obtain ⟨s, e1, _⟩ := okW_at c1.1 hj
            exact wipeS_in hj (List.getElem?_eq_some_iff.mp e1).1
          · obtain ⟨relR, noR⟩ := rel1.rest c1.1 I.rel I.xt fun j hj pb t e => by rw [w' j hj] at e; cases e
            have nd : ∀ b o, H1 b = some o → b ≠ Da := fun b o hb z => by rw [z, hD] at hb; cases hb
            exact p _ H' F' (xt.trans ⟨I.xt, fun b o hb n => I.still b o (nd b o hb) hb n.wipe, fun b n => noR b (I.own b n.wipe), I.new, I.there⟩) relR ⟨Da, rfl, I.nF, ⟨acc', I.at_, I.ats⟩, I.nB, xt.back hD, noR Da I.nO⟩
        · exact p.elim
    · exact p.elim
end
section
variable {X : Cx} {W : WX} {tg iter elt tg1 iter1 : Expr} {ifs ifs1 : List Expr} {fi fi1 : DS → IOut} {c c1 f : DS → Out} {one one1 : Bool} {is is1 : List Nat} {pos spos py : Pos} {scope : Scope} {own : List (Str × Nat)} {i : Nat} {y : Str}
theorem ev_comp (hc : X.calm = true) (hN : X.N.Nodup) (a : IV X W tg iter fi) (ok : BlkOk X.N X.env.scope scope own)
    (hg : ∀ (s : Shared) (H : Hp) (C : Addr) (cl : List (Str × Addr)) (fp : List Addr), NV (X.blk s H scope (compEnvC scope cl C X.env) fp) tg one is)
    (ht : ∀ (s : Shared) (H : Hp) (C : Addr) (cl : List (Str × Addr)) (fp : List Addr), CV (X.blk s H scope (compEnvC scope cl C X.env) fp) ifs c)
    (he : ∀ (s : Shared) (H : Hp) (C : Addr) (cl : List (Str × Addr)) (fp : List Addr), EV (X.blk s H scope (compEnvC scope cl C X.env) fp) W0 elt f)
    (hs : ∀ x, foldedSetIterable iter X.env x = pure x := by intro _; rfl) : EV X W (.ListComp elt [⟨tg, iter, ifs, 0⟩] scope pos) (compD one is (own.map (·.2)) fi c f) :=
  ⟨PE.imp (pe_lc (g := tN X.K one is) (tt := tB (tE X.K W0 c)) (te := tE X.K W0 f) hc hN a.pi ok (fun s H C cl fp => (hg s H C cl fp).pg) (fun s H C cl fp => (ht s H C cl fp).pt) (fun s H C cl fp => (he s H C cl fp).pe) hs) fun σ H Q h => comp_of (PP := fun Da => PEl X.K Da c f) (fun B F1 H1 T0 Da => turn_elem) h⟩
theorem ev_comp2 {vs1 : List Nat} (hc : X.calm = true) (hN : X.N.Nodup) (a : IV X W tg iter fi) (ok : BlkOk X.N X.env.scope scope own) (hv : ∀ i ∈ vs1, i ∈ own.map (·.2))
    (hg : ∀ (s : Shared) (H : Hp) (C : Addr) (cl : List (Str × Addr)) (fp : List Addr), NV (X.blk s H scope (compEnvC scope cl C X.env) fp) tg one is)
    (ht : ∀ (s : Shared) (H : Hp) (C : Addr) (cl : List (Str × Addr)) (fp : List Addr), CV (X.blk s H scope (compEnvC scope cl C X.env) fp) ifs c)
    (hi1 : ∀ (s : Shared) (H : Hp) (C : Addr) (cl : List (Str × Addr)) (fp : List Addr), IV (X.blk s H scope (compEnvC scope cl C X.env) fp) W0 tg1 iter1 fi1)
    (hg1 : ∀ (s : Shared) (H : Hp) (C : Addr) (cl : List (Str × Addr)) (fp : List Addr), NV (X.blk s H scope (compEnvC scope cl C X.env) fp) tg1 one1 is1)
    (ht1 : ∀ (s : Shared) (H : Hp) (C : Addr) (cl : List (Str × Addr)) (fp : List Addr), CV (X.blk s H scope (compEnvC scope cl C X.env) fp) ifs1 c1)
    (he : ∀ (s : Shared) (H : Hp) (C : Addr) (cl : List (Str × Addr)) (fp : List Addr), EV (X.blk s H scope (compEnvC scope cl C X.env) fp) W0 elt f)
    (hs : ∀ x, foldedSetIterable iter X.env x = pure x := by intro _; rfl) (hs1 : ∀ env x, foldedSetIterable iter1 env x = pure x := by intro _ _; rfl) :
    EV X W (.ListComp elt [⟨tg, iter, ifs, 0⟩, ⟨tg1, iter1, ifs1, 0⟩] scope pos) (compG one is (own.map (·.2)) fi (innT c fi1 one1 is1 vs1 (elemT c1 f))) :=
  ⟨PE.imp (pe_lc2 (g := tN X.K one is) (tt := tB (tE X.K W0 c)) (wi1 := tI X.K W0 fi1) (g1 := tN X.K one1 is1) (tt1 := tB (tE X.K W0 c1)) (te := tE X.K W0 f) hc hN a.pi ok hv (fun s H C cl fp => (hg s H C cl fp).pg) (fun s H C cl fp => (ht s H C cl fp).pt) (fun s H C cl fp => (hi1 s H C cl fp).pi) (fun s H C cl fp => (hg1 s H C cl fp).pg) (fun s H C cl fp => (ht1 s H C cl fp).pt) (fun s H C cl fp => (he s H C cl fp).pe) hs hs1)
    fun σ H Q h => comp_of (PP := fun Da => PIn X.K Da c fi1 one1 is1 vs1 c1 f) (fun B F1 H1 T0 Da => turn_inn hv) h⟩
theorem tAsg_of {σ : St} {H : Hp} {E : Ends} {g : DS → Out} (h : tS X.K W (asgS i g) E σ H) : tE X.K W g σ H fun x H1 => gName i x σ H1 E.nx := by
  obtain ⟨B, F, S, rel, p⟩ := h
  refine ⟨B, F, S, rel, ?_⟩
  unfold asgS at p
  cases q : g S with
  | exc C fs S' => rw [q] at p; exact PoS.ex p
  | stuck => rw [q] at p; exact p
  | ok r S' => rw [q] at p; exact fun y H' F' xt r' v => putN_ok p xt.toExt r' v fun _ => rel.h0
/-- name = [.. for ..] -/
theorem sv_setLc (hc : X.calm = true) (hN : X.N.Nodup) (hy : X.N[i]? = some y) (hyl : X.env.scope.names.lookup y = some .local)
    (hsw : swapsWith (.ListComp elt [⟨tg, iter, ifs, 0⟩] scope pos) (some (.Name y py)) spos.line X.env = pure true) (a : IV X W tg iter fi) (ok : BlkOk X.N X.env.scope scope own)
    (hg : ∀ (s : Shared) (H : Hp) (C : Addr) (cl : List (Str × Addr)) (fp : List Addr), NV (X.blk s H scope (compEnvC scope cl C X.env) fp) tg one is)
    (ht : ∀ (s : Shared) (H : Hp) (C : Addr) (cl : List (Str × Addr)) (fp : List Addr), CV (X.blk s H scope (compEnvC scope cl C X.env) fp) ifs c)
    (he : ∀ (s : Shared) (H : Hp) (C : Addr) (cl : List (Str × Addr)) (fp : List Addr), EV (X.blk s H scope (compEnvC scope cl C X.env) fp) W0 elt f)
    (hs : ∀ x, foldedSetIterable iter X.env x = pure x := by intro _; rfl) : SV X W (.Assign [.Name y py] (.ListComp elt [⟨tg, iter, ifs, 0⟩] scope pos) spos) (asgS i (compD one is (own.map (·.2)) fi c f)) :=
  ⟨PS.imp (ps_setLc (g := tN X.K one is) (tt := tB (tE X.K W0 c)) (te := tE X.K W0 f) hc hN hy hyl hsw a.pi ok (fun s H C cl fp => (hg s H C cl fp).pg) (fun s H C cl fp => (ht s H C cl fp).pt) (fun s H C cl fp => (he s H C cl fp).pe) hs) fun E σ H h => comp_of (PP := fun Da => PEl X.K Da c f) (fun B F1 H1 T0 Da => turn_elem) (tAsg_of h)⟩
end
end DL
namespace DL
open PySem PySem.Spec PyProof.Rows L2
variable [Nm]

/-! ### defs as functions on trees -/
/-- args: what the parameters' slots hold behind the call -/
inductive Fo where
  | ret (r : R) (args : List Sl)
  | exc (C : Addr) (fs : List (Str × D)) (args : List Sl)
  | stuck
/-- the arguments vs of a call at (F, H) are args; own ones apart -/
structure ArgsAt (K : Fr) (F : Addr → Prop) (H : Hp) (vs : List V) (args : List Sl) : Prop where
  len : vs.length = args.length
  sl : ∀ (i : Nat) (s : Sl), args[i]? = some s → ∃ v, vs[i]? = some v ∧ SlAt K F H (some v) s
  kind : ∀ (i : Nat) (s : Sl), args[i]? = some s → (∃ d, s = .fr d) ∨ ∃ d, s = .ow true d
  dis : ∀ (i j : Nat) (a : Addr) (d e : D), args[i]? = some (.ow true d) → args[j]? = some (.ow true e) → vs[i]? = some (.ref a) → vs[j]? = some (.ref a) → i = j
  trk : ∀ a, F a → ∃ o, H a = some o
  tabs : AllTabs H
/-- b is none of the own arguments -/
def NotArg (vs : List V) (args : List Sl) (b : Addr) : Prop := ∀ (i : Nat) (d : D), args[i]? = some (.ow true d) → vs[i]? ≠ some (.ref b)
/-- what a call does -/
structure Called (K : Fr) (F : Addr → Prop) (H : Hp) (vs : List V) (args : List Sl) (F' : Addr → Prop) (H' : Hp) (args' : List Sl) : Prop where
  ext : Ext F H F' H'
  new : ∀ a, F' a → F a ∨ H a = none
  trk : ∀ a, F' a → ∃ o, H' a = some o
  keep : ∀ b o, H b = some o → NotArg vs args b → Still H' b o
  own : ∀ (i : Nat) (d : D), args[i]? = some (.ow true d) → ∃ d', args'[i]? = some (.ow true d') ∧ ∃ v, vs[i]? = some v ∧ SlAt K F' H' (some v) (.ow true d')
  tabs : AllTabs H'
def RVc (K : Fr) (H : Hp) (F' : Addr → Prop) (H' : Hp) (x : V) : R → Prop
  | .v d => At K F' H' x d
  | .ow d => ∃ a, x = .ref a ∧ ¬ F' a ∧ OwnAt K F' H' a d ∧ H a = none
  | .bw _ => False
def PoF (K : Fr) (F : Addr → Prop) (H : Hp) (vs : List V) (args : List Sl) (Q : VK) (E : XK) : Fo → Prop
  | .ret r args' => ∀ x H' F', Called K F H vs args F' H' args' → RVc K H F' H' x r → Q x H'
  | .exc C fs args' => ∀ dx fvs H' F', Called K F H vs args F' H' args' → H' dx = some (.xd fvs) → H dx = none → Fts K F' H' fvs fs → E (.ref C) (some dx) H'
  | .stuck => False
/-- a def's promise: it is the function m -/
def spD (K : Fr) (n : Nat) (m : List Sl → Fo) : Sp := fun vs H Q E => ∃ F args, args.length = n ∧ ArgsAt K F H vs args ∧ PoF K F H vs args Q E (m args)
/-- own parameters as they stand at the end -/
def upA : List Sl → DS → Option (List Sl)
  | [], _ => some []
  | .ow true _ :: as, .ow true d :: S => match upA as S with
    | some r => some (.ow true d :: r)
    | none => none
  | .fr d :: as, _ :: S => match upA as S with
    | some r => some (.fr d :: r)
    | none => none
  | _, _ => none
def runD (n N : Nat) (g : DS → Fl) (args : List Sl) : Fo := match g (args ++ List.replicate (N - n) .un) with
  | .rt (.bw _) _ => .stuck
  | .rt r S' => match upA args S' with
    | some as => .ret r as
    | none => .stuck
  | .nx S' => match upA args S' with
    | some as => .ret (.v .non) as
    | none => .stuck
  | .exc C fs S' => match upA args S' with
    | some as => .exc C fs as
    | none => .stuck
  | _ => .stuck
theorem upA_get : ∀ {args : List Sl} {S : DS} {r : List Sl} {i : Nat} {d : D}, upA args S = some r → args[i]? = some (.ow true d) → ∃ d', r[i]? = some (.ow true d') ∧ S[i]? = some (.ow true d')
  | [], _, _, _, _, _, e => by simp at e
  | .un :: _, _, _, _, _, h, _ => by simp [upA] at h
  | .ow false _ :: _, _, _, _, _, h, _ => by simp [upA] at h
  | .ow true _ :: as, [], _, _, _, h, _ => by simp [upA] at h
  | .ow true _ :: as, .un :: S, _, _, _, h, _ => by simp [upA] at h
  | .ow true _ :: as, .fr _ :: S, _, _, _, h, _ => by simp [upA] at h
  | .ow true _ :: as, .ow false _ :: S, _, _, _, h, _ => by simp [upA] at h
  | .ow true _ :: as, .ow true d :: S, r, i, e, h, hi => by
    simp only [upA] at h
    cases q : upA as S with
    | none => rw [q] at h; cases h
    | some rr =>
      rw [q] at h
      cases h
      cases i with
      | zero => exact ⟨d, rfl, rfl⟩
      | succ i =>
        obtain ⟨d', h1, h2⟩ := upA_get (i := i) (d := e) q (by simpa using hi)
        exact ⟨d', by simpa using h1, by simpa using h2⟩
  | .fr _ :: as, [], _, _, _, h, _ => by simp [upA] at h
  | .fr c :: as, s :: S, r, i, e, h, hi => by
    simp only [upA] at h
    cases q : upA as S with
    | none => rw [q] at h; cases h
    | some rr =>
      rw [q] at h
      cases h
      cases i with
      | zero => simp at hi
      | succ i =>
        obtain ⟨d', h1, h2⟩ := upA_get (i := i) (d := e) q (by simpa using hi)
        exact ⟨d', by simpa using h1, by simpa using h2⟩

/-- the entry's base: which parameters are own -/
def ownM (vs : List V) (args : List Sl) : List (Nat × Addr) := (List.range args.length).filterMap fun (i : Nat) => match args[i]?, vs[i]? with
  | some (Sl.ow true _), some (V.ref a) => some (i, a)
  | _, _ => none
theorem mem_ownM {vs : List V} {args : List Sl} {i : Nat} {a : Addr} : (i, a) ∈ ownM vs args ↔ ∃ d, args[i]? = some (.ow true d) ∧ vs[i]? = some (.ref a) := by
  unfold ownM
  rw [List.mem_filterMap]
  constructor
  · rintro ⟨j, _, h⟩
    split at h
    · rename_i d b h1 h2
      cases h
      exact ⟨d, h1, h2⟩
    · cases h
  · rintro ⟨d, h1, h2⟩
    refine ⟨i, List.mem_range.mpr (List.getElem?_eq_some_iff.mp h1).1, ?_⟩
    rw [h1, h2]
theorem ArgsAt.rel {K : Fr} {F : Addr → Prop} {H : Hp} {vs : List V} {args : List Sl} {N : List Str} (A : ArgsAt K F H vs args) (hN : args.length ≤ N.length) :
    Rel K ⟨H, F, ownM vs args⟩ F (args ++ List.replicate (N.length - args.length) .un) (L2.start N vs) H := by
  have lv := A.len
  have eS : ∀ {i : Nat} {s : Sl}, (args ++ List.replicate (N.length - args.length) Sl.un)[i]? = some s → (i < args.length ∧ args[i]? = some s) ∨ (args.length ≤ i ∧ s = .un ∧ i < N.length) := by
    intro i s h
    by_cases hi : i < args.length
    · rw [List.getElem?_append_left hi] at h
      exact .inl ⟨hi, h⟩
    · rw [List.getElem?_append_right (by omega), List.getElem?_replicate] at h
      split at h
      · cases h
        exact .inr ⟨by omega, rfl, by omega⟩
      · cases h
  have eσ : ∀ {i : Nat} {v : V}, i < args.length → (L2.start N vs)[i]? = some (some v) → vs[i]? = some v := by
    intro i v hi h
    unfold L2.start at h
    rw [List.getElem?_append_left (by rw [List.length_map, lv]; exact hi), List.getElem?_map] at h
    cases q : vs[i]? with
    | none => rw [q] at h; cases h
    | some w => rw [q] at h; cases h; rfl
  have σe : ∀ {i : Nat} {v : V}, vs[i]? = some v → (L2.start N vs)[i]? = some (some v) := by
    intro i v h
    have hi := (List.getElem?_eq_some_iff.mp h).1
    unfold L2.start
    rw [List.getElem?_append_left (by rw [List.length_map]; exact hi), List.getElem?_map, h]
    rfl
  refine ⟨?_, fun i s hs => ?_, fun i j a p q d e h1 h2 h3 h4 => ?_, A.trk, fun _ h => h, fun _ h => .inl h, fun b o h _ => .inl h, fun i a d h1 h2 => ?_, fun i a h => ?_, fun i a d h1 h2 => ?_, A.trk, A.tabs⟩
  · unfold L2.start
    rw [List.length_append, List.length_append, List.length_map, List.length_replicate, List.length_replicate, lv]
  · rcases eS hs with ⟨hi, hs⟩ | ⟨hi, rfl, hN'⟩
    · obtain ⟨v, h1, h2⟩ := A.sl i s hs
      exact ⟨some v, σe h1, h2⟩
    · refine ⟨none, ?_, trivial⟩
      unfold L2.start
      rw [List.getElem?_append_right (by rw [List.length_map, lv]; exact hi), List.getElem?_replicate, if_pos (by rw [List.length_map]; omega)]
  · rcases eS h1 with ⟨hi, h1⟩ | ⟨_, h1, _⟩
    · rcases eS h2 with ⟨hj, h2⟩ | ⟨_, h2, _⟩
      · have kp : p = true := by
          rcases A.kind i _ h1 with ⟨_, z⟩ | ⟨_, z⟩
          · cases z
          · cases z; rfl
        have kq : q = true := by
          rcases A.kind j _ h2 with ⟨_, z⟩ | ⟨_, z⟩
          · cases z
          · cases z; rfl
        subst kp kq
        exact A.dis i j a d e h1 h2 (eσ hi h3) (eσ hj h4)
      · cases h2
    · cases h1
  · rcases eS h1 with ⟨hi, h1⟩ | ⟨_, h1, _⟩
    · rcases A.kind i _ h1 with ⟨_, z⟩ | ⟨_, z⟩ <;> cases z
    · cases h1
  · obtain ⟨d, h1, h2⟩ := mem_ownM.mp h
    have hi := (List.getElem?_eq_some_iff.mp h1).1
    exact ⟨σe h2, d, by rw [List.getElem?_append_left hi]; exact h1⟩
  · rcases eS h1 with ⟨hi, h1⟩ | ⟨_, h1, _⟩
    · exact mem_ownM.mpr ⟨d, h1, eσ hi h2⟩
    · cases h1
theorem Rel.called {K : Fr} {F F' : Addr → Prop} {H H' : Hp} {vs : List V} {args as : List Sl} {S' : DS} {σ' : St} (A : ArgsAt K F H vs args) (r : Rel K ⟨H, F, ownM vs args⟩ F' S' σ' H') (e : Ext F H F' H') (u : upA args S' = some as) : Called K F H vs args F' H' as := by
  refine ⟨e, fun a h => r.new a h, r.trk, fun b o h n => r.keep b o h fun i hi => ?_, fun i d h => ?_, r.tabs⟩
  · obtain ⟨d, h1, h2⟩ := mem_ownM.mp hi
    exact n i d h1 h2
  · obtain ⟨d', h1, h2⟩ := upA_get u h
    obtain ⟨v, hv, a, ea, _⟩ := A.sl i _ h
    cases ea
    obtain ⟨g1, _⟩ := r.par i a (mem_ownM.mpr ⟨d, h, hv⟩)
    obtain ⟨o, g2, g3⟩ := r.sl i _ h2
    rw [g1] at g2
    cases g2
    exact ⟨d', h1, _, hv, g3⟩
/-- from the call's wish to the body's -/
theorem body_end {K : Fr} {N ps : List Str} {g : DS → Fl} {vs : List V} {args : List Sl} {F : Addr → Prop} {H : Hp} {Q : VK} {E : XK} (hl : ps.length ≤ N.length) (hn : args.length = ps.length) (Ar : ArgsAt K F H vs args) (p : PoF K F H vs args Q E (runD ps.length N.length g args)) :
    tS K (fun cls d _ H' => E cls d H') g { nx := fun _ H' => Q .non H', rt := Q } (L2.start N vs) H := by
  refine ⟨⟨H, F, ownM vs args⟩, F, _, Ar.rel (by rw [hn]; exact hl), ?_⟩
  unfold runD at p
  rw [hn]
  cases q : g (args ++ List.replicate (N.length - ps.length) .un) with
  | stuck => rw [q] at p; exact p
  | bk S' => rw [q] at p; exact p.elim
  | ct S' => rw [q] at p; exact p.elim
  | nx S' =>
    rw [q] at p
    intro σ' H' F' e r
    dsimp only at p
    cases u : upA args S' with
    | none => rw [u] at p; exact p.elim
    | some as => rw [u] at p; exact p .non H' F' (r.called Ar e u) .non
  | rt rr S' =>
    rw [q] at p
    intro x σ' H' F' e r v
    cases rr with
    | bw i => exact p.elim
    | v d =>
      dsimp only at p
      cases u : upA args S' with
      | none => rw [u] at p; exact p.elim
      | some as => rw [u] at p; exact p x H' F' (r.called Ar e u) v
    | ow d =>
      dsimp only at p
      cases u : upA args S' with
      | none => rw [u] at p; exact p.elim
      | some as =>
        rw [u] at p
        obtain ⟨a, h1, h2, h3, h4, _⟩ := v
        exact p x H' F' (r.called Ar e u) ⟨a, h1, h2, h3, h4⟩
  | exc C fs S' =>
    rw [q] at p
    intro dx fvs σ' H' F' e r h1 h2 h3
    dsimp only at p
    cases u : upA args S' with
    | none => rw [u] at p; exact p.elim
    | some as => rw [u] at p; exact p dx fvs H' F' (r.called Ar e u) h1 h2 h3
section
variable {P : Program} {w : World} {K : Fr} {mg : Str → Option Value} {base : Heap}
/-- THE RULE for a def: its body's mirror -/
theorem fn_D {x qual : Str} {st : Stmt} {f : Addr} {fd : FuncData} {N ps : List Str} {k : Nat} {g : DS → Fl} (D : Fun K x qual st f fd) (S : FnScope N ps (defScope st))
    (body : ∀ (cdv : Value) (A : Around) (outer : List Env) (s : Shared) (H : Hp) (E : XK), Room k (A.deeper (envOfC qual (defScope st) s.heap.objs.size f cdv)) → A.guards = some [] →
      SVs (cxOf (L2.CX P w) P w K mg base N qual (defScope st) f cdv A outer s H E) (fun cls d _ H' => E cls d H') (defBody st) g)
    (hl : ps.length ≤ N.length := by decide) : FnG P w K mg base (L2.CX P w) (k + 1) f fd ps (spD K ps.length (runD ps.length N.length g)) := by
  refine fnG_of D S (fun vs H Q E ⟨F, args, h1, A, _⟩ => by rw [A.len, h1]) fun cdv _ A outer s H vs Q E hr gd ⟨F, args, hn, Ar, p⟩ => ?_
  have key := body cdv A outer s H E hr gd
  exact ⟨_, key.ps, body_end hl hn Ar p⟩
/-- .. that may be called where something is being shown, too -/
theorem fn_O {x qual : Str} {st : Stmt} {f : Addr} {fd : FuncData} {N ps : List Str} {k : Nat} {g : DS → Fl} (D : Fun K x qual st f fd) (S : FnScope N ps (defScope st))
    (body : ∀ (cdv : Value) (A : Around) (outer : List Env) (s : Shared) (H : Hp) (E : XK), Room k (A.deeper (envOfC qual (defScope st) s.heap.objs.size f cdv)) →
      SVs (cxOf (L2.CX P w) P w K mg base N qual (defScope st) f cdv A outer s H E) (fun cls d _ H' => E cls d H') (defBody st) g)
    (hl : ps.length ≤ N.length := by decide) : FnOk P w K mg base (L2.CX P w) (k + 1) f fd ps (spD K ps.length (runD ps.length N.length g)) := by
  refine D.okX S (fun vs H Q E ⟨F, args, h1, A, _⟩ => by rw [A.len, h1]) fun cdv A outer s H vs Q E hr ⟨F, args, hn, Ar, p⟩ => ?_
  have key := body cdv A outer s H E hr
  exact ⟨_, key.ps, body_end hl hn Ar p⟩
theorem fnG_ok {k : Nat} {f : Addr} {fd : FuncData} {ps : List Str} {sp : Sp} (F : FnOk P w K mg base (L2.CX P w) k f fd ps sp) : FnG P w K mg base (L2.CX P w) k f fd ps sp :=
  ⟨F.len, fun A o s H as us vs Q E r _ => F.run A o s H as us vs Q E r⟩
end

/-! ### calls -/
def toArgs (S : DS) : List R → Option (List Sl)
  | [] => some []
  | .v d :: rs => match toArgs S rs with
    | some as => some (.fr d :: as)
    | none => none
  | .bw i :: rs => match S[i]? with
    | some (.ow _ d) => match toArgs S rs with
      | some as => some (.ow true d :: as)
      | none => none
    | _ => none
  | .ow _ :: _ => none
/-- the own slots that are handed over -/
def bws : List R → List Nat
  | [] => []
  | .bw i :: rs => i :: bws rs
  | _ :: rs => bws rs
/-- what the own slot i holds behind the call -/
def findA (i : Nat) : List R → List Sl → Option D
  | .bw j :: rs, .ow _ d :: as => if i = j then some d else findA i rs as
  | .bw j :: rs, _ :: as => if i = j then none else findA i rs as
  | _ :: rs, _ :: as => findA i rs as
  | _, _ => none
def backS (S : DS) (rs : List R) (as : List Sl) : DS := S.mapIdx fun i s => match s, findA i rs as with
  | .ow p _, some d => .ow p d
  | s, _ => s
def callS (n : Nat) (m : List Sl → Fo) (rs : List R) (S1 : DS) : Out := if (bws rs).Nodup then (match toArgs S1 rs with
    | some args => if args.length = n then (match m args with
      | .ret (.v d) as => .ok (.v d) (backS S1 rs as)
      | .ret (.ow d) as => .ok (.ow d) (backS S1 rs as)
      | .ret (.bw _) _ => .stuck
      | .exc C fs as => .exc C fs (backS S1 rs as)
      | .stuck => .stuck) else .stuck
    | none => .stuck) else .stuck
def callD (n : Nat) (m : List Sl → Fo) (ga : DS → AOut) : DS → Out := fun S => match ga S with
  | .ok rs S1 => callS n m rs S1
  | .exc C fs S' => .exc C fs S'
  | .stuck => .stuck
section
variable {K : Fr} {W : WX} {B : Bs} {F F' : Addr → Prop} {H H' : Hp} {σ : St} {S : DS}
theorem toArgs_at : ∀ {rs : List R} {args : List Sl}, toArgs S rs = some args → args.length = rs.length ∧ ∀ (j : Nat), (∀ d, args[j]? = some (.fr d) → rs[j]? = some (.v d)) ∧ (∀ p d, args[j]? = some (.ow p d) → p = true ∧ ∃ (i : Nat) (q : Bool), rs[j]? = some (R.bw i) ∧ S[i]? = some (.ow q d)) ∧ args[j]? ≠ some .un
  | [], args, h => by
    cases h
    exact ⟨rfl, fun j => ⟨fun d e => by simp at e, fun p d e => by simp at e, by simp⟩⟩
  | .v d :: rs, args, h => by
    simp only [toArgs] at h
    cases q : toArgs S rs with
    | none => rw [q] at h; cases h
    | some as =>
      rw [q] at h
      cases h
      obtain ⟨l, r⟩ := toArgs_at q
      refine ⟨by rw [List.length_cons, List.length_cons, l], fun j => ?_⟩
      cases j with
      | zero => exact ⟨fun d e => by simp at e; rw [e]; rfl, fun p d e => by simp at e, by simp⟩
      | succ j => simpa using r j
  | .ow d :: rs, args, h => by simp [toArgs] at h
  | .bw i :: rs, args, h => by
    simp only [toArgs] at h
    split at h
    · rename_i p d hi
      cases q : toArgs S rs with
      | none => rw [q] at h; cases h
      | some as =>
        rw [q] at h
        cases h
        obtain ⟨l, r⟩ := toArgs_at q
        refine ⟨by rw [List.length_cons, List.length_cons, l], fun j => ?_⟩
        cases j with
        | zero => exact ⟨fun d e => by simp at e, fun p' d' e => by
          simp at e
          obtain ⟨e1, e2⟩ := e
          subst e1 e2
          exact ⟨rfl, i, p, rfl, hi⟩, by simp⟩
        | succ j => simpa using r j
    · cases h
theorem RVsL.get : ∀ {xs : List V} {rs : List R} {j : Nat} {r : R}, RVsL K F σ H xs rs → rs[j]? = some r → ∃ x, xs[j]? = some x ∧ RVs K F σ H x r
  | _, _, _, _, .nil, e => by simp at e
  | _, _, 0, _, .cons h t, e => by simp at e; subst e; exact ⟨_, rfl, h⟩
  | _, _, j + 1, r, .cons h t, e => by
    obtain ⟨x, h1, h2⟩ := RVsL.get (j := j) t (by simpa using e)
    exact ⟨x, by simpa using h1, h2⟩
theorem RVsL.len : ∀ {xs : List V} {rs : List R}, RVsL K F σ H xs rs → xs.length = rs.length
  | _, _, .nil => rfl
  | _, _, .cons _ t => congrArg (· + 1) t.len
theorem bws_mem : ∀ {rs : List R} {i : Nat}, i ∈ bws rs ↔ ∃ j : Nat, rs[j]? = some (R.bw i)
  | [], i => by simp [bws]
  | .v d :: rs, i => by
    simp only [bws]
    rw [bws_mem]
    constructor
    · rintro ⟨j, h⟩; exact ⟨j + 1, by simpa using h⟩
    · rintro ⟨j, h⟩
      cases j with
      | zero => simp at h
      | succ j => exact ⟨j, by simpa using h⟩
  | .ow d :: rs, i => by
    simp only [bws]
    rw [bws_mem]
    constructor
    · rintro ⟨j, h⟩; exact ⟨j + 1, by simpa using h⟩
    · rintro ⟨j, h⟩
      cases j with
      | zero => simp at h
      | succ j => exact ⟨j, by simpa using h⟩
  | .bw k :: rs, i => by
    simp only [bws, List.mem_cons]
    rw [bws_mem]
    constructor
    · rintro (rfl | ⟨j, h⟩)
      · exact ⟨0, rfl⟩
      · exact ⟨j + 1, by simpa using h⟩
    · rintro ⟨j, h⟩
      cases j with
      | zero => simp at h; exact .inl h.symm
      | succ j => exact .inr ⟨j, by simpa using h⟩
theorem bws_inj : ∀ {rs : List R} {i j k : Nat}, (bws rs).Nodup → rs[j]? = some (.bw i) → rs[k]? = some (.bw i) → j = k
  | [], _, _, _, _, h, _ => by simp at h
  | .v d :: rs, i, j, k, nd, h1, h2 => by
    cases j with
    | zero => simp at h1
    | succ j =>
      cases k with
      | zero => simp at h2
      | succ k => exact congrArg Nat.succ (bws_inj (rs := rs) (i := i) nd (by simpa using h1) (by simpa using h2))
  | .ow d :: rs, i, j, k, nd, h1, h2 => by
    cases j with
    | zero => simp at h1
    | succ j =>
      cases k with
      | zero => simp at h2
      | succ k => exact congrArg Nat.succ (bws_inj (rs := rs) (i := i) nd (by simpa using h1) (by simpa using h2))
  | .bw l :: rs, i, j, k, nd, h1, h2 => by
    have nd' := List.nodup_cons.mp nd
    cases j with
    | zero =>
      cases k with
      | zero => rfl
      | succ k =>
        simp at h1
        subst h1
        exact absurd (bws_mem.mpr ⟨k, by simpa using h2⟩) nd'.1
    | succ j =>
      cases k with
      | zero =>
        simp at h2
        subst h2
        exact absurd (bws_mem.mpr ⟨j, by simpa using h1⟩) nd'.1
      | succ k => exact congrArg Nat.succ (bws_inj (rs := rs) (i := i) nd'.2 (by simpa using h1) (by simpa using h2))
theorem findA_at : ∀ {rs : List R} {as : List Sl} {i j : Nat} {p : Bool} {d : D}, (bws rs).Nodup → rs[j]? = some (.bw i) → as[j]? = some (.ow p d) → rs.length ≤ as.length → findA i rs as = some d
  | [], _, _, _, _, _, _, h, _, _ => by simp at h
  | _ :: _, [], _, _, _, _, _, _, _, hl => by simp at hl
  | .v c :: rs, a :: as, i, j, p, d, nd, h1, h2, hl => by
    cases j with
    | zero => simp at h1
    | succ j =>
      unfold findA
      exact findA_at (rs := rs) nd (by simpa using h1) (by simpa using h2) (by simpa using hl)
  | .ow c :: rs, a :: as, i, j, p, d, nd, h1, h2, hl => by
    cases j with
    | zero => simp at h1
    | succ j =>
      unfold findA
      exact findA_at (rs := rs) nd (by simpa using h1) (by simpa using h2) (by simpa using hl)
  | .bw l :: rs, a :: as, i, j, p, d, nd, h1, h2, hl => by
    have nd' := List.nodup_cons.mp nd
    cases j with
    | zero =>
      simp at h1 h2
      subst h1 h2
      unfold findA
      rw [if_pos rfl]
    | succ j =>
      have ne : i ≠ l := fun z => by
        subst z
        exact nd'.1 (bws_mem.mpr ⟨j, by simpa using h1⟩)
      have rec_ := findA_at (rs := rs) (as := as) nd'.2 (by simpa using h1) (by simpa using h2) (by simpa using hl)
      cases a with
      | un => unfold findA; rw [if_neg ne]; exact rec_
      | fr _ => unfold findA; rw [if_neg ne]; exact rec_
      | ow _ _ => unfold findA; rw [if_neg ne]; exact rec_
theorem findA_none : ∀ {rs : List R} {as : List Sl} {i : Nat}, i ∉ bws rs → findA i rs as = none
  | [], _, _, _ => by simp [findA]
  | .v c :: rs, [], _, _ => by simp [findA]
  | .ow c :: rs, [], _, _ => by simp [findA]
  | .bw c :: rs, [], _, _ => by simp [findA]
  | .v c :: rs, a :: as, i, h => by
    unfold findA
    exact findA_none h
  | .ow c :: rs, a :: as, i, h => by
    unfold findA
    exact findA_none h
  | .bw l :: rs, a :: as, i, h => by
    have h' : i ≠ l ∧ i ∉ bws rs := by simpa [bws, not_or] using h
    cases a with
    | un => unfold findA; rw [if_neg h'.1]; exact findA_none h'.2
    | fr _ => unfold findA; rw [if_neg h'.1]; exact findA_none h'.2
    | ow _ _ => unfold findA; rw [if_neg h'.1]; exact findA_none h'.2
theorem backS_get {rs : List R} {as : List Sl} {i : Nat} {s : Sl} (h : (backS S rs as)[i]? = some s) : ∃ t, S[i]? = some t ∧ s = (match t, findA i rs as with | .ow p _, some d => .ow p d | t, _ => t) := by
  unfold backS at h
  rw [List.getElem?_mapIdx] at h
  cases q : S[i]? with
  | none => rw [q] at h; cases h
  | some t => rw [q] at h; cases h; exact ⟨t, rfl, rfl⟩
/-- the arguments of a call -/
theorem args_of {xs : List V} {rs : List R} {args : List Sl} (rel : Rel K B F S σ H) (rv : RVsL K F σ H xs rs) (nd : (bws rs).Nodup) (ta : toArgs S rs = some args) : ArgsAt K F H xs args := by
  obtain ⟨l, ta⟩ := toArgs_at ta
  have owA : ∀ {j : Nat} {d : D}, args[j]? = some (.ow true d) → ∃ (i : Nat) (q : Bool) (a : Addr), rs[j]? = some (R.bw i) ∧ S[i]? = some (.ow q d) ∧ xs[j]? = some (.ref a) ∧ σ[i]? = some (some (.ref a)) ∧ ¬ F a ∧ OwnAt K F H a d := by
    intro j d h
    obtain ⟨_, i, q, h1, h2⟩ := (ta j).2.1 _ _ h
    obtain ⟨x, h3, (h4 : σ[i]? = some (some x))⟩ := rv.get h1
    obtain ⟨a, g1, g2, g3⟩ := rel.ownAt h2
    rw [h4] at g1
    cases g1
    exact ⟨i, q, a, h1, h2, h3, h4, g2, g3⟩
  refine ⟨by rw [rv.len, l], fun j s hs => ?_, fun j s hs => ?_, fun j k a d e h1 h2 h3 h4 => ?_, rel.trk, rel.tabs⟩
  · cases s with
    | un => exact absurd hs (ta j).2.2
    | fr d =>
      obtain ⟨x, h1, h2⟩ := rv.get ((ta j).1 d hs)
      exact ⟨x, h1, x, rfl, h2⟩
    | ow p d =>
      obtain ⟨rfl, _⟩ := (ta j).2.1 p d hs
      obtain ⟨i, q, a, _, _, h3, _, h5, h6⟩ := owA hs
      exact ⟨_, h3, a, rfl, h5, h6⟩
  · cases s with
    | un => exact absurd hs (ta j).2.2
    | fr d => exact .inl ⟨d, rfl⟩
    | ow p d =>
      obtain ⟨rfl, _⟩ := (ta j).2.1 p d hs
      exact .inr ⟨d, rfl⟩
  · obtain ⟨i1, q1, a1, u1, v1, w1, z1, _⟩ := owA h1
    obtain ⟨i2, q2, a2, u2, v2, w2, z2, _⟩ := owA h2
    rw [h3] at w1
    cases w1
    rw [h4] at w2
    cases w2
    have := rel.dis i1 i2 a q1 q2 _ _ v1 v2 z1 z2
    subst this
    exact bws_inj nd u1 u2
/-- behind a call -/
theorem Rel.back {xs : List V} {rs : List R} {args as : List Sl} (rel : Rel K B F S σ H) (rv : RVsL K F σ H xs rs) (nd : (bws rs).Nodup) (ta : toArgs S rs = some args) (c : Called K F H xs args F' H' as) (hl : ∀ j, j < args.length → j < as.length ∨ ∀ d, args[j]? ≠ some (.ow true d)) :
    Xt σ S F H (backS S rs as) F' H' ∧ Rel K B F' (backS S rs as) σ H' := by
  obtain ⟨l, ta'⟩ := toArgs_at ta
  -- the slots handed over
  have handed : ∀ {i : Nat} {p : Bool} {d : D}, S[i]? = some (.ow p d) → i ∈ bws rs → ∃ (j : Nat) (a : Addr) (d' : D), rs[j]? = some (R.bw i) ∧ args[j]? = some (.ow true d) ∧ xs[j]? = some (.ref a) ∧ σ[i]? = some (some (.ref a)) ∧ as[j]? = some (.ow true d') ∧ ¬ F' a ∧ OwnAt K F' H' a d' := by
    intro i p d hi hm
    obtain ⟨j, hj⟩ := bws_mem.mp hm
    have lj : j < args.length := by
      rw [l]
      exact (List.getElem?_eq_some_iff.mp hj).1
    obtain ⟨s, hs⟩ : ∃ s, args[j]? = some s := ⟨_, List.getElem?_eq_getElem lj⟩
    have hs' : args[j]? = some (.ow true d) := by
      cases s with
      | un => exact absurd hs (ta' j).2.2
      | fr e => have := (ta' j).1 e hs; rw [hj] at this; cases this
      | ow q e =>
        obtain ⟨rfl, i', q', e1, e2⟩ := (ta' j).2.1 q e hs
        rw [hj] at e1
        cases e1
        rw [hi] at e2
        cases e2
        exact hs
    obtain ⟨x, h3, (h4 : σ[i]? = some (some x))⟩ := rv.get hj
    obtain ⟨a, g1, _, _⟩ := rel.ownAt hi
    rw [h4] at g1
    cases g1
    obtain ⟨d', k1, v, k2, b, k3, k4, k5⟩ := c.own j d hs'
    rw [h3] at k2
    cases k2
    cases k3
    exact ⟨j, a, d', hj, hs', h3, h4, k1, k4, k5⟩
  have notArg : ∀ {b : Addr}, (∀ (i : Nat) (p : Bool) (d : D), i ∈ bws rs → S[i]? = some (.ow p d) → σ[i]? ≠ some (some (.ref b))) → NotArg xs args b := by
    intro b n j d hj hx
    obtain ⟨_, i, q, e1, e2⟩ := (ta' j).2.1 _ _ hj
    obtain ⟨x, h3, (h4 : σ[i]? = some (some x))⟩ := rv.get e1
    rw [hx] at h3
    cases h3
    exact n i q d (bws_mem.mpr ⟨j, e1⟩) e2 h4
  have findH : ∀ {i : Nat} {p : Bool} {d : D}, S[i]? = some (.ow p d) → i ∈ bws rs → ∃ a d', findA i rs as = some d' ∧ σ[i]? = some (some (.ref a)) ∧ ¬ F' a ∧ OwnAt K F' H' a d' := by
    intro i p d hi hm
    obtain ⟨j, a, d', h1, h2, h3, h4, h5, h6, h7⟩ := handed hi hm
    refine ⟨a, d', ?_, h4, h6, h7⟩
    -- only the places up to j matter
    have gen : ∀ (rs : List R) (as : List Sl) (j : Nat), (bws rs).Nodup → rs[j]? = some (.bw i) → as[j]? = some (.ow true d') → findA i rs as = some d' := by
      intro rs
      induction rs with
      | nil => intro as j _ h _; simp at h
      | cons r rs ih =>
        intro as j nd h1 h2
        cases as with
        | nil => simp at h2
        | cons a as =>
          cases j with
          | zero =>
            simp at h1 h2
            subst h1 h2
            unfold findA
            rw [if_pos rfl]
          | succ j =>
            cases r with
            | v c => unfold findA; exact ih as j nd (by simpa using h1) (by simpa using h2)
            | ow c => unfold findA; exact ih as j nd (by simpa using h1) (by simpa using h2)
            | bw k =>
              have nd' := List.nodup_cons.mp nd
              have ne : i ≠ k := fun z => by
                subst z
                exact nd'.1 (bws_mem.mpr ⟨j, by simpa using h1⟩)
              have q := ih as j nd'.2 (by simpa using h1) (by simpa using h2)
              cases a with
              | un => unfold findA; rw [if_neg ne]; exact q
              | fr _ => unfold findA; rw [if_neg ne]; exact q
              | ow _ _ => unfold findA; rw [if_neg ne]; exact q
    exact gen rs as j nd h1 h5
  have backOw : ∀ {i : Nat} {p : Bool} {d : D}, (backS S rs as)[i]? = some (.ow p d) → ∃ e, S[i]? = some (.ow p e) := by
    intro i p d h
    obtain ⟨t, h1, h2⟩ := backS_get h
    cases t with
    | un => cases h2
    | fr e => cases h2
    | ow q e =>
      cases z : findA i rs as with
      | none => rw [z] at h2; cases h2; exact ⟨_, h1⟩
      | some e' => rw [z] at h2; cases h2; exact ⟨_, h1⟩
  have there : ∀ b o, H b = some o → ∃ o', H' b = some o' := by
    intro b o h
    by_cases z : ∃ i p d, i ∈ bws rs ∧ S[i]? = some (.ow p d) ∧ σ[i]? = some (some (.ref b))
    · obtain ⟨i, p, d, z1, z2, z3⟩ := z
      obtain ⟨a, d', _, k2, _, k4⟩ := findH z2 z1
      rw [z3] at k2
      cases k2
      exact k4.there
    · rcases c.keep b o h (notArg fun i p d h1 h2 h3 => z ⟨i, p, d, h1, h2, h3⟩) with k | ⟨_, _, _, k⟩
      · exact ⟨_, k⟩
      · exact ⟨_, k⟩
  refine ⟨⟨c.ext, fun b o h n => c.keep b o h (notArg fun i p d _ h2 => n i p d h2), fun b n i p d h => by
    obtain ⟨e, h⟩ := backOw h
    exact n i p e h, c.new, there⟩, ?_⟩
  refine ⟨by rw [rel.len]; simp [backS], fun i s hs => ?_, fun i j a p q d e h1 h2 h3 h4 => ?_, c.trk, fun a h => c.ext.sub a (rel.f0 a h), fun a h => ?_, fun b o h m => ?_, fun i a d h1 h2 => ?_, fun i a h => ?_, fun i a d h1 h2 => ?_, rel.f0t, c.tabs⟩
  · obtain ⟨t, h1, h2⟩ := backS_get hs
    obtain ⟨o, ho, hsl⟩ := rel.sl i t h1
    refine ⟨o, ho, ?_⟩
    cases t with
    | un => subst h2; trivial
    | fr e =>
      subst h2
      obtain ⟨v, k1, k2⟩ := hsl
      exact ⟨v, k1, k2.ext c.ext⟩
    | ow p e =>
      by_cases hm : i ∈ bws rs
      · obtain ⟨a, d', k1, k2, k3, k4⟩ := findH h1 hm
        rw [k1] at h2
        subst h2
        rw [k2] at ho
        cases ho
        exact ⟨a, rfl, k3, k4⟩
      · rw [findA_none hm] at h2
        subst h2
        obtain ⟨a, rfl, k2, k3⟩ := hsl
        have na : NotArg xs args a := notArg fun i' p' d' h1' h2' h3' => by
          have := rel.dis i i' a _ _ _ _ h1 h2' ho h3'
          subst this
          exact hm h1'
        refine ⟨a, rfl, fun z => ?_, k3.ext c.ext fun u hu => ?_⟩
        · rcases c.new a z with z | z
          · exact k2 z
          · obtain ⟨u, hu⟩ := k3.there
            rw [z] at hu
            cases hu
        · rcases c.keep a u hu na with k | ⟨ps, ps', k, _⟩
          · exact k
          · subst k
            cases e with
            | lst ds => obtain ⟨vs, y, _⟩ := k3; rw [hu] at y; cases y
            | ins C fs => obtain ⟨dx, fvs, y, _⟩ := k3; rw [hu] at y; cases y
            | _ => exact k3.elim
  · obtain ⟨d', h1⟩ := backOw h1
    obtain ⟨e', h2⟩ := backOw h2
    exact rel.dis i j a p q d' e' h1 h2 h3 h4
  · rcases c.new a h with z | z
    · exact rel.new a z
    · exact .inr (rel.h0 z)
  · rcases rel.keep b o h m with k | ⟨ps, ps', k1, k2⟩
    · refine c.keep b o k (notArg fun i p d h1 h2 h3 => ?_)
      cases p with
      | true => exact m i (rel.onl i b d h2 h3)
      | false =>
        rw [rel.own i b d h2 h3] at h
        cases h
    · have na : NotArg xs args b := notArg fun i p d h1 h2 h3 => by
        cases p with
        | true => exact m i (rel.onl i b d h2 h3)
        | false =>
          rw [rel.own i b d h2 h3] at h
          cases h
      rcases c.keep b _ k2 na with z | ⟨qs, qs', _, z⟩
      · exact .inr ⟨ps, ps', k1, z⟩
      · exact .inr ⟨ps, qs', k1, z⟩
  · obtain ⟨d', h1⟩ := backOw h1
    exact rel.own i a d' h1 h2
  · obtain ⟨h1, d, h2⟩ := rel.par i a h
    refine ⟨h1, ?_⟩
    unfold backS
    rw [List.getElem?_mapIdx, h2]
    cases z : findA i rs as with
    | none => exact ⟨d, by simp [z]⟩
    | some e => exact ⟨e, by simp [z]⟩
  · obtain ⟨d', h1⟩ := backOw h1
    exact rel.onl i a d' h1 h2
end
section
variable {X : Cx} {W : WX} {k : Nat} {f : Addr} {fd : FuncData} {ps : List Str} {m : List Sl → Fo} {x : Str} {p pos : Pos} {e : Expr} {es : List Expr} {ga : DS → AOut}
/-- the callee's wish, from the mirror's answer -/
theorem callS_sp {K : Fr} {B : Bs} {F1 : Addr → Prop} {H1 : Hp} {σ : St} {S1 : DS} {Q : VK} {n : Nat} {rs : List R} {vs : List V} (rel1 : Rel K B F1 S1 σ H1) (rv1 : RVsL K F1 σ H1 vs rs) (q : Po K W B S1 F1 H1 σ Q (callS n m rs S1)) : spD K n m vs H1 Q fun cls d H2 => W cls d σ H2 := by
  unfold callS at q
  split at q
  · rename_i nd
    cases qt : toArgs S1 rs with
    | none => rw [qt] at q; exact q.elim
    | some args =>
      rw [qt] at q
      dsimp only at q
      have A := args_of rel1 rv1 nd qt
      by_cases hlen : args.length = n
      · rw [if_pos hlen] at q
        refine ⟨F1, args, hlen, A, ?_⟩
        cases qm : m args with
        | stuck => rw [qm] at q; exact q
        | exc C fs as =>
          rw [qm] at q
          intro dx fvs H2 F2 c h1 h2 h3
          obtain ⟨x2, rel2⟩ := rel1.back rv1 nd qt c fun j _ => by
            by_cases z : ∃ d, args[j]? = some (.ow true d)
            · obtain ⟨d, z⟩ := z
              obtain ⟨d', y, _⟩ := c.own j d z
              exact .inl (List.getElem?_eq_some_iff.mp y).1
            · exact .inr fun d y => z ⟨d, y⟩
          exact q dx fvs H2 F2 x2 rel2 h1 (rel1.h0 h2) h3
        | ret rr as =>
          rw [qm] at q
          intro x2 H2 F2 c rv
          obtain ⟨x3, rel2⟩ := rel1.back rv1 nd qt c fun j _ => by
            by_cases z : ∃ d, args[j]? = some (.ow true d)
            · obtain ⟨d, z⟩ := z
              obtain ⟨d', y, _⟩ := c.own j d z
              exact .inl (List.getElem?_eq_some_iff.mp y).1
            · exact .inr fun d y => z ⟨d, y⟩
          cases rr with
          | bw i => exact rv.elim
          | v d => exact q x2 H2 F2 x3 rel2 rv
          | ow d =>
            obtain ⟨a, rfl, k1, k2, k3⟩ := rv
            refine q _ H2 F2 x3 rel2 ⟨a, rfl, k1, k2, rel1.h0 k3, k3, fun i pp d' h => ?_⟩
            obtain ⟨t, e1, e2⟩ := backS_get h
            cases t with
            | un => cases e2
            | fr e => cases e2
            | ow pq e => exact rel1.nSl k3 i pq e e1
      · rw [if_neg hlen] at q
        exact q.elim
  · exact q.elim
/-- f(e, ..), f a def of the text with the mirror m -/
theorem ev_call (F : FnG X.prog X.w X.K X.mg X.base (L2.CX X.prog X.w) k f fd ps (spD X.K ps.length m)) (hr : Room k X.A) (hgd : X.A.guards = some []) (tk : Takes X W) (hg : Gl X x) (hm : X.mg x = some (.ref f)) (hk : PySem.W.keepIn X.K (.ref f) = true) (hb : Binds X.K fd ps []) (ha : AV X W (e :: es) ga) 
    (hdb : (x == ("__debug__" : Str)) = false := by decide) (he : starEach (e :: es) X.env = (false, eval e X.env) :: starEach es X.env := by rfl) (hpl : (backTo pos (starEach es X.env)).any (·.1) = false := by rfl) :
    EV X W (.Call (.Name x p) (e :: es) [] pos) (callD ps.length m ga) := by
  refine ⟨⟨fun pins s σ H Q I ⟨B, F0, S, rel, q⟩ => ?_⟩⟩
  refine wpAny_Call_Name_kw (ld_glob I hg hm ?_ hdb)
  refine PySem.W.callWith_K (h₀ := X.base) I.ok.mod.kin hk (thn (ha.pa.run pos pins s σ H
    (fun vs H1 => spD X.K ps.length m vs H1 Q fun cls d H2 => W cls d σ H2) I ⟨B, F0, S, rel, ?_⟩) fun us s1 ⟨vs, H1, I1, r, q⟩ => ⟨I1.kIn, ?_⟩) he hpl
  · unfold callD at q
    cases qa : ga S with
    | stuck => rw [qa] at q; exact q
    | exc C fs S' => rw [qa] at q; exact q
    | ok rs S1 =>
      rw [qa] at q
      intro xs H1 F1 xt rel1 rv1
      exact callS_sp rel1 rv1 (Po.ext xt q)
  · refine run_fnG (E := fun cls d H2 => W cls d σ H2) (dvs := []) F hr hgd hb .nil (fun J e s' c => tk e s' (XE.of_call J (fun cls d H' h => h) c)) I1 r ?_
    rw [List.append_nil]
    exact q
/-- f(), f a def of the text -/
theorem ev_call0 (F : FnG X.prog X.w X.K X.mg X.base (L2.CX X.prog X.w) k f fd ps (spD X.K ps.length m)) (hr : Room k X.A) (hgd : X.A.guards = some []) (tk : Takes X W) (hg : Gl X x) (hm : X.mg x = some (.ref f)) (hk : PySem.W.keepIn X.K (.ref f) = true) (hb : Binds X.K fd ps [])
    (hdb : (x == ("__debug__" : Str)) = false := by decide) : EV X W (.Call (.Name x p) [] [] pos) (callD ps.length m aNil) := by
  refine ⟨⟨fun pins s σ H Q I ⟨B, F0, S, rel, q⟩ => ?_⟩⟩
  refine wpAny_Call_Name_kw (ld_glob I hg hm ?_ hdb)
  refine PySem.W.callWith_K0 I.kIn hk (run_fnG (us := []) (vs := []) (E := fun cls d H2 => W cls d σ H2) (dvs := []) F hr hgd hb .nil (fun J e s' c => tk e s' (XE.of_call J (fun cls d H' h => h) c)) I .nil ?_)
  exact callS_sp rel .nil q
end

/-! ### defs by name -/
/-- the def x of the text stands under its name -/
def DefIn (K : Fr) (mg : Str → Option Value) (x : Str) (st : Stmt) (ps : List Str) : Prop := ∃ f fd, Fun K x x st f fd ∧ mg x = some (.ref f) ∧ Binds K fd ps []
/-- .. and is the function m -/
def DefOk (P : Program) (w : World) (K : Fr) (mg : Str → Option Value) (base : Heap) (x : Str) (k : Nat) (ps : List Str) (m : List Sl → Fo) : Prop :=
  ∃ f fd, FnG P w K mg base (L2.CX P w) k f fd ps (spD K ps.length m) ∧ mg x = some (.ref f) ∧ PySem.W.keepIn K (.ref f) = true ∧ Binds K fd ps []
theorem DefIn.mk {K : Fr} {mg : Str → Option Value} {h : Heap} {x : Str} {st : Stmt} {ps : List Str} {f : Addr} {oc : Value} {od an : Option Addr} {osl : Array (Option Value)} {kV doc pm cdv ct : Value} (X : K.In h) (G : h.Ns mainGlobals mg) (a : PySem.W.nsIn K mainGlobals x = some (some (.ref f)))
    (l : K.lookup f = some ⟨oc, od, .func (PySem.W.fnOf x x (defArgs st) (defBody st) (defScope st) .none kV doc pm an cdv ct), osl⟩) (c : PySem.W.codeIn K cdv x = true) (k : PySem.W.keepIn K (.ref f) = true)
    (b : ∀ (kV doc pm : Value) (an : Option Addr) (cdv ct : Value) (us : List Value), us.length = ps.length → bindArgs (PySem.W.fnOf x x (defArgs st) (defBody st) (defScope st) .none kV doc pm an cdv ct) ⟨us, []⟩ = pure (ps.zip us)) : DefIn K mg x st ps :=
  ⟨f, _, fun_mk l c k, PySem.W.mg_of X G a, (fun_mk l c k).binds b⟩
theorem DefIn.ok {P : Program} {w : World} {K : Fr} {mg : Str → Option Value} {base : Heap} {x : Str} {st : Stmt} {ps : List Str} {k : Nat} {m : List Sl → Fo} (D : DefIn K mg x st ps)
    (h : ∀ f fd, Fun K x x st f fd → FnG P w K mg base (L2.CX P w) k f fd ps (spD K ps.length m)) : DefOk P w K mg base x k ps m := by
  obtain ⟨f, fd, F, h1, h2⟩ := D
  exact ⟨f, fd, h f fd F, h1, F.kp, h2⟩
theorem ev_callQ {X : Cx} {W : WX} {k n : Nat} {ps : List Str} {m : List Sl → Fo} {x : Str} {p pos : Pos} {e : Expr} {es : List Expr} {ga : DS → AOut} (D : DefOk X.prog X.w X.K X.mg X.base x k ps m) (hn : ps.length = n) (hr : Room k X.A) (hgd : X.A.guards = some []) (tk : Takes X W) (hg : Gl X x) (ha : AV X W (e :: es) ga)
    (hdb : (x == ("__debug__" : Str)) = false := by decide) (he : starEach (e :: es) X.env = (false, eval e X.env) :: starEach es X.env := by rfl) (hpl : (backTo pos (starEach es X.env)).any (·.1) = false := by rfl) :
    EV X W (.Call (.Name x p) (e :: es) [] pos) (callD n m ga) := by
  subst hn
  obtain ⟨f, fd, F, h1, h2, h3⟩ := D
  exact ev_call F hr hgd tk hg h1 h2 h3 ha hdb he hpl
/-- .. a def that may be called where something is being shown -/
def DefO (P : Program) (w : World) (K : Fr) (mg : Str → Option Value) (base : Heap) (x : Str) (k : Nat) (ps : List Str) (m : List Sl → Fo) : Prop :=
  ∃ f fd, FnOk P w K mg base (L2.CX P w) k f fd ps (spD K ps.length m) ∧ mg x = some (.ref f) ∧ PySem.W.keepIn K (.ref f) = true ∧ Binds K fd ps []
theorem DefIn.o {P : Program} {w : World} {K : Fr} {mg : Str → Option Value} {base : Heap} {x : Str} {st : Stmt} {ps : List Str} {k : Nat} {m : List Sl → Fo} (D : DefIn K mg x st ps)
    (h : ∀ f fd, Fun K x x st f fd → FnOk P w K mg base (L2.CX P w) k f fd ps (spD K ps.length m)) : DefO P w K mg base x k ps m := by
  obtain ⟨f, fd, F, h1, h2⟩ := D
  exact ⟨f, fd, h f fd F, h1, F.kp, h2⟩
/-- an exception of a callee, at these slots -/
def PassW (X : Cx) (σ : St) (E : XK) : Prop := ∀ (pins : List (Addr × Obj)) (H : Hp) (s : Shared) (e : Value) (s' : Shared), Inv X pins σ H s → L2.CX X.prog X.w X.stack H s E e s' → X.xe e s'
theorem passW {X : Cx} {W : WX} {σ : St} (tk : Takes X W) : PassW X σ fun cls d H2 => W cls d σ H2 := fun pins H s e s' J c => tk e s' (XE.of_call J (fun cls d H' h => h) c)
theorem run_fnO {X : Cx} {k : Nat} {f : Addr} {fd : FuncData} {ps : List Str} {sp : Sp} {E : XK} {pins : List (Addr × Obj)} {σ : St} {H : Hp} {s : Shared} {Q : VK} {us : List Value} {vs : List V} (F : FnOk X.prog X.w X.K X.mg X.base (L2.CX X.prog X.w) k f fd ps sp) (hr : Room k X.A)
    (hb : Binds X.K fd ps []) (hx : PassW X σ E) (I : Inv X pins σ H s) (r : Vals vs us) (h : sp vs H Q E) : wpAny (model X.prog X.w) X.A (call (.ref f) us) (EP X pins σ Q) X.xe s := by
  have cnt : us.length = ps.length := r.length.symm.trans (F.len _ _ _ _ h)
  have h' := hb s us I.kIn (by simpa using cnt)
  rw [List.append_nil] at h'
  apply wpAny_call
  apply codeAny_mono (F.run X.A X.stack s H ⟨us, []⟩ _ _ Q E hr I.env0 h' r h)
  intro r s' q
  match r, q with
  | .error e, q => exact hx pins H s e s' I q
  | .ok (.ret u), q => exact I.after q
  | .ok .next, q => exact q.elim
  | .ok .brk, q => exact q.elim
  | .ok .cont, q => exact q.elim
theorem ev_callO {X : Cx} {W : WX} {k n : Nat} {ps : List Str} {m : List Sl → Fo} {x : Str} {p pos : Pos} {e : Expr} {es : List Expr} {ga : DS → AOut} (D : DefO X.prog X.w X.K X.mg X.base x k ps m) (hn : ps.length = n) (hr : Room k X.A) (tk : Takes X W) (hg : Gl X x) (ha : AV X W (e :: es) ga)
    (hdb : (x == ("__debug__" : Str)) = false := by decide) (he : starEach (e :: es) X.env = (false, eval e X.env) :: starEach es X.env := by rfl) (hpl : (backTo pos (starEach es X.env)).any (·.1) = false := by rfl) :
    EV X W (.Call (.Name x p) (e :: es) [] pos) (callD n m ga) := by
  subst hn
  obtain ⟨f, fd, F, hm, hk, hb⟩ := D
  refine ⟨⟨fun pins s σ H Q I ⟨B, F0, S, rel, q⟩ => ?_⟩⟩
  refine wpAny_Call_Name_kw (ld_glob I hg hm ?_ hdb)
  refine PySem.W.callWith_K (h₀ := X.base) I.ok.mod.kin hk (thn (ha.pa.run pos pins s σ H
    (fun vs H1 => spD X.K ps.length m vs H1 Q fun cls d H2 => W cls d σ H2) I ⟨B, F0, S, rel, ?_⟩) fun us s1 ⟨vs, H1, I1, r, q⟩ => ⟨I1.kIn, ?_⟩) he hpl
  · unfold callD at q
    cases qa : ga S with
    | stuck => rw [qa] at q; exact q
    | exc C fs S' => rw [qa] at q; exact q
    | ok rs S1 =>
      rw [qa] at q
      intro xs H1 F1 xt rel1 rv1
      exact callS_sp rel1 rv1 (Po.ext xt q)
  · exact run_fnO F hr hb (passW tk) I1 r q
/-- no exception goes out of a comprehension -/
theorem takesW0 {X : Cx} : Takes X W0 := L2.takes0
end DL
namespace DL
open PySem PySem.Spec PyProof.Rows L2
variable [Nm]

/-! ### enumerate(tuple) -/
theorem enumT_new {v : Value} {o : Obj} {P : Heap → Prop} (B : Begins v o P) : Meets (Builtin.«enumerate.__new__» ⟨[.type "enumerate", v], []⟩)
    (fun _ R s => P s.heap ∧ R (.ok (.ret (.ref (s.heap.push o).objs.size))) { s with heap := (s.heap.push o).push { cls := .type "enumerate", data := .fields #[.none, .bool false, .ref s.heap.objs.size, rawInt 0, .none, .none] } }) :=
  .of_wp fun prog w A R s h => by
    obtain ⟨hp, g, d, tk, os⟩ := s
    obtain ⟨h1, h⟩ := h
    have hsub := sub_enumerate
    have q1 : ∀ {A' : Around} {E : Value → Shared → Prop} {Q : Value → Shared → Prop}, Q (.ref hp.objs.size) ⟨hp.push o, g, d, tk, os⟩ → wpAny (model prog w) A' (pyIter v) Q E ⟨hp, g, d, tk, os⟩ :=
      fun q => B.iter prog w _ _ ⟨hp, g, d, tk, os⟩ _ h1 q
    wp_walk using q1
    refine wpAny_stack_any fun st => wpAny_pure ?_
    split
    · rename_i c _ _ _ _ _
      cases (c == Value.type "enumerate")
      · wp_walk using q1
        exact ⟨_, rfl, h⟩
      · wp_walk using q1
        exact ⟨_, rfl, h⟩
    · wp_walk using q1
      exact ⟨_, rfl, h⟩
theorem enumT_call {prog : Program} {w : World} {A : Around} {E : Value → Shared → Prop} {s : Shared} {v : Value} {o : Obj} {P : Heap → Prop} {Q : Value → Shared → Prop} (B : Begins v o P) (h1 : P s.heap)
    (h : ∀ h', IsEnum h' (s.heap.objs.size + 1) s.heap.objs.size 0 .none → h'.get? s.heap.objs.size = some o → (∀ b u, s.heap.get? b = some u → h'.get? b = some u) → Q (.ref (s.heap.objs.size + 1)) { s with heap := h' }) :
    wpAny (model prog w) A (call (.type "enumerate") [v]) Q E s := by
  refine callType_new F.called_enumerate (by decide) (F.typeCall_enumerate_1 _) (F.newCall_enumerate_1 _) (fun obj => F.args_object_init_2 obj _) F.entry_enumerate_new (enumT_new B) ⟨h1, ?_⟩
  have hz : (s.heap.push o).objs.size = s.heap.objs.size + 1 := Heap.size_push ..
  show _ ∧ _
  rw [hz]
  have he : IsEnum ((s.heap.push o).push { cls := .type "enumerate", data := .fields #[.none, .bool false, .ref s.heap.objs.size, rawInt 0, .none, .none] }) (s.heap.objs.size + 1) s.heap.objs.size 0 .none := by
    have q := Heap.get?_push_size (s.heap.push o) (o := { cls := .type "enumerate", data := .fields #[.none, .bool false, .ref s.heap.objs.size, rawInt 0, .none, .none] }) rfl
    rw [hz] at q
    exact q
  exact ⟨⟨_, he, rfl⟩, h _ he (Heap.get?_push_of_some _ (Heap.get?_push_size _ B.free)) fun b u x => Heap.get?_push_of_some _ (Heap.get?_push_of_some _ x)⟩
/-- the tuple at a, each item in a new pair -/
def Iet (K : Fr) (a : Addr) : It :=
  ⟨fun i H => ∃ (xs : List V) (x : V), SqT K H a xs ∧ xs[i]? = some x, fun i H v H' => ∃ T x, v = .ref T ∧ H T = none ∧ H' = upd H T (.tup [.int (i : Nat), x]) ∧ ∀ xs, SqT K H a xs → xs[i]? = some x, fun i H => ∃ xs : List V, SqT K H a xs ∧ xs.length = i⟩
theorem enumT_turn {P : Program} {w : World} {K : Fr} {elts : List Expr} {kk : Nat} {tpos : Pos} (a e it : Addr) (hta : a ≠ it) :
    Turn P w K (.Tuple elts kk tpos) (Iet K a) [e, it] e (fun i h => (∃ old, IsEnum h e it ((i : Nat) : Int) old) ∧ h.IsTupleIter it a i ∧ e ≠ it ∧ e ≠ a) where
  mem := by simp
  obj := fun i h st b hb => by
    obtain ⟨⟨old, he⟩, ⟨o, ho, hc, hd⟩, _⟩ := st
    have e' : b = e ∨ b = it := by simpa using hb
    rcases e' with z | z
    · rw [z]; exact ⟨_, he, fun v q => nomatch q⟩
    · rw [z]; exact ⟨o, ho, fun v q => by rw [hd] at q; cases q⟩
  keep := fun i h h' st k => let ⟨⟨old, he⟩, ⟨o, ho, r⟩, hne⟩ := st; ⟨⟨old, k e (by simp) _ he⟩, ⟨o, k it (by simp) o ho, r⟩, hne⟩
  item := by
    intro X hP hw hK hc i pins s σ H E I hf st hg
    subst hP hw hK
    obtain ⟨⟨old, he⟩, hit, hne, hea⟩ := st
    obtain ⟨xs, x, hq, hx⟩ := hg
    obtain ⟨its, rv, p, hz⟩ := I.tuple hq
    obtain ⟨u, hu, ru⟩ := rv.get hx
    have hel : e < s.heap.objs.size := Heap.lt_size he
    have hil : it < s.heap.objs.size := by obtain ⟨_, q, _⟩ := hit; exact Heap.lt_size q
    have hi : i < its.toArray.size := by
      have := (List.getElem?_eq_some_iff.mp hu).1
      simpa using this
    refine wpAny_pyNext_enum_itemD (Draws.tuple (prog := X.prog) (w := X.w) (A := X.A.in1) (I.ok.hd hc) it a hta its.toArray) he ⟨hit, p⟩ hi hne (by simp [hne, hea]) fun x' h' tk hP ho hst hT hsz hk => ?_
    have ex : x' = u := by
      have : its[i]? = some x' := by simpa using hP
      rw [hu] at this
      cases this
      rfl
    subst ex
    refine ⟨_, rfl, wpAny_letOwnedTupleGo_enum (s := { s with heap := h', toks := tk + 1 }) ho fun h'' he' sb => ?_⟩
    have hT2 : h''.get? s.heap.objs.size = some { cls := .type "tuple", data := .seq #[.int i tk, x'] } := (sb.2 _ (Nat.ne_of_gt hel)).trans hT
    have new : ObjOk X.prog X.w (upd H s.heap.objs.size (.tup [.int (i : Nat), x])) h'' s.heap.objs.size (.tup [.int (i : Nat), x]) :=
      ⟨by show 2 ≤ sizeLine; decide, [.int i tk, x'], .cons ⟨_, rfl⟩ (.cons ru .nil), ⟨_, hT2, rfl, _, rfl⟩⟩
    have I1 : Inv X pins σ (upd H s.heap.objs.size (.tup [.int (i : Nat), x])) { s with heap := h'', toks := tk + 1 } :=
      I.turnedNew (ch := [e, it]) (fun b ob hb q => (sb.2 b (fun z => hb (by simp [z]))).trans (hk b ob (fun z => hb (by simp [z])) (fun z => hb (by simp [z])) q)) hf (Nat.le_refl _) new
    refine ⟨.ref s.heap.objs.size, _, I1, rfl, ⟨_, x, rfl, I.hok.fresh (Nat.le_refl _), rfl, fun ys hy => by rw [I.tuple_inj hy hq]; exact hx⟩, ⟨⟨x', ?_⟩, ?_, hne, hea⟩, fun b hb => ?_⟩
    · have e1 : ((i + 1 : Nat) : Int) = (i : Int) + 1 := by omega
      rw [e1]; exact he'
    · obtain ⟨o, ho', r⟩ := hst.1
      exact ⟨o, (sb.2 it (Ne.symm hne)).trans ho', r⟩
    · have hb' : b < s.heap.objs.size := by
        have e' : b = e ∨ b = it := by simpa using hb
        rcases e' with z | z
        · rw [z]; exact hel
        · rw [z]; exact hil
      rw [upd_ne (Nat.ne_of_lt hb')]
      exact (hf b hb).1
  done := by
    intro X hP hw hK hc i pins s σ H E I hf st hg
    subst hP hw hK
    obtain ⟨⟨old, he⟩, hit, hne, hea⟩ := st
    obtain ⟨xs, hq, hx⟩ := hg
    obtain ⟨its, rv, p, hz⟩ := I.tuple hq
    obtain ⟨f0, f1, f2, f3, f4, f5⟩ := hf it (by simp)
    have hl : its.toArray.size = i := by
      have := rv.length
      simp
      omega
    subst hl
    exact wpAny_pyNext_enum_endD (Draws.tuple (prog := X.prog) (w := X.w) (A := X.A.in1) (I.ok.hd hc) it a hta its.toArray) he ⟨hit, p⟩ fun h' eb => ⟨rfl, I.turned (t' := s.toks) (fun b o hb q => eb b o hb q) f0 f1 f3 f4 f5⟩
  self := fun A i s Q E st h => let ⟨⟨_, he⟩, _⟩ := st; wpAny_pyIter_enum he h
def iEnumT (K : Fr) (ta : TA) : TI := fun σ H R => ta σ H fun vs H1 => ∃ a xs, vs = [.ref a] ∧ SqT K H1 a xs ∧ R (Iet K a) H1
theorem pi_enumT {X : Cx} {e : Expr} {ta : TA} {p pos tpos : Pos} {elts : List Expr} {kk : Nat} (hg : Gl X "enumerate") (hm : X.mg "enumerate" = none) (ha : PA X [e] ta) (hs : starEach [e] X.env = [(false, eval e X.env)] := by rfl) :
    PI X (.Tuple elts kk tpos) (.Call (.Name "enumerate" p) [e] [] pos) (iEnumT X.K ta) := by
  refine ⟨fun pins s σ H R I h => ?_⟩
  refine Call_ (ld_blt I hg hm boot_enumerate (PyProof.Rows.callWith_type1 (thn (ha.run pos pins s σ H _ I h) fun us s1 ⟨vs, H1, I1, r1, q1⟩ => ?_) hs rfl))
  obtain ⟨a, xs, ex, hq, q⟩ := q1
  subst ex
  match r1 with
  | .cons r .nil =>
    cases r
    obtain ⟨its, rv, p', hz⟩ := I1.tuple hq
    have hal : a < s1.heap.objs.size := by obtain ⟨o, ho, _⟩ := p'; exact Heap.lt_size ho
    refine enumT_call (begins_tuple a its.toArray) p' fun h' he hit hk => wpAny_pyIter_enum he ?_
    have I2 : Inv X pins σ H1 { s1 with heap := h' } := I1.kept (t' := s1.toks) hk
    refine ⟨s1.heap.objs.size + 1, [s1.heap.objs.size + 1, s1.heap.objs.size], _, _, H1, rfl, I2, enumT_turn a (s1.heap.objs.size + 1) s1.heap.objs.size (Nat.ne_of_lt hal), ⟨⟨.none, he⟩, ⟨_, hit, rfl, rfl⟩, Nat.succ_ne_self _, Nat.ne_of_gt (Nat.lt_succ_of_lt hal)⟩, fun b hb => ?_, q⟩
    have e' : b = s1.heap.objs.size + 1 ∨ b = s1.heap.objs.size := by simpa using hb
    have hle : s1.heap.objs.size ≤ b := by
      rcases e' with z | z
      · rw [z]; exact Nat.le_add_right _ _
      · rw [z]; exact Nat.le_refl _
    exact I1.fpOk hle (I1.hok.fresh hle)
def iEnT (ga : DS → AOut) : DS → IOut := fun S => match ga S with
  | .ok [.v (.tup ds)] S' => .ok (enumL ds) S'
  | .exc C fs S' => .exc C fs S'
  | _ => .stuck
theorem iv_enumT {X : Cx} {W : WX} {e : Expr} {ga : DS → AOut} {p0 p1 : Pos} {elts : List Expr} {kk : Nat} {tpos : Pos} (hg : Gl X "enumerate") (hm : X.mg "enumerate" = none) (a : AV X W [e] ga) (h1 : starEach [e] X.env = [(false, eval e X.env)] := by rfl) : IV X W (.Tuple elts kk tpos) (.Call (.Name "enumerate" p0) [e] [] p1) (iEnT ga) := by
  refine ⟨PI.imp (pi_enumT hg hm a.pa h1) fun σ H R ⟨B, F, S, rel, p⟩ => ⟨B, F, S, rel, ?_⟩⟩
  unfold iEnT at p
  split at p
  · rename_i ds S' q
    rw [q]
    intro xs H1 F1 xt rel1 rv1
    match rv1 with
    | @RVsL.cons _ _ _ _ x0 _ _ _ h .nil =>
      have h : At X.K F1 H1 x0 (.tup ds) := h
      have key : ∃ a vs, [x0] = [V.ref a] ∧ Ats X.K F1 H1 vs ds ∧ ∀ F' H', Ext F1 H1 F' H' → SqT X.K H' a vs := by
        cases h with
        | @tup a vs _ fa ha t => exact ⟨a, vs, rfl, t, fun F' H' e => .inl (rdKeep e fa ha)⟩
        | @ktup a vs _ ha t => exact ⟨a, vs, rfl, t, fun F' H' _ => ha.sq⟩
      obtain ⟨a, vs, exs, t, sq⟩ := key
      have len : (enumL ds).length = vs.length := by rw [t.length]; simp [enumL]
      refine ⟨a, vs, exs, sq F1 H1 (Ext.refl _ _), p _ _ _ xt rel1 ⟨fun i F' H' e hi => ?_, fun F' H' e => ?_, fun i F' H' x H2 e hi y => ?_⟩⟩
      · rw [len] at hi
        exact ⟨vs, _, sq F' H' e, List.getElem?_eq_getElem hi⟩
      · exact ⟨vs, sq F' H' e, len.symm⟩
      · obtain ⟨T, x', rfl, hT, rfl, q⟩ := y
        obtain ⟨d, hd, ad⟩ := t.get (q vs (sq F' H' e))
        have k : ∀ b o, H' b = some o → upd H' T (.tup [.int (i : Nat), x']) b = some o := fun b o h => by rw [upd_ne (ne_of_none h hT)]; exact h
        refine ⟨fun b => F' b ∨ b = T, _, enumL_get hd, k, fun _ h => .inl h, fun b h => ?_, upd_nt (by intro ps z; cases z), .tup (.inr rfl) (.inl upd_same) (.cons (.int _) (.cons ((ad.ext e).ext ⟨fun _ h => .inl h, fun b o _ h _ => k b o h, fun c q h => k c _ h⟩) .nil))⟩
        rcases h with h | h
        · exact .inl h
        · rw [h]
          exact .inr ⟨hT, _, upd_same⟩
  · rename_i C fs S' q
    rw [q]
    exact p
  · exact p.elim
end DL
namespace DL
open PySem PySem.Spec PyProof.Rows L2
variable [Nm]

section
variable {X : Cx} {W : WX} {e e1 e2 e3 o : Expr} {es : List Expr} {f g h : DS → Out} {ga : DS → AOut} {pos : Pos}
/-! ### minus -/
def negD (f : DS → Out) : DS → Out := bnd f fun r S => match r with
  | .v (.int i) => .ok (.v (.int (-i))) S
  | _ => .stuck
theorem ev_neg (a : EV X W e f) : EV X W (.UnaryOp .USub e pos) (negD f) := by
  refine ⟨PE.imp (pe_un un_neg a.pe) fun σ H Q ⟨B, F, S, rel, p⟩ => ?_⟩
  obtain ⟨B1, F1, S1, rel1, p1⟩ := tE_bnd rel p
  refine ⟨B1, F1, S1, rel1, Po.imp ?_ p1⟩
  rintro x H1 ⟨F2, S2, r, x2, rel2, rv2, p2⟩
  match r, rv2, p2 with
  | .v (.int i), rv2, p2 => exact ⟨i, At.intI rv2, PoOk.val p2 rel2 (.int _)⟩

/-! ### a < b < c -/
def chainD (o o' : D → D → Option R) (f g h : DS → Out) : DS → Out := bnd f fun ra => bnd g fun rb => bnd (lift2 o ra rb) fun rc S => match rc with
  | .v (.bl true) => bnd h (fun rd => lift2 o' rb rd) S
  | .v (.bl false) => .ok (.v (.bl false)) S
  | _ => .stuck
theorem lift2_bnd {K : Fr} {B : Bs} {F : Addr → Prop} {S : DS} {σ : St} {H : Hp} {x y : V} {ra rb : R} {Q : VK} {r : R2} {o : D → D → Option R} {k : R → DS → Out} (hd : OpD K r o) (rel : Rel K B F S σ H) (sa : RVs K F σ H x ra) (sb : RVs K F σ H y rb) (p : Po K W B S F H σ Q (bnd (lift2 o ra rb) k S)) {Q' : VK} (up : ∀ z H1, Mid K W B S F H σ Q k z H1 → Q' z H1) : r x y H Q' := by
  unfold bnd lift2 at p
  cases ha : ra.get S with
  | none => rw [ha] at p; exact p.elim
  | some a =>
    cases hb : rb.get S with
    | none => rw [ha, hb] at p; exact p.elim
    | some b =>
      rw [ha, hb] at p
      dsimp only at p
      cases hr : o a b with
      | none => rw [hr] at p; exact p.elim
      | some rr =>
        rw [hr] at p
        exact hd _ _ _ _ _ x y a b rr _ rel (sa.rds rel ha) (sb.rds rel hb) hr fun z H1 F1 ext rel1 rv => up _ _ ⟨F1, S, rr, ext, rel1, rv, Po.ext ext p⟩
theorem tChain_of {K : Fr} {r r' : R2} {o o' : D → D → Option R} (hd : OpD K r o) (hd' : OpD K r' o') {σ : St} {H : Hp} {Q : VK} (q : tE K W (chainD o o' f g h) σ H Q) : tChain r r' (tE K W f) (tE K W g) (tE K W h) σ H Q := by
  obtain ⟨B, F, S, rel, p⟩ := q
  obtain ⟨B1, F1, S1, rel1, p1⟩ := tE_bnd rel p
  refine ⟨B1, F1, S1, rel1, Po.imp ?_ p1⟩
  rintro x H1 ⟨F2, S2, ra, x2, rel2, rv2, p2⟩
  obtain ⟨B3, F3, S3, rel3, p3⟩ := tE_bnd rel2 p2
  refine ⟨B3, F3, S3, rel3, Po.imp ?_ p3⟩
  rintro y H2 ⟨F4, S4, rb, x4, rel4, rv4, p4⟩
  have sa := RVs.ext x4.toExt rv2.s
  refine lift2_bnd hd rel4 sa rv4.s p4 ?_
  · rintro z H3 ⟨F5, S5, rc, x5, rel5, rv5, p5⟩
    match rc, rv5, p5 with
    | .v (.bl true), rv5, p5 =>
      refine ⟨true, blOf rv5, iteT ?_⟩
      obtain ⟨B6, F6, S6, rel6, p6⟩ := tE_bnd rel5 p5
      refine ⟨B6, F6, S6, rel6, Po.imp ?_ p6⟩
      rintro w' H4 ⟨F7, S7, rd, x7, rel7, rv7, p7⟩
      exact lift2_po hd' rel7 (RVs.ext x7.toExt (RVs.ext x5.toExt rv4.s)) rv7.s p7
    | .v (.bl false), rv5, p5 => exact ⟨false, blOf rv5, iteF (PoOk.val p5 rel5 (.bl false))⟩
theorem ev_chain {op op' : CmpOp} {r r' : R2} {o o' : D → D → Option R} (ho : OpR X (compareOp op) r) (ho' : OpR X (compareOp op') r') (hd : OpD X.K r o) (hd' : OpD X.K r' o') (a : EV X W e1 f) (b : EV X W e2 g) (c : EV X W e3 h) (hm : lastMarks [op, op'] [e2, e3] = false := by with_unfolding_all rfl) : EV X W (.Compare e1 [op, op'] [e2, e3] pos) (chainD o o' f g h) :=
  ⟨PE.imp (pe_chain ho ho' a.pe b.pe c.pe hm) fun σ H Q q => tChain_of hd hd' q⟩
theorem tv_chain {op op' : CmpOp} {r r' : R2} {o o' : D → D → Option R} (ho : OpR X (compareOp op) r) (ho' : OpR X (compareOp op') r') (hd : OpD X.K r o) (hd' : OpD X.K r' o') (a : EV X W e1 f) (b : EV X W e2 g) (c : EV X W e3 h) (hm : lastMarks [op, op'] [e2, e3] = false := by with_unfolding_all rfl) : TV X W (.Compare e1 [op, op'] [e2, e3] pos) (chainD o o' f g h) :=
  ⟨PT.imp (pt_chain ho ho' a.pe b.pe c.pe hm) fun σ H Q q => tChain_of hd hd' q⟩

/-! ### *e among arguments -/
def aStar (f : DS → Out) (ga : DS → AOut) : DS → AOut := fun S => match f S with
  | .ok r S1 => match r.get S1 with
    | some (.lst ds) => match ga S1 with
      | .ok rs S2 => .ok (ds.map R.v ++ rs) S2
      | o => o
    | some (.tup ds) => match ga S1 with
      | .ok rs S2 => .ok (ds.map R.v ++ rs) S2
      | o => o
    | _ => .stuck
  | .exc C fs S' => .exc C fs S'
  | .stuck => .stuck
theorem Ats.rvs {K : Fr} {F : Addr → Prop} {σ : St} {H : Hp} : ∀ {vs : List V} {ds : List D} {ws : List V} {rs : List R}, Ats K F H vs ds → RVsL K F σ H ws rs → RVsL K F σ H (vs ++ ws) (ds.map R.v ++ rs)
  | _, _, _, _, .nil, t => t
  | _, _, _, _, .cons a b, t => .cons a (Ats.rvs b t)
theorem av_star {p : Pos} (a : EV X W e f) (b : AV X W es ga) (hs : starEach (.Starred e p :: es) X.env = (true, eval e X.env) :: starEach es X.env := by rfl) : AV X W (.Starred e p :: es) (aStar f ga) := by
  refine ⟨PA.imp (StX.pa_star a.pe b.pa hs) fun σ H Q ⟨B, F, S, rel, p⟩ => ⟨B, F, S, rel, ?_⟩⟩
  unfold aStar at p
  cases e1 : f S with
  | stuck => rw [e1] at p; exact p
  | exc C fs S' => rw [e1] at p; exact p
  | ok r S1 =>
    rw [e1] at p
    dsimp only at p
    intro x H1 F1 x1 rel1 rv1
    have fin : ∀ (ds : List D) (vs : List V), Ats X.K F1 H1 vs ds → PoA X.K W B S F H σ Q (match ga S1 with
        | .ok rs S2 => .ok (ds.map R.v ++ rs) S2
        | o => o) → tA X.K W ga σ H1 fun ys H2 => Q (vs ++ ys) H2 := by
      intro ds vs t p
      refine ⟨B, F1, S1, rel1, ?_⟩
      cases e2 : ga S1 with
      | stuck => rw [e2] at p; exact p
      | exc C fs S' => rw [e2] at p; exact PoEx.ext x1 p
      | ok rs S2 =>
        rw [e2] at p
        exact fun ys H2 F2 x2 rel2 rv2 => p _ _ _ (x1.trans x2) rel2 ((t.ext x2.toExt).rvs rv2)
    cases hg : r.get S1 with
    | none => rw [hg] at p; exact p.elim
    | some d =>
      rw [hg] at p
      have rd := rv1.s.rds rel1 hg
      cases d with
      | lst ds =>
        obtain ⟨l, vs, rfl, h1, t⟩ := rd.lst
        exact ⟨l, vs, rfl, .inr (.inl (.inl h1)), fin ds vs t p⟩
      | tup ds =>
        obtain ⟨l, vs, rfl, h1, t⟩ := rd.tup
        exact ⟨l, vs, rfl, .inl h1, fin ds vs t p⟩
      | _ => exact p.elim

/-! ### isinstance -/
theorem ev_bty {x : Str} {n : String} (hg : Gl X x) (hm : X.mg x = none) (hv : bootBuiltins x = some (.type n)) (hn : x ≠ "__name__" := by decide) (hd : (x == ("__debug__" : Str)) = false := by decide) : EV X W (.Name x pos) (cst (.ty n)) :=
  ev_cst (pe_bltn (v := V.ty n) hg hm hv rfl hn hd) fun _ _ => .ty n
theorem ev_own {x : Str} {C : Addr} (hg : Gl X x) (hm : X.mg x = some (.ref C)) (hd : (x == ("__debug__" : Str)) = false := by decide) : EV X W (.Name x pos) (cst (.cls C)) :=
  ev_cst (pe_glob (v := V.ref C) hg hm rfl hd) fun _ _ => .cls C
def tyN : D → Option String
  | .non => some "NoneType"
  | .bl _ => some "bool"
  | .int _ => some "int"
  | .str _ => some "str"
  | .lst _ => some "list"
  | .scr _ => some "list"
  | .tup _ => some "tuple"
  | .dct _ => some "dict"
  | _ => none
theorem tyX_of {K : Fr} {F : Addr → Prop} {H : Hp} {x : V} {d : D} {t : String} (h : Rds K F H x d) (e : tyN d = some t) : TyX K H x (.type t) := by
  unfold tyN at e
  split at e
  · cases e; rw [h.non]; exact .base .non
  · cases e; rw [h.bl]; exact .base (.bl _)
  · cases e; rw [h.int]; exact .base (.int _)
  · cases e; rw [h.str]; exact .base (.str _)
  · cases e
    obtain ⟨a, vs, rfl, h1, _⟩ := h.lst
    exact .base (.lst h1)
  · cases e
    obtain ⟨a, rfl, h1⟩ := h.scr
    rcases h1 with (h1 | ⟨o, h1⟩) | ⟨o, its, n, k, c, _⟩
    · exact .base (.lst h1)
    · exact .base (.frz h1)
    · exact .kList k c
  · cases e
    obtain ⟨a, vs, rfl, h1, _⟩ := h.tup
    rcases h1 with (h1 | ⟨o, h1⟩) | ⟨o, its, n, k, c, _⟩
    · exact .base (.tup h1)
    · exact .fTuple h1
    · exact .kTuple k c
  · cases e
    rcases h with h | ⟨_, _, h⟩
    · cases h with
      | dct f h t =>
        rcases h with h | ⟨o, h⟩
        · exact .base (.dK h)
        · exact .fDict h
    · exact h.elim
  · cases e
def isiB : List D → Option R
  | [d, .ty n] => match tyN d with
    | some t => match kitB t n with
      | some b => some (.v (.bl b))
      | none => none
    | none => none
  | _ => none
theorem isiB_ok {K : Fr} : CaD K (rIsi K) isiB := by
  intro B F S σ H xs ds rr Q rel hx e p
  unfold isiB at e
  split at e
  · rename_i d n
    cases ht : tyN d with
    | none => rw [ht] at e; cases e
    | some t =>
      rw [ht] at e
      dsimp only at e
      cases hk : kitB t n with
      | none => rw [hk] at e; cases e
      | some b =>
        rw [hk] at e
        cases e
        match hx with
        | .cons h1 (.cons h2 .nil) =>
          rw [h2.ty]
          exact ⟨_, _, _, _, b, rfl, .ty n, tyX_of h1 ht, kit_ty hk, PoOk.val p rel (.bl b)⟩
  · cases e
theorem ev_isiB {p : Pos} (hg : Gl X "isinstance") (hm : X.mg "isinstance" = none) (a : AV X W (e :: es) ga) (he : starEach (e :: es) X.env = (false, eval e X.env) :: starEach es X.env := by rfl) (hpl : (backTo pos (starEach es X.env)).any (·.1) = false := by rfl) : EV X W (.Call (.Name "isinstance" p) (e :: es) [] pos) (liftL isiB ga) :=
  ev_cb call_isi isiB_ok hg hm boot_isinstance a (by decide) (by decide) he hpl
/-- instances of the class at C can be asked for their class -/
structure InsK (K : Fr) (C : Addr) : Prop where
  cl : Cls K C
  ha : PySem.W.findIn K (.ref C) "__class__" = some (some (.builtin "object.__class__"))
  hn : PySem.W.specialIn K (.builtin "object.__class__") "__get__" = some (some (.builtin "getset_descriptor.__get__"))
  tk : PySem.W.takesIn K (.builtin "object.__class__") = some true
  mr : PySem.W.mroIn K C (.type "object") = some true
/-- isinstance(.., C): T tells it of instances of own classes -/
structure IsiC (K : Fr) (C : Addr) (T : Addr → Option Bool) : Prop where
  bt : ∀ t ∈ ["NoneType", "bool", "int", "str", "list", "tuple", "dict"], PySem.W.kitOne K (.type t) (.ref C) = some false
  own : ∀ C' b, T C' = some b → PySem.W.kitOne K (.ref C') (.ref C) = some b ∧ InsK K C'
def isiO (C : Addr) (T : Addr → Option Bool) : List D → Option R
  | [.ins C' _, .cls c] => if c = C then (match T C' with
    | some b => some (.v (.bl b))
    | none => none) else none
  | [d, .cls c] => if c = C then (match tyN d with
    | some _ => some (.v (.bl false))
    | none => none) else none
  | _ => none
theorem tyN_mem {d : D} {t : String} (e : tyN d = some t) : t ∈ ["NoneType", "bool", "int", "str", "list", "tuple", "dict"] := by
  unfold tyN at e
  split at e <;> cases e <;> simp
theorem Rds.ins {K : Fr} {F : Addr → Prop} {H : Hp} {x : V} {C : Addr} {fs : List (Str × D)} (h : Rds K F H x (.ins C fs)) : ∃ a dx fvs, x = .ref a ∧ H a = some (.ins C dx fvs) ∧ Fts K F H fvs fs := by
  rcases h with h | ⟨a, h1, dx, fvs, h2, h3⟩
  · cases h with
    | ins f h t => exact ⟨_, _, _, rfl, h, t⟩
  · exact ⟨a, dx, fvs, h1, h2, h3⟩
theorem isiO_ok {K : Fr} {C : Addr} {T : Addr → Option Bool} (I : IsiC K C T) : CaD K (rIsi K) (isiO C T) := by
  intro B F S σ H xs ds rr Q rel hx e p
  unfold isiO at e
  split at e
  · rename_i C' fs c
    split at e
    · rename_i hc
      subst hc
      cases ht : T C' with
      | none => rw [ht] at e; cases e
      | some b =>
        rw [ht] at e
        cases e
        obtain ⟨k, z⟩ := I.own C' b ht
        match hx with
        | .cons h1 (.cons h2 .nil) =>
          rw [h2.cls]
          obtain ⟨a, dx, fvs, rfl, h3, _⟩ := h1.ins
          exact ⟨_, _, _, _, b, rfl, .own _, .base (.ins h3 z.cl z.ha z.hn z.tk z.mr), k, PoOk.val p rel (.bl b)⟩
    · cases e
  · rename_i d c _
    split at e
    · rename_i hc
      subst hc
      cases ht : tyN d with
      | none => rw [ht] at e; cases e
      | some t =>
        rw [ht] at e
        cases e
        match hx with
        | .cons h1 (.cons h2 .nil) =>
          rw [h2.cls]
          exact ⟨_, _, _, _, false, rfl, .own _, tyX_of h1 ht, I.bt t (tyN_mem ht), PoOk.val p rel (.bl false)⟩
    · cases e
  · cases e
theorem ev_isiO {p : Pos} {C : Addr} {T : Addr → Option Bool} (I : IsiC X.K C T) (hg : Gl X "isinstance") (hm : X.mg "isinstance" = none) (a : AV X W (e :: es) ga) (he : starEach (e :: es) X.env = (false, eval e X.env) :: starEach es X.env := by rfl) (hpl : (backTo pos (starEach es X.env)).any (·.1) = false := by rfl) : EV X W (.Call (.Name "isinstance" p) (e :: es) [] pos) (liftL (isiO C T) ga) :=
  ev_cb call_isi (isiO_ok I) hg hm boot_isinstance a (by decide) (by decide) he hpl

/-! ### texts -/
/-- the texts among trees -/
def strsD : List D → Option (List Str)
  | [] => some []
  | .str x :: ds => match strsD ds with
    | some xs => some (x :: xs)
    | none => none
  | _ => none
theorem strsD_vs {K : Fr} {F : Addr → Prop} {H : Hp} : ∀ {vs : List V} {ds : List D} {xs : List Str}, Ats K F H vs ds → strsD ds = some xs → vs = xs.map V.str
  | _, _, _, .nil, e => by cases e; rfl
  | _, _, _, @Ats.cons _ _ _ v d vs ds a t, e => by
    cases d with
    | str x =>
      simp only [strsD] at e
      cases q : strsD ds with
      | none => rw [q] at e; cases e
      | some ys =>
        rw [q] at e
        cases e
        rw [a.strI, strsD_vs t q]
        rfl
    | _ => simp [strsD] at e
def joinD : D → List D → Option R
  | .str a, [d] => match (match d with
    | .lst ds => strsD ds
    | .tup ds => strsD ds
    | _ => none) with
    | some ys => if (ys.map (·.length)).sum + ys.length * a.length ≤ 16777216 then some (.v (.str (Txt.join a ys))) else none
    | none => none
  | _, _ => none
abbrev rJoin (K : Fr) : V → List V → Hp → VK → Prop := fun x xs H Q => ∃ a p, ∃ ys : List Str, x = .str a ∧ xs = [.ref p] ∧ (SqL K H p (ys.map V.str) ∨ SqT K H p (ys.map V.str)) ∧ (ys.map (·.length)).sum + ys.length * a.length ≤ 16777216 ∧ Q (.str (Txt.join a ys)) H
theorem joinD_ok {K : Fr} : MeD K (rJoin K) joinD := by
  intro B F S σ H x xs a ds rr Q rel hx hxs e p
  unfold joinD at e
  split at e
  · rename_i z d
    match hxs with
    | .cons h1 .nil =>
      have fin : ∀ (l : Addr) (vs : List V) (es : List D), Ats K F H vs es → (SqL K H l vs ∨ SqT K H l vs) → (match strsD es with
          | some ys => if (ys.map (·.length)).sum + ys.length * z.length ≤ 16777216 then some (R.v (.str (Txt.join z ys))) else none
          | none => none) = some rr → rJoin K x [.ref l] H Q := by
        intro l vs es t sq e
        cases q : strsD es with
        | none => rw [q] at e; cases e
        | some ys =>
          rw [q] at e
          dsimp only at e
          split at e
          · rename_i hz
            cases e
            rw [strsD_vs t q] at sq
            exact ⟨z, l, ys, hx.str, rfl, sq, hz, PoOk.val p rel (.str _)⟩
          · cases e
      cases d with
      | lst es =>
        obtain ⟨l, vs, rfl, h2, t⟩ := h1.lst
        exact fin l vs es t (.inl (.inl (.inl h2))) e
      | tup es =>
        obtain ⟨l, vs, rfl, h2, t⟩ := h1.tup
        exact fin l vs es t (.inr h2) e
      | _ => cases e
  · cases e
abbrev joinE (f : DS → Out) (ga : DS → AOut) : DS → Out := bmD "str" joinD f ga
theorem ev_join {apos cpos : Pos} (ho : EV X W o f) (ha : AV X W (e :: es) ga) (hbase : attributeBase o "join" X.env (eval o X.env) = eval o X.env := by rfl)
    (few : ((backTo cpos (starEach (e :: es) X.env)).all (fun z => !z.1) && (backToKw cpos (keywordEach [] X.env)).all (fun z => z.1.isSome) && decide ((e :: es).length + ([] : List Keyword).length + (if ([] : List Keyword).isEmpty then 0 else 1) < 30)) = true := by rfl) (hline : (apos.endLine == cpos.line) = true := by rfl) (hs : starEach (e :: es) X.env = (false, eval e X.env) :: starEach es X.env := by rfl) (hplain : (backTo cpos (starEach es X.env)).any (·.1) = false := by rfl) :
    EV X W (.Call (.Attribute o "join" apos) (e :: es) [] cpos) (joinE f ga) := ev_bm PySem.F.plainAttrs_str PySem.F.slot_str_join PySem.F.type_str_join mt_join joinD_ok ho ha hbase few hline hs hplain
def splitD : D → List D → Option R
  | .str a, [.str b] => if (b.length == 0) = false ∧ a.length + 2 ≤ sizeLine then some (.ow (.lst ((Txt.split a b).map D.str))) else none
  | _, _ => none
theorem splitD_ok {K : Fr} : MeD K (fun x xs H Q => ∃ a b, x = .str a ∧ xs = [.str b] ∧ (b.length == 0) = false ∧ a.length + 2 ≤ sizeLine ∧ rNewStrs (Txt.split a b) H Q) splitD := by
  intro B F S σ H x xs a ds rr Q rel hx hxs e p
  unfold splitD at e
  split at e
  · rename_i z y
    split at e
    · rename_i hz
      cases e
      match hxs with
      | .cons h1 .nil =>
        rw [h1.str]
        exact ⟨z, y, hx.str, rfl, hz.1, hz.2, fun q hq => PoOk.list p rel (Ats.ofStrs _) hq⟩
    · cases e
  · cases e
theorem ev_split {apos cpos : Pos} (ho : EV X W o f) (ha : AV X W (e :: es) ga) (hbase : attributeBase o "split" X.env (eval o X.env) = eval o X.env := by rfl)
    (few : ((backTo cpos (starEach (e :: es) X.env)).all (fun z => !z.1) && (backToKw cpos (keywordEach [] X.env)).all (fun z => z.1.isSome) && decide ((e :: es).length + ([] : List Keyword).length + (if ([] : List Keyword).isEmpty then 0 else 1) < 30)) = true := by rfl) (hline : (apos.endLine == cpos.line) = true := by rfl) (hs : starEach (e :: es) X.env = (false, eval e X.env) :: starEach es X.env := by rfl) (hplain : (backTo cpos (starEach es X.env)).any (·.1) = false := by rfl) :
    EV X W (.Call (.Attribute o "split" apos) (e :: es) [] cpos) (bmD "str" splitD f ga) := ev_bm PySem.F.plainAttrs_str PySem.F.slot_str_split PySem.F.type_str_split mt_split splitD_ok ho ha hbase few hline hs hplain
end
end DL
namespace DL
open PySem PySem.Spec PyProof.Rows L2
variable [Nm]

/-! ### attributes -/
def putA (f : Str) (d : D) : List (Str × D) → List (Str × D)
  | [] => [(f, d)]
  | (g, x) :: r => if g = f then (g, d) :: r else (g, x) :: putA f d r
section
variable {K : Fr} {F : Addr → Prop} {H : Hp}
theorem Fts.length : ∀ {fvs : List (Str × V)} {fs : List (Str × D)}, Fts K F H fvs fs → fvs.length = fs.length
  | _, _, .nil => rfl
  | _, _, .cons _ t => congrArg (· + 1) t.length
theorem Fts.look : ∀ {fvs : List (Str × V)} {fs : List (Str × D)} {f : Str} {d : D}, Fts K F H fvs fs → fs.lookup f = some d → ∃ v, fvs.lookup f = some v ∧ At K F H v d
  | _, _, _, _, .nil, e => by cases e
  | _, _, f, d, @Fts.cons _ _ _ k v d' vs ds h t, e => by
    rw [List.lookup_cons] at e
    rw [List.lookup_cons]
    cases q : f == k with
    | true => rw [q] at e; cases e; exact ⟨v, rfl, h⟩
    | false => rw [q] at e; exact Fts.look t e
theorem Fts.put {f : Str} {v : V} {d : D} (a : At K F H v d) : ∀ {fvs : List (Str × V)} {fs : List (Str × D)}, Fts K F H fvs fs → Fts K F H (putF f v fvs) (putA f d fs)
  | _, _, .nil => .cons a .nil
  | _, _, @Fts.cons _ _ _ k v' d' vs ds h t => by
    unfold putF putA
    by_cases q : k = f
    · rw [if_pos q, if_pos q]
      exact .cons a t
    · rw [if_neg q, if_neg q]
      exact .cons h (Fts.put a t)
end
section
variable {X : Cx} {W : WX} {e e1 e2 o : Expr} {es : List Expr} {f g : DS → Out} {ga : DS → AOut} {pos : Pos} {C : Addr} {n : Str}
/-- e.n, e an instance of the class at C -/
def fldD (C : Addr) (n : Str) (f : DS → Out) : DS → Out := bnd f fun r S => match r.get S with
  | some (.ins C' fs) => if C' = C then (match fs.lookup n with
    | some d => .ok (.v d) S
    | none => .stuck) else .stuck
  | _ => .stuck
theorem ev_fld (cl : Cls X.K C) (na : NoAttr X.K C n) (a : EV X W e f) (hb : attributeBase e n X.env (eval e X.env) = eval e X.env := by rfl) : EV X W (.Attribute e n pos) (fldD C n f) := by
  refine ⟨PE.imp (pe_fld a.pe hb) fun σ H Q ⟨B, F, S, rel, p⟩ => ?_⟩
  obtain ⟨B1, F1, S1, rel1, p1⟩ := tE_bnd rel p
  refine ⟨B1, F1, S1, rel1, Po.imp ?_ p1⟩
  rintro x H1 ⟨F2, S2, r, x2, rel2, rv2, p2⟩
  dsimp only at p2
  cases hg : r.get S2 with
  | none => rw [hg] at p2; exact p2.elim
  | some d =>
    rw [hg] at p2
    cases d with
    | ins C' fs =>
      dsimp only at p2
      split at p2
      · rename_i hc
        subst hc
        obtain ⟨a, dx, fvs, rfl, h1, t⟩ := (rv2.s.rds rel2 hg).ins
        cases hl : fs.lookup n with
        | none => rw [hl] at p2; exact p2.elim
        | some d =>
          rw [hl] at p2
          obtain ⟨v, l, av⟩ := t.look hl
          exact ⟨a, _, dx, fvs, v, rfl, h1, cl, na, l, PoOk.val p2 rel2 av⟩
      · exact p2.elim
    | _ => exact p2.elim
/-- self.n = value, self an own slot -/
def fldS (i : Nat) (C : Addr) (n : Str) (g : DS → Out) : DS → Fl := fun S => match g S with
  | .ok (.v d) S1 => match S1[i]? with
    | some (.ow p (.ins C' fs)) => if C' = C ∧ fs.length < 1000 then .nx (S1.set i (.ow p (.ins C' (putA n d fs)))) else .stuck
    | _ => .stuck
  | .exc C fs S' => .exc C fs S'
  | _ => .stuck
theorem sv_fld (i : Nat) {x : Str} {px pos' : Pos} (cl : Cls X.K C) (na : NoAttr X.K C n) (h : PE X (.Name x px) (tVar i)) (a : EV X W e g) (hs : swapsWith e (some (.Attribute (.Name x px) n pos')) pos.line X.env = pure false := by rfl) : SV X W (.Assign [.Attribute (.Name x px) n pos'] e pos) (fldS i C n g) := by
  refine ⟨PS.imp (ps_fld h a.pe hs) fun E σ H ⟨B, F, S, rel, p⟩ => ⟨B, F, S, rel, ?_⟩⟩
  unfold fldS at p
  split at p
  · rename_i d S1 q
    rw [q]
    intro y H1 F1 xt rel1 rv
    have rv : At X.K F1 H1 y d := rv
    split at p
    · rename_i pb C' fs hi
      split at p
      · rename_i hc
        obtain ⟨rfl, hlen⟩ := hc
        obtain ⟨b, hb, nf, dx, fvs, h1, t⟩ := rel1.ownAt hi
        obtain ⟨e', rel'⟩ := rel1.mut (d' := .ins C' (putA n d fs)) (o := .ins C' dx (putF n y fvs)) hi hb fun F' H' e' h' => ⟨dx, _, h', (t.put rv).ext e'⟩
        exact ⟨_, hb, b, C', dx, fvs, rfl, h1, cl, na, by rw [t.length]; exact hlen, p σ _ F1 (xt.toExt.trans e') rel'⟩
      · exact p.elim
    · exact p.elim
  · rename_i C' fs S' q
    rw [q]
    exact PoS.ex p
  · exact p.elim

/-! ### a method run where no exception goes out -/
theorem run_fnI {k : Nat} {fa : Addr} {fd : FuncData} {ps : List Str} {sp : Sp} {A : Around} {pins : List (Addr × Obj)} {σ : St} {H : Hp} {s : Shared} {Q : VK} {us : List Value} {vs : List V} {E' : Value → Shared → Prop} (F : FnOk X.prog X.w X.K X.mg X.base (L2.CX X.prog X.w) k fa fd ps sp) (hr : Room k A)
    (e0 : Env0 X.prog X.w X.K X.mg X.base A X.stack s H) (hb : Binds X.K fd ps []) (I : Inv X pins σ H s) (r : Vals vs us) (h : sp vs H Q fun _ _ _ => False) : wpAny (model X.prog X.w) A (call (.ref fa) us) (EP X pins σ Q) E' s := by
  have cnt : us.length = ps.length := r.length.symm.trans (F.len _ _ _ _ h)
  have h' := hb s us I.kIn (by simpa using cnt)
  rw [List.append_nil] at h'
  apply wpAny_call
  apply codeAny_mono (F.run A X.stack s H ⟨us, []⟩ _ _ Q _ hr e0 h' r h)
  intro r s' q
  match r, q with
  | .error e, q =>
    obtain ⟨a, B, H', cls, d, _, _, _, _, _, _, _, z⟩ := q
    exact z.elim
  | .ok (.ret u), q => exact I.after q
  | .ok .next, q => exact q.elim
  | .ok .brk, q => exact q.elim
  | .ok .cont, q => exact q.elim
/-- a method of the class at C: the def at fa is the function m -/
def MetOk (P : Program) (w : World) (K : Fr) (mg : Str → Option Value) (base : Heap) (C : Addr) (x : Str) (k n : Nat) (m : List Sl → Fo) : Prop :=
  ∃ fa fd ps, FnOk P w K mg base (L2.CX P w) k fa fd ps (spD K n m) ∧ Binds K fd ps [] ∧ PySem.W.findIn K (.ref C) x = some (some (.ref fa)) ∧ PySem.W.isFn K (.ref fa) = true
/-- the callee's wish where nothing may be raised -/
theorem callS_sp0 {K : Fr} {B : Bs} {F1 : Addr → Prop} {H1 : Hp} {σ : St} {S1 : DS} {Q : VK} {n : Nat} {m : List Sl → Fo} {rs : List R} {vs : List V} (rel1 : Rel K B F1 S1 σ H1) (rv1 : RVsL K F1 σ H1 vs rs) (q : Po K W B S1 F1 H1 σ Q (callS n m rs S1)) (nx : ∀ C fs S, callS n m rs S1 ≠ .exc C fs S) : spD K n m vs H1 Q fun _ _ _ => False := by
  have q' : Po K (fun _ _ _ _ => False) B S1 F1 H1 σ Q (callS n m rs S1) := by
    cases h : callS n m rs S1 with
    | ok r S => rw [h] at q; exact q
    | exc C fs S => exact (nx _ _ _ h).elim
    | stuck => rw [h] at q; exact q
  exact callS_sp (W := fun _ _ _ _ => False) rel1 rv1 q'
/-- the same, an exception being no answer -/
def noExc : Out → Out
  | .exc _ _ _ => .stuck
  | o => o
theorem noExc_sp {K : Fr} {B : Bs} {F1 : Addr → Prop} {H1 : Hp} {σ : St} {S1 : DS} {Q : VK} {n : Nat} {m : List Sl → Fo} {rs : List R} {vs : List V} (rel1 : Rel K B F1 S1 σ H1) (rv1 : RVsL K F1 σ H1 vs rs) (q : Po K W B S1 F1 H1 σ Q (noExc (callS n m rs S1))) : spD K n m vs H1 Q fun _ _ _ => False := by
  cases h : callS n m rs S1 with
  | ok r S => rw [h] at q; exact callS_sp0 rel1 rv1 (by rw [h]; exact q) fun C fs S z => by rw [h] at z; cases z
  | exc C fs S => rw [h] at q; exact q.elim
  | stuck => rw [h] at q; exact q.elim
def isIns (C : Addr) (S : DS) (r : R) : Bool := match r.get S with
  | some (.ins C' _) => C' == C
  | _ => false
theorem isIns_at {K : Fr} {B : Bs} {F : Addr → Prop} {H : Hp} {σ : St} {S : DS} {x : V} {r : R} (rel : Rel K B F S σ H) (h : isIns C S r = true) (rv : RVs K F σ H x r) : ∃ a dx fvs, x = .ref a ∧ H a = some (.ins C dx fvs) := by
  unfold isIns at h
  split at h
  · rename_i C' fs hg
    have := eq_of_beq h
    subst this
    obtain ⟨a, dx, fvs, h1, h2, _⟩ := (rv.rds rel hg).ins
    exact ⟨a, dx, fvs, h1, h2⟩
  · cases h
/-- e.n, n a property of the class at C -/
def propD (C : Addr) (m : List Sl → Fo) (f : DS → Out) : DS → Out := bnd f fun r S => if isIns C S r then noExc (callS 1 m [r] S) else .stuck
structure PropIn (P : Program) (w : World) (K : Fr) (mg : Str → Option Value) (base : Heap) (C : Addr) (x : Str) (k : Nat) (m : List Sl → Fo) : Prop where
  ex : ∃ p fa fd ps, FnOk P w K mg base (L2.CX P w) k fa fd ps (spD K 1 m) ∧ Binds K fd ps [] ∧ PropOf K C x p fa
theorem ev_prop {k : Nat} {m : List Sl → Fo} (cl : Cls X.K C) (M : PropIn X.prog X.w X.K X.mg X.base C n k m) (hr : Room (k + 1) X.A) (a : EV X W e f) (hb : attributeBase e n X.env (eval e X.env) = eval e X.env := by rfl) : EV X W (.Attribute e n pos) (propD C m f) := by
  obtain ⟨p, fa, fd, ps, F, bn, hp⟩ := M.ex
  refine ⟨PE.imp (pe_prop (dvs := []) (ds := []) (E := fun _ _ _ => False) a.pe cl hp F hr bn .nil (fun pins σ H s e s' J c => ?_) hb) fun σ H Q ⟨B, F, S, rel, p⟩ => ?_⟩
  · obtain ⟨a, B, H', cls, d, _, _, _, _, _, _, _, z⟩ := c
    exact z.elim
  obtain ⟨B1, F1, S1, rel1, p1⟩ := tE_bnd rel p
  refine ⟨B1, F1, S1, rel1, Po.imp ?_ p1⟩
  rintro x H1 ⟨F2, S2, r, x2, rel2, rv2, p2⟩
  dsimp only at p2
  split at p2
  · rename_i hi
    obtain ⟨a, dx, fvs, rfl, h1⟩ := isIns_at rel2 hi rv2.s
    exact ⟨a, dx, fvs, rfl, h1, noExc_sp rel2 (.cons rv2.s .nil) p2⟩
  · exact p2.elim
end
end DL
namespace DL
open PySem PySem.Spec PyProof.Rows L2
variable [Nm]

section
variable {X : Cx} {W : WX} {e e1 e2 o : Expr} {es : List Expr} {f g : DS → Out} {ga : DS → AOut} {pos p : Pos} {C : Addr} {n : Str} {k : Nat} {m : List Sl → Fo}
/-! ### str(e), len(e) by the class's own methods -/
abbrev rOwn (K : Fr) (C : Addr) (m : List Sl → Fo) (T : V → Prop) : List V → Hp → VK → Prop := fun xs H Q => ∃ x dx fvs, xs = [.ref x] ∧ H x = some (.ins C dx fvs) ∧ spD K 1 m xs H (fun v H' => T v ∧ Q v H') fun _ _ _ => False
theorem call_strI (M : MetOk X.prog X.w X.K X.mg X.base C "__str__" k 1 m) (hr : Room (k + 2) X.A) : CallR X (.type "str") (rOwn X.K C m fun v => ∃ z, v = .str z) := by
  obtain ⟨fa, fd, ps, F, hb, hs, hf⟩ := M
  intro pins s σ H xs us Q I r h
  obtain ⟨x, dx, fvs, rfl, hx, sp⟩ := h
  match r with
  | .cons r1 .nil =>
    cases r1
    obtain ⟨mA, O, _⟩ := ins_get I.hok hx
    obtain ⟨od, J, _⟩ := O.look
    refine PySem.W.kso_call (hr.in1.in1 (k := k)).units0 I.kIn J hs hf ?_
    have rvs : Vals [V.ref x] [Value.ref x] := .cons rfl .nil
    refine wpAny_mono (run_fnI F (hr.in1.in1 (k := k)) I.env0.in1.in1 hb I rvs sp) (fun u s' q => ?_) fun _ _ z => z
    obtain ⟨v, H', I', rv, ⟨z, rfl⟩, q⟩ := q
    obtain ⟨t, rfl⟩ := (show ∃ t, u = Value.str z t from rv)
    exact ⟨.str z, H', I', ⟨t, rfl⟩, q⟩
theorem call_lenI (M : MetOk X.prog X.w X.K X.mg X.base C "__len__" k 1 m) (hr : Room (k + 1) X.A) : CallR X (.builtin "len") (rOwn X.K C m fun v => ∃ i, v = .int i ∧ 0 ≤ i ∧ i < 2 ^ 63) := by
  obtain ⟨fa, fd, ps, F, hb, hs, hf⟩ := M
  intro pins s σ H xs us Q I r h
  obtain ⟨x, dx, fvs, rfl, hx, sp⟩ := h
  match r with
  | .cons r1 .nil =>
    cases r1
    obtain ⟨mA, O, _⟩ := ins_get I.hok hx
    obtain ⟨od, J, _⟩ := O.look
    obtain ⟨ml, hF⟩ := I.fr
    refine PySem.W.len_K hF I.ok.mod.kin J hs hf ?_
    have rvs : Vals [V.ref x] [Value.ref x] := .cons rfl .nil
    refine wpAny_mono (run_fnI F hr.in1 I.env0.in1 hb I rvs sp) (fun u s' q => ?_) fun _ _ z => z
    obtain ⟨v, H', I', rv, ⟨i, rfl, h0, h1⟩, q⟩ := q
    obtain ⟨t, rfl⟩ := (show ∃ t, u = Value.int i t from rv)
    exact ⟨⟨h0, h1⟩, .int i, H', I'.tok _, ⟨_, rfl⟩, q⟩
/-- the answer, if it is of the kind T -/
def ownB (C : Addr) (m : List Sl → Fo) (T : D → Bool) (f : DS → Out) : DS → Out := bnd f fun r S => if isIns C S r then (match callS 1 m [r] S with
  | .ok (.v d) S' => if T d then .ok (.v d) S' else .stuck
  | _ => .stuck) else .stuck
theorem ownB_sp {K : Fr} {B : Bs} {F : Addr → Prop} {S : DS} {σ : St} {H : Hp} {Q : VK} {T : D → Bool} {TV' : V → Prop} (hT : ∀ F H v d, At K F H v d → T d = true → TV' v) (rel : Rel K B F S σ H) {x : V} {r : R} (rv : RVs K F σ H x r)
    (p : Po K W B S F H σ Q (if isIns C S r then (match callS 1 m [r] S with
      | .ok (.v d) S' => if T d then .ok (.v d) S' else .stuck
      | _ => .stuck) else .stuck)) : rOwn K C m TV' [x] H Q := by
  split at p
  · rename_i hi
    obtain ⟨a, dx, fvs, rfl, h1⟩ := isIns_at rel hi rv
    refine ⟨a, dx, fvs, rfl, h1, ?_⟩
    cases h : callS 1 m [r] S with
    | stuck => rw [h] at p; exact p.elim
    | exc C fs S' => rw [h] at p; exact p.elim
    | ok rr S' =>
      rw [h] at p
      cases rr with
      | v d =>
        dsimp only at p
        split at p
        · rename_i ht
          refine callS_sp0 (W := W) rel (.cons rv .nil) ?_ fun C fs S z => by rw [h] at z; cases z
          rw [h]
          exact fun y H' F' xt r' v => ⟨hT F' H' y d v ht, p y H' F' xt r' v⟩
        · exact p.elim
      | _ => exact p.elim
  · exact p.elim
def isStr : D → Bool
  | .str _ => true
  | _ => false
def isLen : D → Bool
  | .int i => decide (0 ≤ i ∧ i < 2 ^ 63)
  | _ => false
theorem ev_strI (M : MetOk X.prog X.w X.K X.mg X.base C "__str__" k 1 m) (hr : Room (k + 2) X.A) (hg : Gl X "str") (hm : X.mg "str" = none) (a : EV X W e f) (he : starEach [e] X.env = (false, eval e X.env) :: starEach [] X.env := by rfl) (hpl : (backTo pos (starEach [] X.env)).any (·.1) = false := by rfl) : EV X W (.Call (.Name "str" p) [e] [] pos) (ownB C m isStr f) := by
  refine ⟨PE.imp (pe_callTy (call_strI M hr) hg hm boot_str (pa_cons a.pe pa_nil he) (by decide) (by decide) he hpl) fun σ H Q ⟨B, F, S, rel, p⟩ => ?_⟩
  obtain ⟨B1, F1, S1, rel1, p1⟩ := tE_bnd rel p
  refine ⟨B1, F1, S1, rel1, Po.imp ?_ p1⟩
  rintro x H1 ⟨F2, S2, r, x2, rel2, rv2, p2⟩
  exact ownB_sp (fun F H v d at' ht => by
    cases d with
    | str z => exact ⟨z, at'.strI⟩
    | _ => cases ht) rel2 rv2.s p2
theorem ev_lenI (M : MetOk X.prog X.w X.K X.mg X.base C "__len__" k 1 m) (hr : Room (k + 1) X.A) (hg : Gl X "len") (hm : X.mg "len" = none) (a : EV X W e f) (he : starEach [e] X.env = (false, eval e X.env) :: starEach [] X.env := by rfl) (hpl : (backTo pos (starEach [] X.env)).any (·.1) = false := by rfl) : EV X W (.Call (.Name "len" p) [e] [] pos) (ownB C m isLen f) := by
  refine ⟨PE.imp (pe_callB (call_lenI M hr) hg hm boot_len (pa_cons a.pe pa_nil he) (by decide) (by decide) he hpl) fun σ H Q ⟨B, F, S, rel, p⟩ => ?_⟩
  obtain ⟨B1, F1, S1, rel1, p1⟩ := tE_bnd rel p
  refine ⟨B1, F1, S1, rel1, Po.imp ?_ p1⟩
  rintro x H1 ⟨F2, S2, r, x2, rel2, rv2, p2⟩
  exact ownB_sp (fun F H v d at' ht => by
    cases d with
    | int i =>
      have := of_decide_eq_true ht
      exact ⟨i, at'.intI, this.1, this.2⟩
    | _ => cases ht) rel2 rv2.s p2

/-! ### ==, != and in by the class's own methods -/
abbrev rOwn2 (K : Fr) (C : Addr) (m : List Sl → Fo) (sw ng both : Bool) : R2 := fun x y H Q => (∃ a dx fvs, (cond sw y x) = .ref a ∧ H a = some (.ins C dx fvs)) ∧ (both = true → ∃ b dy gvs, y = .ref b ∧ H b = some (.ins C dy gvs)) ∧
  spD K 2 m (cond sw [y, x] [x, y]) H (fun v H' => ∃ b, v = .bl b ∧ Q (.bl (xor ng b)) H') fun _ _ _ => False
theorem op_eqI (M : MetOk X.prog X.w X.K X.mg X.base C "__eq__" k 2 m) (hr : Room (k + 1) X.A) : OpR X (compareOp .Eq) (rOwn2 X.K C m false false true) := by
  obtain ⟨fa, fd, ps, F, hb, hs, hf⟩ := M
  intro pins s σ H x y v u Q I rx ry h
  obtain ⟨⟨a, dx, fvs, e1, h1⟩, hh, sp⟩ := h
  obtain ⟨b, dy, gvs, rfl, h2⟩ := hh rfl
  obtain rfl : x = .ref a := e1
  cases rx
  cases ry
  obtain ⟨mA, O, _⟩ := ins_get I.hok h1
  obtain ⟨od, J, _⟩ := O.look
  obtain ⟨mB, O', _⟩ := ins_get I.hok h2
  obtain ⟨od', J', _⟩ := O'.look
  obtain ⟨ml, hF⟩ := I.fr
  show wpAny _ _ (richCompare .Eq (.ref a) (.ref b)) _ _ s
  refine PySem.W.cmp_K (op := .Eq) (tb := .ref C) hr.units0 hF I.ok.mod.kin J J'.type (by simp [PySem.W.notFirst]) hs hf ?_
  have rvs : Vals [V.ref a, V.ref b] [Value.ref a, Value.ref b] := .cons rfl (.cons rfl .nil)
  refine wpAny_mono (run_fnI F (hr.mono (Nat.le_succ _)) I.env0 hb I rvs sp) (fun w s' q => ?_) fun _ _ z => z
  obtain ⟨z, H', I', rv, ⟨c, rfl, q⟩⟩ := q
  obtain rfl : w = .bool c := rv
  exact ⟨.bl c, H', I', rfl, by simpa using q⟩
theorem op_inI {ng : Bool} (M : MetOk X.prog X.w X.K X.mg X.base C "__contains__" k 2 m) (hr : Room (k + 1) X.A) : OpR X (compareOp (if ng then .NotIn else .In)) (rOwn2 X.K C m true ng false) := by
  obtain ⟨fa, fd, ps, F, hb, hs, hf⟩ := M
  intro pins s σ H x y v u Q I rx ry h
  obtain ⟨⟨a, dx, fvs, e1, h1⟩, _, sp⟩ := h
  obtain rfl : y = .ref a := e1
  cases ry
  obtain ⟨mA, O, _⟩ := ins_get I.hok h1
  obtain ⟨od, J, _⟩ := O.look
  obtain ⟨ml, hF⟩ := I.fr
  have rvs : Vals [V.ref a, x] [Value.ref a, v] := .cons rfl (.cons rx .nil)
  have go := run_fnI (E' := X.xe) F (hr.mono (Nat.le_succ _)) I.env0 hb I rvs sp
  cases ng with
  | false =>
    refine PySem.W.in_K hF I.ok.mod.kin J hs hf (wpAny_mono go (fun w s' q => ?_) fun _ _ z => z)
    obtain ⟨z, H', I', rv, ⟨c, rfl, q⟩⟩ := q
    obtain rfl : w = .bool c := rv
    exact wpAny_truthy_bool ⟨.bl c, H', I', rfl, by simpa using q⟩
  | true =>
    refine PySem.W.notIn_K hF I.ok.mod.kin J hs hf (wpAny_mono go (fun w s' q => ?_) fun _ _ z => z)
    obtain ⟨z, H', I', rv, ⟨c, rfl, q⟩⟩ := q
    obtain rfl : w = .bool c := rv
    exact wpAny_truthy_bool ⟨.bl (!c), H', I', rfl, by simpa using q⟩
/-- the mirror: sw: the right one is asked; ng: the answer turned round -/
def ownC (C : Addr) (m : List Sl → Fo) (sw ng both : Bool) (f g : DS → Out) : DS → Out := bnd f fun ra => bnd g fun rb S => if isIns C S (cond sw rb ra) && (!both || isIns C S rb) then (match callS 2 m (cond sw [rb, ra] [ra, rb]) S with
  | .ok (.v (.bl b)) S' => .ok (.v (.bl (xor ng b))) S'
  | _ => .stuck) else .stuck
theorem ownC_of {K : Fr} {sw ng both : Bool} {σ : St} {H : Hp} {Q : VK} (q : tE K W (ownC C m sw ng both f g) σ H Q) : tOp (rOwn2 K C m sw ng both) (tE K W f) (tE K W g) σ H Q := by
  obtain ⟨B, F, S, rel, p⟩ := q
  obtain ⟨B1, F1, S1, rel1, p1⟩ := tE_bnd rel p
  refine ⟨B1, F1, S1, rel1, Po.imp ?_ p1⟩
  rintro x H1 ⟨F2, S2, ra, x2, rel2, rv2, p2⟩
  obtain ⟨B3, F3, S3, rel3, p3⟩ := tE_bnd rel2 p2
  refine ⟨B3, F3, S3, rel3, Po.imp ?_ p3⟩
  rintro y H2 ⟨F4, S4, rb, x4, rel4, rv4, p4⟩
  have sa := RVs.ext x4.toExt rv2.s
  have sb := rv4.s
  dsimp only at p4
  split at p4
  · rename_i hc
    have hc := Bool.and_eq_true_iff.mp hc
    refine ⟨?_, fun hb => ?_, ?_⟩
    · cases sw with
      | true => exact isIns_at rel4 hc.1 sb
      | false => exact isIns_at rel4 hc.1 sa
    · have h2 := hc.2
      rw [hb] at h2
      exact isIns_at rel4 (by simpa using h2) sb
    · cases h : callS 2 m (cond sw [rb, ra] [ra, rb]) S4 with
      | stuck => rw [h] at p4; exact p4.elim
      | exc C fs S' => rw [h] at p4; exact p4.elim
      | ok rr S' =>
        rw [h] at p4
        have rvs : RVsL K F4 σ H2 (cond sw [y, x] [x, y]) (cond sw [rb, ra] [ra, rb]) := by
          cases sw with
          | true => exact .cons sb (.cons sa .nil)
          | false => exact .cons sa (.cons sb .nil)
        refine callS_sp0 (W := W) rel4 rvs ?_ fun C fs S z => by rw [h] at z; cases z
        rw [h]
        match rr, p4 with
        | .v (.bl b), p4 => exact fun z H' F' xt r' v => ⟨b, At.blI v, p4 _ H' F' xt r' (.bl _)⟩
  · exact p4.elim
theorem ev_eqI (M : MetOk X.prog X.w X.K X.mg X.base C "__eq__" k 2 m) (hr : Room (k + 1) X.A) (a : EV X W e1 f) (b : EV X W e2 g) : EV X W (.Compare e1 [.Eq] [e2] pos) (ownC C m false false true f g) :=
  ⟨PE.imp (pe_cmpR (op_eqI M hr) a.pe b.pe (nomark _)) fun σ H Q q => ownC_of q⟩
theorem ev_inI (M : MetOk X.prog X.w X.K X.mg X.base C "__contains__" k 2 m) (hr : Room (k + 1) X.A) (a : EV X W e1 f) (b : EV X W e2 g) (hm : behindInMarks .In e2 = false := by rfl) : EV X W (.Compare e1 [.In] [e2] pos) (ownC C m true false false f g) :=
  ⟨PE.imp (pe_cmpR (op_inI (ng := false) M hr) a.pe b.pe hm) fun σ H Q q => ownC_of q⟩
theorem ev_notinI (M : MetOk X.prog X.w X.K X.mg X.base C "__contains__" k 2 m) (hr : Room (k + 1) X.A) (a : EV X W e1 f) (b : EV X W e2 g) (hm : behindInMarks .NotIn e2 = false := by rfl) : EV X W (.Compare e1 [.NotIn] [e2] pos) (ownC C m true true false f g) :=
  ⟨PE.imp (pe_cmpR (op_inI (ng := true) M hr) a.pe b.pe hm) fun σ H Q q => ownC_of q⟩
end
end DL
namespace DL
open PySem PySem.Spec PyProof.Rows L2
variable [Nm]

/-! ### !=, by the class's own == -/
theorem ne_callI {prog : Program} {w : World} {A : Around} {E : Value → Shared → Prop} {s : Shared} {K : Fr} {x y C f : Addr} {ox oy : Obj} {od od' : Option Obj} {Q : Value → Shared → Prop} (hu : A.units + 1 < cLine) (X : K.In s.heap) (I : PySem.W.InstAt s.heap x ox C od) (J : PySem.W.InstAt s.heap y oy C od')
    (hs : PySem.W.findIn K (.ref C) "__eq__" = some (some (.ref f))) (hf : PySem.W.isFn K (.ref f) = true) (hn : PySem.W.findIn K (.ref C) "__ne__" = some (some (.builtin "object.__ne__"))) (ho : PySem.W.subIn K (.ref C) (.type "object") = some true)
    (h : wpAny (model prog w) A.in1 (call (.ref f) [.ref x, .ref y]) (fun v s' => ∃ b, v = .bool b ∧ Q (.bool (!b)) s') E s) : wpAny (model prog w) A (richCompare .NotEq (.ref x) (.ref y)) Q E s := by
  have S := F.cmp_object.ne
  have inner : wpAny (model prog w) A (call (.builtin "object.__ne__") [.ref x, .ref y]) (fun v s' => v ≠ .notImplemented ∧ Q v s') E s := by
    refine wpAny_call (codeAny_call_builtin S.plain F.cmpEntry_ne (PySem.W.check_slot F.cmpKind_ne F.cmpSplit_ne (I.type.andThen (PySem.W.looks_subIn X ho)) (F.cmpArgs_ne _ _) ?_))
    unfold Builtin.«object.__ne__»
    refine wpAny_bind (m := slotArgs _ _ _) (wpAny_pure ?_)
    refine wpAny_bind (wpAny_cRoomFor (show A.in1.units < cLine from hu) ?_)
    refine wpAny_bind (m := callSpecialIfBound? (.ref x) (Str.ofString "__eq__") [.ref y]) (PySem.W.ifBound_K X I hs hf (wpAny_mono h (fun v s' hv => ?_) fun _ _ z => z))
    obtain ⟨b, rfl, hq⟩ := hv
    exact wpAny_bind (wpAny_truthy_bool (wpAny_pure ⟨(fun z => nomatch z), hq⟩))
  have bind : wpAny (model prog w) A (callSpecialIfBound? (.ref x) "__ne__" [.ref y]) (fun r s' => ∃ v, r = some v ∧ v ≠ .notImplemented ∧ Q v s') E s := by
    simp only [callSpecialIfBound?, bindSpecialIfBound?]
    refine wpAny_holding (wpAny_bind (wpAny_bind (wpAny_bind (I.type.here ((PySem.W.looks_findIn X hn).here ?_)))))
    refine wpAny_bind (wpAny_askSetting (wpAny_ite ?_))
    have fin : wpAny (model prog w) A (call (.builtin "object.__ne__") ([.ref x] ++ [.ref y]) >>= fun v => pure (some v)) (fun r s' => ∃ v, r = some v ∧ v ≠ .notImplemented ∧ Q v s') E s :=
      wpAny_bind (wpAny_mono inner (fun v s' h' => wpAny_pure ⟨v, rfl, h'⟩) fun _ _ z => z)
    simp only [S.bind]
    split
    · exact wpAny_bind (wpAny_pure (wpAny_pure (by exact fin)))
    · exact wpAny_tryCatch (wpAny_bind (wpAny_pure (wpAny_pure (by exact fin))))
  have one : wpAny (model prog w) A (tryCompare (.ref x) "__ne__" (.ref y)) (fun r s' => ∃ v, r = some v ∧ Q v s') E s := by
    unfold tryCompare
    refine wpAny_bind (wpAny_mono bind (fun r s' hr => ?_) fun _ _ z => z)
    obtain ⟨v, rfl, nv, hq⟩ := hr
    cases v <;> first | exact (nv rfl).elim | exact wpAny_pure ⟨_, rfl, hq⟩
  unfold richCompare
  simp only [oneThing_ref]
  refine wpAny_holding (wpAny_bind (wpAny_cRoomFor (Nat.lt_of_succ_lt hu) ?_))
  rw [cmpInfo_NotEq]
  dsimp only
  refine wpAny_bind (I.type.here (wpAny_bind (J.type.here ?_)))
  rw [show (Value.ref C != Value.ref C) = false from by simp]
  simp only [Bool.false_eq_true, if_false]
  refine wpAny_bind (wpAny_pure ?_)
  simp only [Bool.false_eq_true, if_false]
  refine wpAny_bind (wpAny_mono one (fun r s' z => ?_) fun _ _ z => z)
  obtain ⟨v, rfl, hq⟩ := z
  exact wpAny_pure hq
structure NeIn (K : Fr) (C : Addr) : Prop where
  hn : PySem.W.findIn K (.ref C) "__ne__" = some (some (.builtin "object.__ne__"))
  ho : PySem.W.subIn K (.ref C) (.type "object") = some true
section
variable {X : Cx} {W : WX} {e e1 e2 o : Expr} {es : List Expr} {f g : DS → Out} {ga : DS → AOut} {pos p : Pos} {C : Addr} {n : Str} {k : Nat} {m : List Sl → Fo}
theorem op_neI (N : NeIn X.K C) (M : MetOk X.prog X.w X.K X.mg X.base C "__eq__" k 2 m) (hr : Room (k + 1) X.A) : OpR X (compareOp .NotEq) (rOwn2 X.K C m false true true) := by
  obtain ⟨fa, fd, ps, F, hb, hs, hf⟩ := M
  intro pins s σ H x y v u Q I rx ry h
  obtain ⟨⟨a, dx, fvs, e1, h1⟩, hh, sp⟩ := h
  obtain ⟨b, dy, gvs, rfl, h2⟩ := hh rfl
  obtain rfl : x = .ref a := e1
  cases rx
  cases ry
  obtain ⟨mA, O, _⟩ := ins_get I.hok h1
  obtain ⟨od, J, _⟩ := O.look
  obtain ⟨mB, O', _⟩ := ins_get I.hok h2
  obtain ⟨od', J', _⟩ := O'.look
  show wpAny _ _ (richCompare .NotEq (.ref a) (.ref b)) _ _ s
  have un := hr.units
  refine ne_callI (by omega) I.kIn J J' hs hf N.hn N.ho ?_
  have rvs : Vals [V.ref a, V.ref b] [Value.ref a, Value.ref b] := .cons rfl (.cons rfl .nil)
  refine wpAny_mono (run_fnI F hr.in1 I.env0.in1 hb I rvs sp) (fun w s' q => ?_) fun _ _ z => z
  obtain ⟨z, H', I', rv, ⟨c, rfl, q⟩⟩ := q
  obtain rfl : w = .bool c := rv
  exact ⟨c, rfl, .bl (!c), H', I', rfl, by simpa using q⟩
theorem ev_neI (N : NeIn X.K C) (M : MetOk X.prog X.w X.K X.mg X.base C "__eq__" k 2 m) (hr : Room (k + 1) X.A) (a : EV X W e1 f) (b : EV X W e2 g) : EV X W (.Compare e1 [.NotEq] [e2] pos) (ownC C m false true true f g) :=
  ⟨PE.imp (pe_cmpR (op_neI N M hr) a.pe b.pe (nomark _)) fun σ H Q q => ownC_of q⟩

/-! ### making an instance -/
def makeS (C : Addr) (n : Nat) (m : List Sl → Fo) (rs : List R) (S1 : DS) : Out := if (bws rs).Nodup then (match toArgs S1 rs with
    | some args => if args.length + 1 = n then (match m (.ow true (.ins C []) :: args) with
      | .ret (.v .non) (.ow true d :: as) => .ok (.ow d) (backS S1 rs as)
      | .exc C' fs (_ :: as) => .exc C' fs (backS S1 rs as)
      | _ => .stuck) else .stuck
    | none => .stuck) else .stuck
def makeD (C : Addr) (n : Nat) (m : List Sl → Fo) (ga : DS → AOut) : DS → Out := fun S => match ga S with
  | .ok rs S1 => makeS C n m rs S1
  | .exc C fs S' => .exc C fs S'
  | .stuck => .stuck
/-- what a making did beside its new object -/
theorem Called.tail {K : Fr} {F F' : Addr → Prop} {H H1 H' : Hp} {x : Addr} {d : D} {s : Sl} {vs : List V} {args as : List Sl} (k : ∀ b o, H b = some o → H1 b = some o) (hx : H x = none) (c : Called K F H1 (.ref x :: vs) (.ow true d :: args) F' H' (s :: as)) : Called K F H vs args F' H' as := by
  refine ⟨⟨c.ext.sub, fun a o f h n => c.ext.keep a o f (k a o h) n, fun c2 q h => c.ext.cod c2 q (k c2 _ h)⟩, fun a h => ?_, c.trk, fun b o h na => c.keep b o (k b o h) fun i d' h1 h2 => ?_, fun i d' h => ?_, c.tabs⟩
  · rcases c.new a h with z | z
    · exact .inl z
    · refine .inr ?_
      cases w : H a with
      | none => rfl
      | some o =>
        rw [k a o w] at z
        cases z
  · cases i with
    | zero =>
      simp at h2
      rw [h2, h] at hx
      cases hx
    | succ i => exact na i d' (by simpa using h1) (by simpa using h2)
  · obtain ⟨d2, h1, v, h2, h3⟩ := c.own (i + 1) d' (by simpa using h)
    exact ⟨d2, by simpa using h1, v, by simpa using h2, h3⟩
theorem make_sp {K : Fr} {B : Bs} {F1 : Addr → Prop} {H1 : Hp} {σ : St} {S1 : DS} {Q : VK} {n : Nat} {rs : List R} {vs : List V} (rel1 : Rel K B F1 S1 σ H1) (rv1 : RVsL K F1 σ H1 vs rs) (q : Po K W B S1 F1 H1 σ Q (makeS C n m rs S1)) {x dx : Addr} (hx : H1 x = none) (hdx : H1 dx = none) (hne : dx ≠ x) :
    spD K n m (.ref x :: vs) (upd (upd H1 dx (.own x)) x (.ins C dx [])) (fun v H2 => v = .non ∧ Q (.ref x) H2) fun cls d H2 => W cls d σ H2 := by
  have k : ∀ b o, H1 b = some o → upd (upd H1 dx (.own x)) x (.ins C dx []) b = some o := fun b o h => by
    rw [upd_ne (fun z => by rw [z, hx] at h; cases h), upd_ne (fun z => by rw [z, hdx] at h; cases h)]
    exact h
  unfold makeS at q
  split at q
  · rename_i nd
    cases qt : toArgs S1 rs with
    | none => rw [qt] at q; exact q.elim
    | some args =>
      rw [qt] at q
      dsimp only at q
      have A := args_of rel1 rv1 nd qt
      by_cases hlen : args.length + 1 = n
      · rw [if_pos hlen] at q
        have e : Ext F1 H1 F1 (upd (upd H1 dx (.own x)) x (.ins C dx [])) := ⟨fun _ h => h, fun a o _ h _ => k a o h, fun c q h => k c _ h⟩
        have nx : ∀ (j : Nat) (d : D), args[j]? = some (.ow true d) → vs[j]? ≠ some (.ref x) := fun j d h z => by
          obtain ⟨v, h1, a, h2, _, h3⟩ := A.sl j _ h
          rw [z] at h1
          cases h1
          cases h2
          obtain ⟨o, ho⟩ := h3.there
          rw [hx] at ho
          cases ho
        refine ⟨F1, .ow true (.ins C []) :: args, by simpa using hlen, ⟨by simp [A.len], fun i s hs => ?_, fun i s hs => ?_, fun i j a d d' h1 h2 h3 h4 => ?_, fun a h => ?_, rel1.tabs.of (fun c q h => k c _ h) (fun P ps h => k P _ h) fun P ps h => upd_nt (by intro ps z; cases z) P ps (upd_nt (by intro ps z; cases z) P ps h)⟩, ?_⟩
        · cases i with
          | zero =>
            simp at hs
            subst hs
            exact ⟨.ref x, rfl, x, rfl, rel1.nF hx, dx, [], upd_same, .nil⟩
          | succ i =>
            obtain ⟨v, h1, h2⟩ := A.sl i s (by simpa using hs)
            refine ⟨v, by simpa using h1, ?_⟩
            cases s with
            | un => trivial
            | fr d => obtain ⟨w, z1, z2⟩ := h2; exact ⟨w, z1, z2.ext e⟩
            | ow p d => obtain ⟨a, z1, z2, z3⟩ := h2; exact ⟨a, z1, z2, z3.ext e (k a)⟩
        · cases i with
          | zero =>
            simp at hs
            subst hs
            exact .inr ⟨_, rfl⟩
          | succ i => exact A.kind i s (by simpa using hs)
        · cases i with
          | zero =>
            cases j with
            | zero => rfl
            | succ j =>
              have h3' : x = a := by simpa using h3
              subst h3'
              exact (nx j d' (by simpa using h2) (by simpa using h4)).elim
          | succ i =>
            cases j with
            | zero =>
              have h4' : x = a := by simpa using h4
              subst h4'
              exact (nx i d (by simpa using h1) (by simpa using h3)).elim
            | succ j => exact congrArg (· + 1) (A.dis i j a d d' (by simpa using h1) (by simpa using h2) (by simpa using h3) (by simpa using h4))
        · obtain ⟨o, ho⟩ := A.trk a h
          exact ⟨o, k a o ho⟩
        · have back : ∀ {F2 : Addr → Prop} {H2 : Hp} {s : Sl} {as : List Sl}, Called K F1 (upd (upd H1 dx (.own x)) x (.ins C dx [])) (.ref x :: vs) (.ow true (.ins C []) :: args) F2 H2 (s :: as) → Xt σ S1 F1 H1 (backS S1 rs as) F2 H2 ∧ Rel K B F2 (backS S1 rs as) σ H2 := by
            intro F2 H2 s as c
            have c' := c.tail k hx
            exact rel1.back rv1 nd qt c' fun j _ => by
              by_cases z : ∃ d, args[j]? = some (.ow true d)
              · obtain ⟨d, z⟩ := z
                obtain ⟨d', y, _⟩ := c'.own j d z
                exact .inl (List.getElem?_eq_some_iff.mp y).1
              · exact .inr fun d y => z ⟨d, y⟩
          cases qm : m (.ow true (.ins C []) :: args) with
          | stuck => rw [qm] at q; exact q.elim
          | exc C' fs as0 =>
            rw [qm] at q
            cases as0 with
            | nil => exact q.elim
            | cons s as =>
              intro d2 fvs H2 F2 c h1 h2 h3
              obtain ⟨x2, rel2⟩ := back c
              have hd2 : H1 d2 = none := by
                cases w : H1 d2 with
                | none => rfl
                | some o =>
                  rw [k d2 o w] at h2
                  cases h2
              exact q d2 fvs H2 F2 x2 rel2 h1 (rel1.h0 hd2) h3
          | ret rr as0 =>
            rw [qm] at q
            match rr, as0, q with
            | .v .non, .ow true d :: as, q =>
              intro y H2 F2 c rv
              obtain ⟨x2, rel2⟩ := back c
              refine ⟨At.nonI rv, q _ H2 F2 x2 rel2 ?_⟩
              obtain ⟨d', y1, v, y2, a, y3, y4, y5⟩ := c.own 0 (.ins C []) rfl
              have ea : d' = d := by
                simp at y1
                exact y1.symm
              subst ea
              have eb : v = .ref x := by
                simp at y2
                exact y2.symm
              subst eb
              cases y3
              refine ⟨x, rfl, y4, y5, rel1.h0 hx, hx, fun i pp d2 h => ?_⟩
              obtain ⟨t, e1, e2⟩ := backS_get h
              cases t with
              | un => cases e2
              | fr _ => cases e2
              | ow pq e0 => exact rel1.nSl hx i pq e0 e1
      · rw [if_neg hlen] at q
        exact q.elim
  · exact q.elim
/-- what is known of a class whose instances are made -/
def MakeIn (P : Program) (w : World) (K : Fr) (mg : Str → Option Value) (base : Heap) (C : Addr) (k n : Nat) (m : List Sl → Fo) : Prop :=
  ∃ fa fd ps, FnOk P w K mg base (L2.CX P w) k fa fd ps (spD K n m) ∧ Binds K fd ps [] ∧ Mk K C fa
theorem run_makeW {k n : Nat} {pins : List (Addr × Obj)} {σ : St} {H : Hp} {s : Shared} {Q : VK} {us : List Value} {vs : List V} {E : XK} (M : MakeIn X.prog X.w X.K X.mg X.base C k n m) (hr : Room (k + 1) X.A) (hx : PassW X σ E) (I : Inv X pins σ H s) (r : Vals vs us)
    (h : ∀ x dx, H x = none → H dx = none → dx ≠ x → spD X.K n m (.ref x :: vs) (upd (upd H dx (.own x)) x (.ins C dx [])) (fun v H2 => v = .non ∧ Q (.ref x) H2) E) : wpAny (model X.prog X.w) X.A (call (.ref C) us) (EP X pins σ Q) X.xe s := by
  obtain ⟨fa, fd, ps, F, hb, M⟩ := M
  have hq := h (s.heap.objs.size + 1) s.heap.objs.size (I.hok.fresh (Nat.le_succ _)) (I.hok.fresh (Nat.le_refl _)) (Nat.ne_of_lt (Nat.lt_succ_self _))
  have I2 := Inv.made (C := C) I
  have r2 : Vals (V.ref (s.heap.objs.size + 1) :: vs) (Value.ref (s.heap.objs.size + 1) :: us) := .cons rfl r
  have hl : (Value.ref (s.heap.objs.size + 1) :: us).length = ps.length := r2.length.symm.trans (F.len _ _ _ _ hq)
  have hb' := hb { s with heap := (s.heap.push PySem.W.emptyDict).push (PySem.W.instObj C s.heap.objs.size) } (Value.ref (s.heap.objs.size + 1) :: us) I2.kIn (by simpa using hl)
  rw [List.append_nil] at hb'
  apply wpAny_call
  apply make_map (f := fa) I.kIn M.makes M.init (beq_iff_eq.mp M.fn)
  apply codeAny_mono (F.run _ X.stack _ _ ⟨Value.ref (s.heap.objs.size + 1) :: us, []⟩ _ _ _ E (hr.make C us []) (I2.env0.make C us []) hb' r2 hq)
  intro r s' q
  match r, q with
  | .error e, q => exact hx pins _ _ e s' I2 q
  | .ok (.ret u), q =>
    obtain ⟨v, H', I3, rv, ev, q3⟩ := I2.after q
    subst ev
    exact ⟨rv, ⟨V.ref (s.heap.objs.size + 1), H', I3, rfl, q3⟩⟩
  | .ok .next, q => exact q.elim
  | .ok .brk, q => exact q.elim
  | .ok .cont, q => exact q.elim
theorem MakeIn.kp {P : Program} {w : World} {K : Fr} {mg : Str → Option Value} {base : Heap} {n : Nat} (M : MakeIn P w K mg base C k n m) : PySem.W.keepIn K (.ref C) = true := by
  obtain ⟨_, _, _, _, _, M⟩ := M
  exact M.kp
theorem makeD_ok {n : Nat} (M : MakeIn X.prog X.w X.K X.mg X.base C k n m) (hr : Room (k + 1) X.A) (tk : Takes X W) {pins : List (Addr × Obj)} {s : Shared} {σ : St} {H : Hp} {Q : VK} (I : Inv X pins σ H s) (h : tE X.K W (makeD C n m ga) σ H Q) (ha : AV X W (e :: es) ga)
    (he : starEach (e :: es) X.env = (false, eval e X.env) :: starEach es X.env) (hpl : (backTo pos (starEach es X.env)).any (·.1) = false) :
    wpAny (model X.prog X.w) X.A (callWith pos (.ref C) [] (backTo pos (starEach (e :: es) X.env)) []) (EP X pins σ Q) X.xe s := by
  obtain ⟨B, F0, S, rel, q⟩ := h
  refine PySem.W.callWith_K (h₀ := X.base) I.ok.mod.kin M.kp (thn (ha.pa.run pos pins s σ H
    (fun vs H1 => ∀ x dx, H1 x = none → H1 dx = none → dx ≠ x → spD X.K n m (.ref x :: vs) (upd (upd H1 dx (.own x)) x (.ins C dx [])) (fun v H2 => v = .non ∧ Q (.ref x) H2) fun cls d H2 => W cls d σ H2) I ⟨B, F0, S, rel, ?_⟩) fun us s1 ⟨vs, H1, I1, r, q⟩ => ⟨I1.kIn, ?_⟩) he hpl
  · unfold makeD at q
    cases qa : ga S with
    | stuck => rw [qa] at q; exact q
    | exc C fs S' => rw [qa] at q; exact q
    | ok rs S1 =>
      rw [qa] at q
      intro xs H1 F1 xt rel1 rv1 x dx hx hdx hne
      exact make_sp rel1 rv1 (Po.ext xt q) hx hdx hne
  · exact run_makeW M hr (passW tk) I1 r q
theorem ev_make {x : Str} {n : Nat} (M : MakeIn X.prog X.w X.K X.mg X.base C k n m) (hr : Room (k + 1) X.A) (tk : Takes X W) (hg : Gl X x) (hm : X.mg x = some (.ref C)) (ha : AV X W (e :: es) ga)
    (hdb : (x == ("__debug__" : Str)) = false := by decide) (he : starEach (e :: es) X.env = (false, eval e X.env) :: starEach es X.env := by rfl) (hpl : (backTo pos (starEach es X.env)).any (·.1) = false := by rfl) :
    EV X W (.Call (.Name x p) (e :: es) [] pos) (makeD C n m ga) := by
  refine ⟨⟨fun pins s σ H Q I h => ?_⟩⟩
  refine wpAny_Call_Name_kw (ld_glob I hg hm ?_ hdb)
  exact makeD_ok M hr tk I h ha he hpl
/-- x(e, ..), x a local name that holds the class at C -/
def makeL (i : Nat) (C : Addr) (n : Nat) (m : List Sl → Fo) (ga : DS → AOut) : DS → Out := fun S => match S[i]? with
  | some (.fr (.cls C')) => if C' = C then makeD C n m ga S else .stuck
  | _ => .stuck
theorem ev_makeL (i : Nat) {x : Str} {n : Nat} (M : MakeIn X.prog X.w X.K X.mg X.base C k n m) (hr : Room (k + 1) X.A) (tk : Takes X W) (hv : PE X (.Name x p) (tVar i)) (ha : AV X W (e :: es) ga)
    (he : starEach (e :: es) X.env = (false, eval e X.env) :: starEach es X.env := by rfl) (hpl : (backTo pos (starEach es X.env)).any (·.1) = false := by rfl) :
    EV X W (.Call (.Name x p) (e :: es) [] pos) (makeL i C n m ga) := by
  refine ⟨⟨fun pins s σ H Q I h => ?_⟩⟩
  obtain ⟨B, F0, S, rel, q⟩ := h
  unfold makeL at q
  split at q
  · rename_i C' hi
    split at q
    · rename_i hc
      subst hc
      obtain ⟨o, ho, v, rfl, av⟩ := rel.sl i _ hi
      cases av
      refine wpAny_Call_Name_kw (thn (hv.run pins s σ H (fun v H1 => v = .ref C' ∧ H1 = H) I ⟨.ref C', ho, rfl, rfl⟩) fun u s1 ⟨v, H1, I1, r1, q1⟩ => ?_)
      obtain ⟨rfl, rfl⟩ := q1
      cases r1
      exact makeD_ok M hr tk I1 ⟨B, F0, S, rel, q⟩ ha he hpl
    · exact q.elim
  · exact q.elim
end
end DL
namespace DL
open PySem PySem.Spec PyProof.Rows L2
variable [Nm]

section
variable {X : Cx} {W : WX} {e e1 e2 o : Expr} {es : List Expr} {f g : DS → Out} {ga : DS → AOut} {pos p : Pos} {C : Addr} {n : Nat} {k : Nat} {m : List Sl → Fo}
/-! ### C.m(..), m a classmethod -/
theorem code_fnO {k : Nat} {fa : Addr} {fd : FuncData} {ps : List Str} {sp : Sp} {E : XK} {pins : List (Addr × Obj)} {σ : St} {H : Hp} {s : Shared} {Q : VK} {us : List Value} {vs : List V} (F : FnOk X.prog X.w X.K X.mg X.base (L2.CX X.prog X.w) k fa fd ps sp) (hr : Room k X.A)
    (hb : Binds X.K fd ps []) (hx : PassW X σ E) (I : Inv X pins σ H s) (r : Vals vs us) (h : sp vs H Q E) : codeAny (model X.prog X.w) X.A (.call (.ref fa) ⟨us, []⟩) (fun r s' => match r with | .ok (.ret v) => EP X pins σ Q v s' | .ok _ => False | .error e => X.xe e s') s := by
  have cnt : us.length = ps.length := r.length.symm.trans (F.len _ _ _ _ h)
  have h' := hb s us I.kIn (by simpa using cnt)
  rw [List.append_nil] at h'
  apply codeAny_mono (F.run X.A X.stack s H ⟨us, []⟩ _ _ Q E hr I.env0 h' r h)
  intro r s' q
  match r, q with
  | .error e, q => exact hx pins H s e s' I q
  | .ok (.ret u), q => exact I.after q
  | .ok .next, q => exact q.elim
  | .ok .brk, q => exact q.elim
  | .ok .cont, q => exact q.elim
structure CMethIn (P : Program) (w : World) (K : Fr) (mg : Str → Option Value) (base : Heap) (C : Addr) (x : Str) (k n : Nat) (m : List Sl → Fo) : Prop where
  ex : ∃ mc p fa fd ps, FnOk P w K mg base (L2.CX P w) k fa fd ps (spD K n m) ∧ Binds K fd ps [] ∧ ClX.CRead K C mc ∧ ClX.CMet K C mc x p fa
def cmethD (C : Addr) (n : Nat) (m : List Sl → Fo) (f : DS → Out) (ga : DS → AOut) : DS → Out := bnd f fun r S => match r with
  | .v (.cls C') => if C' = C then (match ga S with
    | .ok rs S1 => callS n m (.v (.cls C) :: rs) S1
    | .exc C fs S' => .exc C fs S'
    | .stuck => .stuck) else .stuck
  | _ => .stuck
theorem ev_cmeth {x : Str} {apos : Pos} {pl : Sem Bool} (M : CMethIn X.prog X.w X.K X.mg X.base C x k n m) (hr : Room k X.A) (tk : Takes X W) (a : EV X W o f) (ha : AV X W (e :: es) ga)
    (hst : starEach (e :: es) X.env = (false, eval e X.env) :: starEach es X.env := by rfl) (hpl : (backTo pos (starEach es X.env)).any (·.1) = false := by rfl)
    (ht : eval (.Call (.Attribute o x apos) (e :: es) [] pos) X.env = (do
      let ov ← eval o X.env
      standAt apos.atName
      let (f, first) ← holding [ov] (getMethod ov x pl)
      callWith pos f first (backTo pos (starEach (e :: es) X.env)) (backToKw pos (keywordEach [] X.env))) := by rfl) : EV X W (.Call (.Attribute o x apos) (e :: es) [] pos) (cmethD C n m f ga) := by
  obtain ⟨mc, p, fa, fd, ps, F, hb, cr, cm⟩ := M.ex
  refine ⟨⟨fun pins s σ H Q I ⟨B, F0, S, rel, q⟩ => ?_⟩⟩
  obtain ⟨B1, F1, S1, rel1, p1⟩ := tE_bnd rel q
  refine PySem.W.methodCall_KW (pl := pl) (thn (a.pe.run pins s σ H _ I ⟨B1, F1, S1, rel1, p1⟩) fun u s1 ⟨x1, H1, I1, rx, F2, S2, r, x2, rel2, rv2, p2⟩ => ?_) ht
  match r, rv2, p2 with
  | .v (.cls C'), rv2, p2 =>
    dsimp only at p2
    split at p2
    · rename_i hc
      subst hc
      have ex : x1 = .ref C' := by
        have h : At X.K F2 H1 x1 (.cls C') := rv2
        cases h
        rfl
      subst ex
      obtain rfl : u = Value.ref C' := rx
      refine ClX.getmethcm_ok I1 cr cm fun s2 I2 => ?_
      refine ClX.callwith_cm I2 (ClX.base_none I1 (Nat.le_refl _)) cm.fi (thn (ha.pa.run pos _ s2 σ H1 (fun vs H3 => spD X.K n m (.ref C' :: vs) H3 Q fun cls d H2 => W cls d σ H2) I2 ⟨_, F2, S2, rel2, ?_⟩) fun us s3 ⟨vs, H2, I3, rv, q2⟩ => ⟨⟨ClX.pin_at I3, I3.kIn⟩, ?_⟩) hst hpl
      · cases qa : ga S2 with
        | stuck => rw [qa] at p2; exact p2
        | exc C fs S' => rw [qa] at p2; exact p2
        | ok rs S3 =>
          rw [qa] at p2
          intro xs H3 F3 xt rel3 rv3
          exact callS_sp rel3 (.cons (show RVs X.K F3 σ H3 (V.ref C') (.v (.cls C')) from At.cls C') rv3) (Po.ext xt p2)
      · have z : wpAny (model X.prog X.w) X.A (call (.ref s1.heap.objs.size) us) (EP X ((s1.heap.objs.size, PySem.W.methodObj (.ref fa) (.ref C')) :: pins) σ Q) X.xe s3 :=
          wpAny_call (PySem.W.method_call (ClX.pin_at I3) (code_fnO (us := .ref C' :: us) (vs := .ref C' :: vs) F hr hb (passW tk) I3 (.cons rfl rv) q2))
        exact thn z fun _ _ y => ClX.unpinE y
    · exact p2.elim

/-! ### try, the body raising nothing -/
def thruS (g : DS → Fl) : DS → Fl := fun S => match g S with
  | .exc _ _ _ => .stuck
  | o => o
theorem sv_thru {body : List Stmt} {h₀ : ExceptHandler} {hs : List ExceptHandler} {g : DS → Fl} (b : SVs X.nox W0 body g) : SV X W (.Try body (h₀ :: hs) [] [] pos) (thruS g) := by
  refine ⟨PS.imp (ps_try_thru0 b.ps) fun E σ H ⟨B, F, S, rel, p⟩ => ⟨B, F, S, rel, ?_⟩⟩
  unfold thruS at p
  cases h : g S with
  | nx S' => rw [h] at p; exact p
  | rt r S' => rw [h] at p; exact p
  | bk S' => rw [h] at p; exact p
  | ct S' => rw [h] at p; exact p
  | exc C fs S' => rw [h] at p; exact p.elim
  | stuck => rw [h] at p; exact p.elim

/-! ### constants of the module -/
theorem ev_gint {x : Str} {i : Int} (hg : Gl X x) (hm : ∃ u, X.mg x = some u ∧ RelV (.int i) u) (hd : (x == ("__debug__" : Str)) = false := by decide) : EV X W (.Name x pos) (cst (.int i)) := by
  obtain ⟨u, h1, h2⟩ := hm
  exact ev_cst (pe_glob (v := V.int i) hg h1 h2 hd) fun _ _ => .int i
theorem ev_gstr {x : Str} {z : Str} (hg : Gl X x) (hm : ∃ u, X.mg x = some u ∧ RelV (.str z) u) (hd : (x == ("__debug__" : Str)) = false := by decide) : EV X W (.Name x pos) (cst (.str z)) := by
  obtain ⟨u, h1, h2⟩ := hm
  exact ev_cst (pe_glob (v := V.str z) hg h1 h2 hd) fun _ _ => .str z
end
end DL
namespace DL
open PySem PySem.Spec PyProof.Rows L2
variable [Nm]

/-! ### f(e), e a new object that goes to f alone -/
def callF (m : List Sl → Fo) (f : DS → Out) : DS → Out := fun S => match f S with
  | .ok (.ow d) S1 => match m [.ow true d] with
    | .ret (.v d') _ => .ok (.v d') S1
    | .exc C fs _ => .exc C fs S1
    | _ => .stuck
  | .exc C fs S' => .exc C fs S'
  | _ => .stuck
section
variable {K : Fr} {W : WX} {B : Bs} {F F' : Addr → Prop} {H H' : Hp} {σ : St} {S S1 : DS}
/-- only the object at a, that no slot knows, was touched -/
theorem Rel.other {a : Addr} (r : Rel K B F S σ H) (e : Ext F H F' H') (nw : ∀ b, F' b → F b ∨ H b = none) (tk : ∀ b, F' b → ∃ o, H' b = some o) (k : ∀ b o, H b = some o → b ≠ a → Still H' b o) (hB : B.H0 a = none) (no : NotOwn S σ a) (tb : AllTabs H') : Rel K B F' S σ H' := by
  have st : ∀ {b : Addr} {o : HO}, H b = some o → b ≠ a → (∀ ps, o ≠ .tbl ps) → H' b = some o := by
    intro b o h n z
    rcases k b o h n with y | ⟨ps, ps', y, _⟩
    · exact y
    · exact (z ps y).elim
  refine ⟨r.len, fun j s hs => ?_, r.dis, tk, fun b h => e.sub b (r.f0 b h), fun b h => ?_, fun b o hb hm => ?_, r.own, r.par, r.onl, r.f0t, tb⟩
  · obtain ⟨o, ho, hsl⟩ := r.sl j s hs
    refine ⟨o, ho, ?_⟩
    cases s with
    | un => trivial
    | fr d => obtain ⟨v, h1, h2⟩ := hsl; exact ⟨v, h1, h2.ext e⟩
    | ow p d =>
      obtain ⟨b, rfl, h2, h3⟩ := hsl
      have nb : b ≠ a := fun z => no j p d hs (by rw [← z]; exact ho)
      refine ⟨b, rfl, fun z => ?_, ?_⟩
      · rcases nw b z with z | z
        · exact h2 z
        · obtain ⟨u, hu⟩ := h3.there
          rw [z] at hu
          cases hu
      · cases d with
        | lst ds =>
          obtain ⟨vs, h4, h5⟩ := h3
          exact ⟨vs, st h4 nb (fun _ z => nomatch z), h5.ext e⟩
        | ins C fs =>
          obtain ⟨dx, fvs, h4, h5⟩ := h3
          exact ⟨dx, fvs, st h4 nb (fun _ z => nomatch z), h5.ext e⟩
        | _ => exact h3.elim
  · rcases nw b h with h | h
    · exact r.new b h
    · exact .inr (r.h0 h)
  · have nb : b ≠ a := fun z => by
      rw [z, hB] at hb
      cases hb
    rcases r.keep b o hb hm with h | ⟨ps, ps', h1, h2⟩
    · exact k b o h nb
    · rcases k b _ h2 nb with y | ⟨qs, qs', _, y⟩
      · exact .inr ⟨ps, ps', h1, y⟩
      · exact .inr ⟨ps, qs', h1, y⟩
theorem callF_sp {m : List Sl → Fo} {Q : VK} {x : V} {d : D} (x1 : Xt σ S F H S1 F' H') (rel1 : Rel K B F' S1 σ H') (rv : RV K B H F' S1 σ H' x (.ow d)) (q : Po K W B S F H σ Q (match m [.ow true d] with
    | .ret (.v d') _ => .ok (.v d') S1
    | .exc C fs _ => .exc C fs S1
    | _ => .stuck)) : spD K 1 m [x] H' Q fun cls d H2 => W cls d σ H2 := by
  obtain ⟨a, rfl, nF, own, hB, hG, nSl⟩ := rv
  have A : ArgsAt K F' H' [.ref a] [.ow true d] := by
    refine ⟨rfl, fun i s hs => ?_, fun i s hs => ?_, fun i j b d1 d2 h1 h2 _ _ => ?_, rel1.trk, rel1.tabs⟩
    · cases i with
      | zero => cases hs; exact ⟨_, rfl, a, rfl, nF, own⟩
      | succ i => simp at hs
    · cases i with
      | zero => cases hs; exact .inr ⟨_, rfl⟩
      | succ i => simp at hs
    · cases i with
      | zero => cases j with
        | zero => rfl
        | succ j => simp at h2
      | succ i => simp at h1
  have step : ∀ {F2 : Addr → Prop} {H2 : Hp} {as : List Sl}, Called K F' H' [.ref a] [.ow true d] F2 H2 as → Xt σ S F H S1 F2 H2 ∧ Rel K B F2 S1 σ H2 := by
    intro F2 H2 as c
    have k : ∀ b o, H' b = some o → b ≠ a → Still H2 b o := fun b o h n => c.keep b o h fun i d' h1 h2 => by
      cases i with
      | zero =>
        simp at h2
        exact n h2.symm
      | succ i => simp at h1
    have nH : ∀ b o, H b = some o → b ≠ a := fun b o h z => by
      rw [z, hG] at h
      cases h
    refine ⟨⟨x1.toExt.trans c.ext, fun b o h n => ?_, x1.own, fun b h => ?_, fun b o h => ?_⟩, rel1.other c.ext c.new c.trk k hB nSl c.tabs⟩
    · rcases x1.rest b o h n with y | ⟨ps, ps', y1, y2⟩
      · exact k b o y (nH b o h)
      · rcases k b _ y2 (nH b o h) with z | ⟨qs, qs', _, z⟩
        · exact .inr ⟨ps, ps', y1, z⟩
        · exact .inr ⟨ps, qs', y1, z⟩
    · rcases c.new b h with z | z
      · exact x1.new b z
      · exact .inr (x1.back z)
    · obtain ⟨o', y⟩ := x1.there b o h
      rcases k b o' y (nH b o h) with z | ⟨_, _, _, z⟩
      · exact ⟨_, z⟩
      · exact ⟨_, z⟩
  refine ⟨F', [.ow true d], rfl, A, ?_⟩
  cases qm : m [.ow true d] with
  | stuck => rw [qm] at q; exact q.elim
  | exc C fs as =>
    rw [qm] at q
    intro dx fvs H2 F2 c h1 h2 h3
    obtain ⟨x2, rel2⟩ := step c
    exact q dx fvs H2 F2 x2 rel2 h1 (rel1.h0 h2) h3
  | ret rr as =>
    rw [qm] at q
    match rr, q with
    | .v d', q =>
      intro y H2 F2 c rv
      obtain ⟨x2, rel2⟩ := step c
      exact q y H2 F2 x2 rel2 rv
end
section
variable {X : Cx} {W : WX} {k : Nat} {ps : List Str} {m : List Sl → Fo} {x : Str} {p pos : Pos} {e : Expr} {f : DS → Out}
theorem ev_callF (D : DefOk X.prog X.w X.K X.mg X.base x k ps m) (hn : ps.length = 1) (hr : Room k X.A) (hgd : X.A.guards = some []) (tk : Takes X W) (hg : Gl X x) (a : EV X W e f)
    (hdb : (x == ("__debug__" : Str)) = false := by decide) (he : starEach [e] X.env = (false, eval e X.env) :: starEach [] X.env := by rfl) (hpl : (backTo pos (starEach [] X.env)).any (·.1) = false := by rfl) :
    EV X W (.Call (.Name x p) [e] [] pos) (callF m f) := by
  obtain ⟨fa, fd, F, hm, hk, hb⟩ := D
  rw [hn] at F
  refine ⟨⟨fun pins s σ H Q I ⟨B, F0, S, rel, q⟩ => ?_⟩⟩
  refine wpAny_Call_Name_kw (ld_glob I hg hm ?_ hdb)
  refine PySem.W.callWith_K (h₀ := X.base) I.ok.mod.kin hk (thn ((pa_cons a.pe pa_nil he).run pos pins s σ H
    (fun vs H1 => spD X.K 1 m vs H1 Q fun cls d H2 => W cls d σ H2) I ⟨B, F0, S, rel, ?_⟩) fun us s1 ⟨vs, H1, I1, r, q⟩ => ⟨I1.kIn, ?_⟩) he hpl
  · unfold callF at q
    cases qa : f S with
    | stuck => rw [qa] at q; exact q
    | exc C fs S' => rw [qa] at q; exact q
    | ok rr S1 =>
      rw [qa] at q
      cases rr with
      | ow d => exact fun y H1 F1 x1 rel1 rv => callF_sp x1 rel1 rv q
      | _ => exact q.elim
  · refine run_fnG (E := fun cls d H2 => W cls d σ H2) (dvs := []) F hr hgd hb .nil (fun J e s' c => tk e s' (XE.of_call J (fun cls d H' h => h) c)) I1 r ?_
    rw [List.append_nil]
    exact q
end
end DL
namespace DL
open PySem PySem.Spec PyProof.Rows L2
variable [Nm]
/-- name = [.. for ..], the list frozen at once -/
theorem sv_fzL {X : Cx} {W : WX} {st : Stmt} {i : Nat} {f : DS → Out} (a : SV X W st (asgS i f)) : SV X W st (asgS i (fz f)) := by
  refine ⟨PS.imp a.ps fun E σ H ⟨B, F, S, rel, p⟩ => ?_⟩
  unfold asgS fz at p
  cases h : f S with
  | exc C fs S' => rw [h] at p; exact ⟨B, F, S, rel, by unfold asgS; rw [h]; exact p⟩
  | stuck => rw [h] at p; exact p.elim
  | ok r S' =>
    rw [h] at p
    cases r with
    | v d => exact ⟨B, F, S, rel, by unfold asgS; rw [h]; exact p⟩
    | bw j => exact ⟨B, F, S, rel, by unfold asgS; rw [h]; exact p⟩
    | ow d =>
      refine ⟨B, F, S, rel, ?_⟩
      unfold asgS
      rw [h]
      have p : PoS X.K W B F H E (putN i (.v d) S') := p
      show PoS X.K W B F H E (putN i (.ow d) S')
      unfold putN at p ⊢
      split at p
      · rename_i fs
        rw [if_pos fs]
        intro σ' H' F' xt rel'
        have li : i < S'.length := by
          unfold freeSl at fs
          by_cases z : i < S'.length
          · exact z
          · rw [List.getElem?_eq_none (by omega)] at fs
            cases fs
        have hi : (S'.set i (.ow false d))[i]? = some (.ow false d) := List.getElem?_set_self li
        obtain ⟨F2, x2, rel2⟩ := rel'.frzSl hi
        rw [List.set_set] at rel2
        exact p σ' H' F2 (xt.trans x2) rel2
      · exact p.elim
end DL
namespace DL
open PySem PySem.Spec PyProof.Rows L2
variable [Nm]

/-! ### what stands in the written part -/
def MethF (K : Fr) (C : Addr) (x qual : Str) (st : Stmt) (ps : List Str) : Prop := ∃ fa fd, Fun K x qual st fa fd ∧ Binds K fd ps [] ∧ PySem.W.findIn K (.ref C) x = some (some (.ref fa)) ∧ PySem.W.isFn K (.ref fa) = true
theorem MethF.mk {K : Fr} {C : Addr} {x qual : Str} {st : Stmt} {ps : List Str} {f : Addr} {oc : Value} {od an : Option Addr} {osl : Array (Option Value)} {kV doc pm cdv ct : Value} (a : PySem.W.findIn K (.ref C) x = some (some (.ref f))) (i : PySem.W.isFn K (.ref f) = true)
    (l : K.lookup f = some ⟨oc, od, .func (PySem.W.fnOf x qual (defArgs st) (defBody st) (defScope st) .none kV doc pm an cdv ct), osl⟩) (c : PySem.W.codeIn K cdv qual = true) (k : PySem.W.keepIn K (.ref f) = true)
    (b : ∀ (kV doc pm : Value) (an : Option Addr) (cdv ct : Value) (us : List Value), us.length = ps.length → bindArgs (PySem.W.fnOf x qual (defArgs st) (defBody st) (defScope st) .none kV doc pm an cdv ct) ⟨us, []⟩ = pure (ps.zip us)) : MethF K C x qual st ps :=
  ⟨f, _, fun_mk l c k, (fun_mk l c k).binds b, a, i⟩
def PropF (K : Fr) (C : Addr) (x qual : Str) (st : Stmt) : Prop := ∃ p fa fd, Fun K x qual st fa fd ∧ Binds K fd ["self"] [] ∧ PropOf K C x p fa
theorem PropF.mk {K : Fr} {C : Addr} {x qual : Str} {st : Stmt} {p f : Addr} {oc : Value} {od an : Option Addr} {osl : Array (Option Value)} {kV doc pm cdv ct : Value} {rest : List Value} (a : PySem.W.findIn K (.ref C) x = some (some (.ref p))) (g : PySem.W.specialIn K (.ref p) "__get__" = some (some (.builtin "property.__get__")))
    (t : PySem.W.takesIn K (.ref p) = some true) (r : PySem.W.recIn K p "property" = some (.ref f :: rest))
    (l : K.lookup f = some ⟨oc, od, .func (PySem.W.fnOf x qual (defArgs st) (defBody st) (defScope st) .none kV doc pm an cdv ct), osl⟩) (c : PySem.W.codeIn K cdv qual = true) (k : PySem.W.keepIn K (.ref f) = true)
    (b : ∀ (kV doc pm : Value) (an : Option Addr) (cdv ct : Value) (us : List Value), us.length = ["self"].length → bindArgs (PySem.W.fnOf x qual (defArgs st) (defBody st) (defScope st) .none kV doc pm an cdv ct) ⟨us, []⟩ = pure ((["self"] : List Str).zip us)) : PropF K C x qual st :=
  ⟨p, f, _, fun_mk l c k, (fun_mk l c k).binds b, ⟨a, g, t, rest, r⟩⟩
def CMethF (K : Fr) (C : Addr) (x qual : Str) (st : Stmt) (ps : List Str) : Prop := ∃ mc p fa fd, Fun K x qual st fa fd ∧ Binds K fd ps [] ∧ ClX.CRead K C mc ∧ ClX.CMet K C mc x p fa
theorem CMethF.mk {K : Fr} {C : Addr} {mc : Value} {x qual : Str} {st : Stmt} {ps : List Str} {p f : Addr} {oc : Value} {od an : Option Addr} {osl : Array (Option Value)} {kV doc pm cdv ct : Value} {rest : List Value} (rd : PySem.W.readsIn K C mc = true) (ga : PySem.W.specialIn K (.ref C) "__getattribute__" = some (some (.builtin "type.__getattribute__")))
    (a : PySem.W.findCls K (.ref C) mc x = some (.get (.builtin "classmethod.__get__") (.ref p) .none (.ref C))) (r : PySem.W.recIn K p "classmethod" = some (.ref f :: rest)) (fi : PySem.W.fnIn K f = true)
    (l : K.lookup f = some ⟨oc, od, .func (PySem.W.fnOf x qual (defArgs st) (defBody st) (defScope st) .none kV doc pm an cdv ct), osl⟩) (c : PySem.W.codeIn K cdv qual = true) (k : PySem.W.keepIn K (.ref f) = true)
    (b : ∀ (kV doc pm : Value) (an : Option Addr) (cdv ct : Value) (us : List Value), us.length = ps.length → bindArgs (PySem.W.fnOf x qual (defArgs st) (defBody st) (defScope st) .none kV doc pm an cdv ct) ⟨us, []⟩ = pure (ps.zip us)) : CMethF K C x qual st ps :=
  ⟨mc, p, f, _, fun_mk l c k, (fun_mk l c k).binds b, ⟨rd, ga⟩, ⟨a, ⟨rest, r⟩, fi⟩⟩
def MakeF (K : Fr) (C : Addr) (qual : Str) (st : Stmt) (ps : List Str) : Prop := MethF K C "__init__" qual st ps ∧ PySem.W.makesIn K C = true ∧ PySem.W.keepIn K (.ref C) = true
def ConstI (K : Fr) (x : Str) (v : V) : Prop := ∃ u, PySem.W.nsIn K mainGlobals x = some (some u) ∧ RelV v u
section
variable {P : Program} {w : World} {K : Fr} {mg : Str → Option Value} {base : Heap} {C : Addr} {x qual : Str} {st : Stmt} {ps : List Str} {k n : Nat} {m : List Sl → Fo}
theorem ConstI.at_ {h : Heap} {v : V} (c : ConstI K x v) (X : K.In h) (G : h.Ns mainGlobals mg) : ∃ u, mg x = some u ∧ RelV v u := by
  obtain ⟨u, h1, h2⟩ := c
  exact ⟨u, PySem.W.mg_of X G h1, h2⟩
theorem MethF.met (M : MethF K C x qual st ps) (h : ∀ f fd, Fun K x qual st f fd → FnOk P w K mg base (L2.CX P w) k f fd ps (spD K n m)) : MetOk P w K mg base C x k n m := by
  obtain ⟨fa, fd, F, b, a, i⟩ := M
  exact ⟨fa, fd, ps, h fa fd F, b, a, i⟩
theorem PropF.prop (M : PropF K C x qual st) (h : ∀ f fd, Fun K x qual st f fd → FnOk P w K mg base (L2.CX P w) k f fd ["self"] (spD K 1 m)) : PropIn P w K mg base C x k m := by
  obtain ⟨p, fa, fd, F, b, a⟩ := M
  exact ⟨p, fa, fd, _, h fa fd F, b, a⟩
theorem CMethF.cm (M : CMethF K C x qual st ps) (h : ∀ f fd, Fun K x qual st f fd → FnOk P w K mg base (L2.CX P w) k f fd ps (spD K n m)) : CMethIn P w K mg base C x k n m := by
  obtain ⟨mc, p, fa, fd, F, b, r, a⟩ := M
  exact ⟨mc, p, fa, fd, ps, h fa fd F, b, r, a⟩
theorem MakeF.make (M : MakeF K C qual st ps) (h : ∀ f fd, Fun K "__init__" qual st f fd → FnOk P w K mg base (L2.CX P w) k f fd ps (spD K n m)) : MakeIn P w K mg base C k n m := by
  obtain ⟨⟨fa, fd, F, b, a, i⟩, mk, kp⟩ := M
  exact ⟨fa, fd, ps, h fa fd F, b, mk, a, i, kp⟩
end
theorem ConstI.mk {K : Fr} {x : Str} {v : V} {u : Value} (h1 : PySem.W.nsIn K mainGlobals x = some (some u)) (h2 : RelV v u) : ConstI K x v := ⟨u, h1, h2⟩
theorem kit_own {K : Fr} {C : Addr} {t : Value} {b : Bool} (h1 : PySem.W.isClsIn K C = true) (h2 : PySem.W.typeIn K (.ref C) = some (.type "type")) (h3 : PySem.W.subIn K t (.ref C) = some b) (ne : (t == .ref C) = false) : PySem.W.kitOne K t (.ref C) = some b := by
  unfold PySem.W.kitOne
  rw [ne]
  show PySem.W.kitCls K t (.ref C) = some b
  unfold PySem.W.kitCls
  have z : (PySem.W.clsIn K C).isSome = true := h1
  simp [z, h2, h3]
theorem kit_same {K : Fr} {C : Addr} : PySem.W.kitOne K (.ref C) (.ref C) = some true := by
  unfold PySem.W.kitOne
  simp
/-! ### the law's call, with empty tables of code -/
/-- the script at a (where o tells it), the tables at ts -/
def tabH (ts : List Addr) (a : Addr) (o : Option HO) : Hp := fun b => if b ∈ ts then some (.tbl #[]) else if b = a then o else none
theorem tabH_t {ts : List Addr} {a b : Addr} {o : Option HO} (h : b ∈ ts) : tabH ts a o b = some (.tbl #[]) := if_pos h
theorem tabH_n {ts : List Addr} {a b : Addr} {o : Option HO} (h : b ∉ ts) (n : b ≠ a) : tabH ts a o b = none := (if_neg h).trans (if_neg n)
theorem tabH_a {ts : List Addr} {a : Addr} {o : Option HO} (h : a ∉ ts) : tabH ts a o a = o := (if_neg h).trans (if_pos rfl)
theorem lawGT {P : Program} {w : World} {K : Fr} {mg mb : Str → Option Value} {T : CXT} {k : Nat} {fa a : Addr} {fd : FuncData} {x : Str} {sp : Sp} {s₁ : Shared} {vs : List Value} {ns : List Int} {cs : List (Addr × Addr)}
    (KX : K.In s₁.heap) (gn : s₁.heap.Ns mainGlobals mg) (bn : s₁.heap.Ns builtinsNs mb) (bb : ∀ x : Str, x ≠ "__name__" → mb x = bootBuiltins x) (lim : s₁.heap.NoLimit) (gens : s₁.gens = #[])
    (bmn : ∃ bm ob, mg "__builtins__" = some (.ref bm) ∧ bm ≠ builtinsNs ∧ s₁.heap.get? bm = some ob ∧ ob.cls = .type "module" ∧ ob.dict = some builtinsNs ∧ ob.data = .plain)
    (tabs : ∀ p ∈ cs, s₁.heap.get? p.2 = some (PySem.W.tabObj #[])) (out : ∀ p ∈ cs, K.lookup p.2 = none) (hds : ∀ p ∈ cs, PySem.W.codeHdIn K p.1 p.2 = true)
    (obj : s₁.heap.get? a = some { cls := .type "list", data := .seq vs.toArray }) (iar : IntsAre vs ns) (small : ns.length ≤ sizeLine) (room : Room k callerA)
    (F : ∀ base : Heap, K.In base → base.Ns mainGlobals mg → (∀ p ∈ cs, LamX.TabB base mg p.1 p.2) → FnG P w K mg base T k fa fd [x] sp) (bind : ∀ (s : Shared) (u : Value), BindsTo s fd ⟨[u], []⟩ [(x, u)])
    (want : ∀ H : Hp, (∀ p ∈ cs, H p.2 = some (.tbl #[])) → (∀ P ps, H P = some (.tbl ps) → ps = #[]) → SqL K H a (ns.map V.int) → sp [.ref a] H (fun v _ => v = .bl true) fun _ _ _ => False)
    (none_out : ∀ H e s', T [] H s₁ (fun _ _ _ => False) e s' → False) :
    codeAny (model P w) callerA (.call (.ref fa) ⟨[.ref a], []⟩) (fun r s' => r = .ok (.ret (.bool true)) ∧ OldK s₁.heap s'.heap ∧ s'.os = s₁.os ∧ AllBare s'.gens) s₁ := by
  have rv := vals_ints iar
  have nl := iar.length
  obtain ⟨ts, hts⟩ : ∃ ts, ts = cs.map (·.2) := ⟨_, rfl⟩
  have inT : ∀ p ∈ cs, p.2 ∈ ts := fun p hp => by rw [hts]; exact List.mem_map_of_mem hp
  have ofT : ∀ b ∈ ts, ∃ p ∈ cs, p.2 = b := fun b hb => by rw [hts] at hb; simpa using hb
  have tabT : ∀ b ∈ ts, s₁.heap.get? b = some (PySem.W.tabObj #[]) := fun b hb => by
    obtain ⟨p, hp, rfl⟩ := ofT b hb
    exact tabs p hp
  have outT : ∀ b ∈ ts, K.lookup b = none := fun b hb => by
    obtain ⟨p, hp, rfl⟩ := ofT b hb
    exact out p hp
  have aT : a ∉ ts := fun z => by
    have q := (tabT a z).symm.trans obj
    cases q
  have main : ∀ so : Option HO, (so = none ∨ ∃ ob xs, so = some (.frz ob (.lst xs))) → (so ≠ none → K.lookup a = none) → SqL K (tabH ts a so) a (ns.map V.int) → HOk P w (tabH ts a so) s₁.heap →
      codeAny (model P w) callerA (.call (.ref fa) ⟨[.ref a], []⟩) (fun r s' => r = .ok (.ret (.bool true)) ∧ OldK s₁.heap s'.heap ∧ s'.os = s₁.os ∧ AllBare s'.gens) s₁ := by
    intro so kind notK sq hok
    -- what is neither the script nor a table is not told
    have untold : ∀ {b : Addr} {o : Obj}, s₁.heap.get? b = some o → (∀ d n, o.data ≠ .seq d n) → o.data ≠ .fields #[] → tabH ts a so b = none := by
      intro b o e h1 h2
      refine tabH_n (fun z => ?_) fun z => ?_
      · have q := (tabT b z).symm.trans e
        cases q
        exact h2 rfl
      · subst z
        rw [obj] at e
        cases e
        exact h1 _ _ rfl
    have undict : ∀ {b : Addr} {o : Obj} {es : Array DictEntry} {ep : Nat}, s₁.heap.get? b = some o → o.data = .dict es ep → tabH ts a so b = none := by
      intro b o es ep e d
      exact untold e (fun _ _ z => by rw [d] at z; cases z) fun z => by rw [d] at z; cases z
    have ns_ : ∀ {b : Addr} {m : Str → Option Value}, s₁.heap.Ns b m → (hidT s₁.heap (tabH ts a so)).Ns b m := by
      rintro b m ⟨o, es, ep, e, d, r⟩
      exact ⟨o, es, ep, hidT_get e (undict e d), d, r⟩
    have unK : ∀ {b : Addr} {o : Obj}, K.lookup b = some o → tabH ts a so b = none := by
      intro b o e
      have nT : b ∉ ts := fun z => by rw [outT b z] at e; cases e
      by_cases z : b = a
      · subst z
        rw [tabH_a nT]
        exact Classical.byContradiction fun q => by rw [notK q] at e; cases e
      · exact tabH_n nT z
    have kin : K.In (hidT s₁.heap (tabH ts a so)) := fun b o e => hidT_get (KX b o e) (unK e)
    have md : Mod K mg (hidT s₁.heap (tabH ts a so)) := by
      obtain ⟨mc, l1, l2⟩ := lim
      exact ⟨kin, ns_ gn, ⟨mb, ns_ bn, bb⟩, ⟨mc, ns_ l1, l2⟩⟩
    have notG : ∀ {b : Addr} {o : Obj}, s₁.heap.get? b = some o → (∀ es ep, o.data ≠ .dict es ep) → mainGlobals ≠ b := by
      intro b o e h z
      obtain ⟨o', es, ep, e', d, _⟩ := gn
      rw [z, e] at e'
      cases e'
      exact h es ep d
    have tb : ∀ p ∈ cs, LamX.TabB (hidT s₁.heap (tabH ts a so)) mg p.1 p.2 := fun p hp => by
      refine ⟨PySem.W.codeHd_of_K kin (hds p hp), ?_, notG (tabs p hp) fun _ _ z => by cases z⟩
      obtain ⟨bm, ob, b1, b2, b3, b4, b5, b6⟩ := bmn
      refine ⟨bm, ob, b1, b2, fun z => notG b3 (fun _ _ y => ?_) z.symm, fun z => ?_, hidT_get b3 (untold b3 (fun _ _ y => ?_) fun y => ?_), b4, b5, b6⟩
      · rw [b6] at y
        cases y
      · rw [z, tabs p hp] at b3
        cases b3
        cases b6
      · rw [b6] at y
        cases y
      · rw [b6] at y
        cases y
    have e0 : Env0 P w K mg (hidT s₁.heap (tabH ts a so)) callerA [] s₁ (tabH ts a so) :=
      ⟨rfl, md, fun b o e => of_hidT e, Nat.le_of_eq (hidT_size _ _), trivial, fun b hb => (List.not_mem_nil hb).elim, hok, .of_eq gens⟩
    have w0 := want (tabH ts a so) (fun p hp => tabH_t (inT p hp)) (fun P ps z => by
      by_cases h : P ∈ ts
      · rw [tabH_t h] at z
        cases z
        rfl
      · by_cases h2 : P = a
        · subst h2
          rw [tabH_a h] at z
          rcases kind with y | ⟨_, _, y⟩ <;> rw [y] at z <;> cases z
        · rw [tabH_n h h2] at z
          cases z) sq
    have call := (F _ kin (ns_ gn) tb).run callerA [] s₁ _ ⟨[.ref a], []⟩ [.ref a] [.ref a] _ _ room rfl e0 (bind s₁ (.ref a)) (.cons rfl .nil) w0
    apply codeAny_mono call
    intro r s' q
    match r, q with
    | .error e, q => exact (none_out _ e s' q).elim
    | .ok .next, q => exact q.elim
    | .ok .brk, q => exact q.elim
    | .ok .cont, q => exact q.elim
    | .ok (.ret u), q =>
      obtain ⟨v, H', os, bare, un, hok', rl, (is : v = .bl true)⟩ := q
      subst is
      cases (show u = Value.bool true from rl)
      -- a table may have grown
      have grown : ∀ p ∈ cs, ∃ more : Array Value, s'.heap.get? p.2 = some (PySem.W.tabObj more) := fun p hp => by
        obtain ⟨more, z⟩ := un.tbls p.2 #[] (tabH_t (inT p hp))
        exact ⟨_, hok' p.2 _ z⟩
      have kept : ∀ b o, b ∉ ts → s₁.heap.get? b = some o → s'.heap.get? b = some o := by
        intro b o nb e
        by_cases z : b = a
        · subst z
          rcases kind with y | ⟨ob, xs, y⟩
          · exact un.keep b o e ((tabH_a nb).trans y) (fun z => (List.not_mem_nil z).elim) (by simp)
          · have y := (tabH_a (o := so) nb).trans y
            have e1 := (hok b _ y).1
            have e2 := (hok' b _ (un.frzs b ob _ y)).1
            rw [e] at e1
            cases e1
            exact e2
        · exact un.keep b o e (tabH_n nb z) (fun z => (List.not_mem_nil z).elim) (by simp)
      refine ⟨rfl, ⟨fun b o e => ?_, fun b o e => ?_⟩, os, bare⟩
      · by_cases h : b ∈ ts
        · obtain ⟨p, hp, rfl⟩ := ofT b h
          obtain ⟨more, z⟩ := grown p hp
          have q := (tabs p hp).symm.trans e
          cases q
          exact .inr (.inl ⟨((PySem.W.codeHd_of_K KX (hds p hp)).tab (tabs p hp)).isCodeTable, rfl, #[], more, rfl, by rw [Array.empty_append]; exact z⟩)
        · exact .inl (kept b o h e)
      · by_cases h : b ∈ ts
        · obtain ⟨p, hp, rfl⟩ := ofT b h
          obtain ⟨more, z⟩ := grown p hp
          exact ⟨_, z⟩
        · exact ⟨o, kept b o h e⟩
  have okT : ∀ so : Option HO, (∀ u, so = some u → ObjOk P w (tabH ts a so) s₁.heap a u) → HOk P w (tabH ts a so) s₁.heap := by
    intro so h b u z
    by_cases hb : b ∈ ts
    · rw [tabH_t hb] at z
      cases z
      exact tabT b hb
    · by_cases h2 : b = a
      · subst h2
        rw [tabH_a hb] at z
        exact h u z
      · rw [tabH_n hb h2] at z
        cases z
  cases hk : K.lookup a with
  | some o =>
    have e := KX a o hk
    rw [obj] at e
    cases e
    refine main none (.inl rfl) (fun z => absurd rfl z) (.inr ⟨_, vs.toArray, _, hk, rfl, rfl, rfl, ?_, by simpa using rv⟩) (okT none fun _ z => nomatch z)
    have : vs.toArray.size = ns.length := by simp [nl]
    omega
  | none =>
    have zl : (ns.map V.int).length ≤ sizeLine := by simpa using small
    exact main (some (.frz ({ cls := .type "list", data := .seq vs.toArray } : Obj) (.lst (ns.map V.int)))) (.inr ⟨_, _, rfl⟩) (fun _ => hk) (.inl (.inr ⟨_, tabH_a aT⟩)) (okT _ fun u z => by
      cases z
      exact ⟨obj, zl, vs, _, rv, obj⟩)
/-! ### the law's end -/
def spLaw (K : Fr) (n : Nat) : Sp := fun vs H Q _ => ∃ (a : Addr) (ns : List Int), vs = [.ref a] ∧ SqL K H a (ns.map V.int) ∧ AllTabs H ∧ ns.length ≤ n ∧ ∀ H', Q (.bl true) H'
theorem law_sp {K : Fr} {n : Nat} {m : List Sl → Fo} (ok : ∀ ns : List Int, ns.length ≤ n → ∃ as, m [.fr (.scr ns)] = .ret (.v (.bl true)) as) {vs : List V} {H : Hp} {Q : VK} {E : XK} (h : spLaw K n vs H Q E) : spD K 1 m vs H Q E := by
  obtain ⟨a, ns, rfl, hS, tb, hn, q⟩ := h
  obtain ⟨as, e⟩ := ok ns hn
  have key : ∀ F : Addr → Prop, (∀ b, F b → ∃ o, H b = some o) → At K F H (.ref a) (.scr ns) → spD K 1 m [.ref a] H Q E := by
    intro F ht at'
    refine ⟨F, [.fr (.scr ns)], rfl, ⟨rfl, fun i s hs => ?_, fun i s hs => ?_, fun i j b d e h1 _ _ _ => ?_, ht, tb⟩, ?_⟩
    · cases i with
      | zero => cases hs; exact ⟨_, rfl, _, rfl, at'⟩
      | succ i => simp at hs
    · cases i with
      | zero => cases hs; exact .inl ⟨_, rfl⟩
      | succ i => simp at hs
    · cases i with
      | zero => simp at h1
      | succ i => simp at h1
    · rw [e]
      intro x H' F' _ rv
      rw [At.blI rv]
      exact q H'
  rcases hS with hS | hS
  · refine key (fun b => b = a) (fun b hb => ?_) (.scr (.inr ⟨rfl, hS⟩))
    subst hb
    rcases hS with hS | ⟨o, hS⟩
    · exact ⟨_, hS⟩
    · exact ⟨_, hS⟩
  · exact key (fun _ => False) (fun b hb => hb.elim) (.scr (.inl (.inr hS)))
theorem law_FnG {P : Program} {w : World} {K : Fr} {mg : Str → Option Value} {base : Heap} {k n : Nat} {f : Addr} {fd : FuncData} {m : List Sl → Fo} (F : FnG P w K mg base (L2.CX P w) k f fd ["script"] (spD K 1 m)) (ok : ∀ ns : List Int, ns.length ≤ n → ∃ as, m [.fr (.scr ns)] = .ret (.v (.bl true)) as) : FnG P w K mg base (L2.CX P w) k f fd ["script"] (spLaw K n) :=
  ⟨fun vs H Q E h => F.len vs H Q E (law_sp ok h), fun A o s H as us vs Q E r g e b v h => F.run A o s H as us vs Q E r g e b v (law_sp ok h)⟩
theorem allTabs0 {H : Hp} (h1 : ∀ P ∈ Nm.ts, H P = some (.tbl #[])) (h : ∀ P ps, H P = some (.tbl ps) → ps = #[]) : AllTabs H := by
  refine ⟨fun P hP => ⟨_, h1 P hP⟩, fun P ps e => ?_⟩
  rw [h P ps e]
  exact ⟨True.intro, fun pos cv z => by simp [codeAmong] at z⟩
omit [Nm] in
theorem walkD {l : PySem.W.OpenLaw} {k n : Nat} {q : Program} {loose : List Str} {XP : (Str → Option Value) → Heap → Prop} {YP : World → Heap → Prop} {d : DefRec} {K : Params → Fr} {cs : List (Addr × Addr)} (nm : Nm) (most : l.most = some n) (small : n ≤ sizeLine) (nodef : d.params.defaults = []) (room : Room k callerA) (hY : ∀ (w : World) (h : Heap), YP w h → (K w.params).In h)
    (tabs : ∀ (w : World) (h : Heap), YP w h → ∀ p ∈ cs, h.get? p.2 = some (PySem.W.tabObj #[])) (out : ∀ (w : World), ∀ p ∈ cs, (K w.params).lookup p.2 = none) (hds : ∀ (w : World), ∀ p ∈ cs, PySem.W.codeHdIn (K w.params) p.1 p.2 = true) (hts : nm.ts = cs.map (·.2))
    (F : ∀ (w : World) (mg : Str → Option Value) (fa : Addr) (h : Heap), (K w.params).In h → h.Ns mainGlobals mg → mg d.name = some (.ref fa) →
      ∃ fd : FuncData, (∀ (s : Shared) (u : Value), BindsTo s fd ⟨[u], []⟩ [("script", u)]) ∧ ∀ base : Heap, (K w.params).In base → base.Ns mainGlobals mg → (∀ p ∈ cs, LamX.TabB base mg p.1 p.2) → FnG l.prog w (K w.params) mg base (L2.CX l.prog w) k fa fd ["script"] (@spLaw nm (K w.params) n)) :
    PySem.W.WalkO q loose XP YP l.row.toRowW d [] (fun f vs => PySem.call f vs) := by
  refine Att.attach_callB most nodef fun w s₀ s₁ mg mb fa o pm cd doc a vs ns G Y ho hd hcd hmg hobj hints hlen _ hg => ?_
  letI : Nm := nm
  obtain ⟨fd, hb, hF⟩ := F w mg fa _ (hY w _ Y) G.T.g hmg
  refine lawGT (hY w _ Y) G.T.g G.T.b G.T.builtins G.T.nolimit hg G.T.bmain (tabs w _ Y) (out w) (hds w) hobj hints (Nat.le_trans hlen small) room hF hb (fun H h1 h0 hS => ?_) fun H e s' c => ?_
  · exact ⟨a, ns, rfl, hS, @allTabs0 nm H (fun P hP => by
      rw [hts] at hP
      obtain ⟨p, hp, e⟩ := List.mem_map.mp hP
      subst e
      exact h1 p hp) h0, hlen, fun _ => rfl⟩
  · obtain ⟨_, _, _, _, _, _, _, _, _, _, _, _, z⟩ := c
    exact z
end DL
namespace DL
open PySem PySem.Spec PyProof.Rows L2
variable [Nm]

theorem vals_app {vs : List V} {us : List Value} {zs : List V} {ws : List Value} (h : Vals vs us) (k : Vals zs ws) : Vals (vs ++ zs) (us ++ ws) := by
  induction h with
  | nil => exact k
  | cons r _ ih => exact .cons r ih
/-! ### keywords -/
structure KV (X : Cx) (W : WX) (kws : List Keyword) (f : DS → AOut) : Prop where
  pk : PK X kws (tA X.K W f)
section
variable {X : Cx} {W : WX} {e : Expr} {es : List Expr} {kws : List Keyword} {f : DS → Out} {g ga : DS → AOut} {nm : Option Str} {kpos pos : Pos}
theorem PK.imp' {t t' : TA} (p : PK X kws t) (h : ∀ σ H Q, t' σ H Q → t σ H Q) : PK X kws t' := ⟨fun pos pins s σ H Q I q => p.run pos pins s σ H Q I (h σ H Q q)⟩
theorem kv_nil : KV X W [] aNil := ⟨PK.imp' pk_nil fun σ H Q ⟨B, F, S, rel, p⟩ => p _ _ _ (Xt.refl σ S F H) rel .nil⟩
theorem kv_cons (a : EV X W e f) (b : KV X W kws g) : KV X W (⟨nm, e, kpos⟩ :: kws) (aCons f g) := by
  refine ⟨PK.imp' (pk_cons a.pe b.pk) fun σ H Q ⟨B, F, S, rel, p⟩ => ⟨B, F, S, rel, ?_⟩⟩
  unfold aCons at p
  cases e1 : f S with
  | stuck => rw [e1] at p; exact p
  | exc C fs S' => rw [e1] at p; exact p
  | ok r S1 =>
    rw [e1] at p
    dsimp only at p
    intro x H1 F1 x1 rel1 rv1
    refine ⟨B, F1, S1, rel1, ?_⟩
    cases e2 : g S1 with
    | stuck => rw [e2] at p; exact p
    | exc C fs S' => rw [e2] at p; exact PoEx.ext x1 p
    | ok rs S2 =>
      rw [e2] at p
      exact fun xs H2 F2 x2 rel2 rv2 => p _ _ _ (x1.trans x2) rel2 (.cons (rv1.s.ext x2.toExt) rv2)
theorem code_fnK {k : Nat} {fa : Addr} {fd : FuncData} {ps : List Str} {sp : Sp} {E : XK} {pins : List (Addr × Obj)} {σ : St} {H : Hp} {s : Shared} {Q : VK} {args : Args} {us : List Value} {vs : List V} (F : FnOk X.prog X.w X.K X.mg X.base (L2.CX X.prog X.w) k fa fd ps sp) (hr : Room k X.A)
    (hb : BindsTo s fd args (ps.zip us)) (hx : PassW X σ E) (I : Inv X pins σ H s) (r : Vals vs us) (h : sp vs H Q E) : codeAny (model X.prog X.w) X.A (.call (.ref fa) args) (fun r s' => match r with | .ok (.ret v) => EP X pins σ Q v s' | .ok _ => False | .error e => X.xe e s') s := by
  apply codeAny_mono (F.run X.A X.stack s H args us vs Q E hr I.env0 hb r h)
  intro r s' q
  match r, q with
  | .error e, q => exact hx pins H s e s' I q
  | .ok (.ret u), q => exact I.after q
  | .ok .next, q => exact q.elim
  | .ok .brk, q => exact q.elim
  | .ok .cont, q => exact q.elim
structure CMethKIn (P : Program) (w : World) (K : Fr) (mg : Str → Option Value) (base : Heap) (C : Addr) (x : Str) (ks : List Str) (k n : Nat) (m : List Sl → Fo) : Prop where
  ex : ∃ mc p fa fd ps, FnOk P w K mg base (L2.CX P w) k fa fd ps (spD K n m) ∧ KBn K fd ps 1 ks (fun us ws => us ++ ws) (fun vs zs => vs ++ zs) ∧ ps.length = 1 + ks.length ∧ ClX.CRead K C mc ∧ ClX.CMet K C mc x p fa
theorem ev_cmethK {C : Addr} {o : Expr} {k n : Nat} {m : List Sl → Fo} {ks : List Str} {x : Str} {apos : Pos} {pl : Sem Bool} (M : CMethKIn X.prog X.w X.K X.mg X.base C x ks k n m) (hr : Room k X.A) (tk : Takes X W) (a : EV X W o f) (ha : KV X W kws ga)
    (hall : (backToKw pos (keywordEach kws X.env)).all (·.1.isSome) = true := by rfl) (hks : (backToKw pos (keywordEach kws X.env)).filterMap (·.1) = ks := by rfl)
    (hpl : ((backTo pos (starEach [] X.env)).any (·.1) || (backToKw pos (keywordEach kws X.env)).any (·.1.isNone)) = false := by rfl)
    (ht : eval (.Call (.Attribute o x apos) [] kws pos) X.env = (do
      let ov ← eval o X.env
      standAt apos.atName
      let (f, first) ← holding [ov] (getMethod ov x pl)
      callWith pos f first (backTo pos (starEach [] X.env)) (backToKw pos (keywordEach kws X.env))) := by rfl) : EV X W (.Call (.Attribute o x apos) [] kws pos) (cmethD C n m f ga) := by
  obtain ⟨mc, p, fa, fd, ps, F, hb, hl, cr, cm⟩ := M.ex
  refine ⟨⟨fun pins s σ H Q I ⟨B, F0, S, rel, q⟩ => ?_⟩⟩
  obtain ⟨B1, F1, S1, rel1, p1⟩ := tE_bnd rel q
  refine PySem.W.methodCall_KW (pl := pl) (thn (a.pe.run pins s σ H _ I ⟨B1, F1, S1, rel1, p1⟩) fun u s1 ⟨x1, H1, I1, rx, F2, S2, r, x2, rel2, rv2, p2⟩ => ?_) ht
  match r, rv2, p2 with
  | .v (.cls C'), rv2, p2 =>
    dsimp only at p2
    split at p2
    · rename_i hc
      subst hc
      have ex : x1 = .ref C' := by
        have h : At X.K F2 H1 x1 (.cls C') := rv2
        cases h
        rfl
      subst ex
      obtain rfl : u = Value.ref C' := rx
      refine ClX.getmethcm_ok I1 cr cm fun s2 I2 => ?_
      refine PySem.W.callWith_of (P := PySem.W.MethP X.K s1.heap.objs.size fa (.ref C')) hpl (PySem.W.keeps_M cm.fi) (evalArgs_kw2_nil hall (thn (ha.pk.run pos _ s2 σ H1 (fun vs H3 => spD X.K n m (.ref C' :: vs) H3 Q fun cls d H2 => W cls d σ H2) I2 ⟨_, F2, S2, rel2, ?_⟩) fun us s3 ⟨vs, H2, I3, rv, q2⟩ => ⟨⟨ClX.pin_at I3, I3.kIn⟩, ?_⟩))
      · cases qa : ga S2 with
        | stuck => rw [qa] at p2; exact p2
        | exc C fs S' => rw [qa] at p2; exact p2
        | ok rs S3 =>
          rw [qa] at p2
          intro xs H3 F3 xt rel3 rv3
          exact callS_sp rel3 (.cons (show RVs X.K F3 σ H3 (V.ref C') (.v (.cls C')) from At.cls C') rv3) (Po.ext xt p2)
      · rw [hks]
        have hlen := F.len _ _ _ _ q2
        have l2 : us.length = ks.length := by
          have := rv.length
          simp only [List.length_cons] at hlen
          omega
        have hb' : BindsTo s3 fd ⟨.ref C' :: ([] ++ []), ks.zip us⟩ (ps.zip (.ref C' :: us)) := hb.to s3 [.ref C'] us I3.kIn rfl l2
        have z : wpAny (model X.prog X.w) X.A (call (.ref s1.heap.objs.size) ([] ++ []) (ks.zip us)) (EP X ((s1.heap.objs.size, PySem.W.methodObj (.ref fa) (.ref C')) :: pins) σ Q) X.xe s3 :=
          wpAny_call (PySem.W.method_call (ClX.pin_at I3) (code_fnK (us := .ref C' :: us) (vs := .ref C' :: vs) F hr hb' (passW tk) I3 (.cons rfl rv) q2))
        exact thn z fun _ _ y => ClX.unpinE y
    · exact p2.elim
end
def CMethKF (K : Fr) (C : Addr) (x qual : Str) (ks : List Str) (st : Stmt) (ps : List Str) : Prop := ∃ mc p fa fd, Fun K x qual st fa fd ∧ KBn K fd ps 1 ks (fun us ws => us ++ ws) (fun vs zs => vs ++ zs) ∧ ps.length = 1 + ks.length ∧ ClX.CRead K C mc ∧ ClX.CMet K C mc x p fa
theorem fun_kbn {K : Fr} {x qual : Str} {st : Stmt} {f : Addr} {fd : FuncData} {ps ks : List Str} (F : Fun K x qual st f fd)
    (b : ∀ (kV doc pm : Value) (an : Option Addr) (cdv ct : Value) (us ws : List Value), us.length = 1 → ws.length = ks.length → bindArgs (PySem.W.fnOf x qual (defArgs st) (defBody st) (defScope st) .none kV doc pm an cdv ct) ⟨us, ks.zip ws⟩ = pure (ps.zip (us ++ ws))) : KBn K fd ps 1 ks (fun us ws => us ++ ws) (fun vs zs => vs ++ zs) := by
  obtain ⟨oc, od, kV, doc, pm, an, cdv, ct, osl, rfl, lk, hcd⟩ := F.ex
  exact ⟨fun s us ws _ l1 l2 => .of_eq (b kV doc pm an cdv ct us ws l1 l2), fun r1 r2 => vals_app r1 r2⟩
theorem CMethKF.mk {K : Fr} {C : Addr} {mc : Value} {x qual : Str} {ks : List Str} {st : Stmt} {ps : List Str} {p f : Addr} {oc : Value} {od an : Option Addr} {osl : Array (Option Value)} {kV doc pm cdv ct : Value} {rest : List Value} (rd : PySem.W.readsIn K C mc = true) (ga : PySem.W.specialIn K (.ref C) "__getattribute__" = some (some (.builtin "type.__getattribute__")))
    (a : PySem.W.findCls K (.ref C) mc x = some (.get (.builtin "classmethod.__get__") (.ref p) .none (.ref C))) (r : PySem.W.recIn K p "classmethod" = some (.ref f :: rest)) (fi : PySem.W.fnIn K f = true)
    (l : K.lookup f = some ⟨oc, od, .func (PySem.W.fnOf x qual (defArgs st) (defBody st) (defScope st) .none kV doc pm an cdv ct), osl⟩) (c : PySem.W.codeIn K cdv qual = true) (k : PySem.W.keepIn K (.ref f) = true) (hl : ps.length = 1 + ks.length)
    (b : ∀ (kV doc pm : Value) (an : Option Addr) (cdv ct : Value) (us ws : List Value), us.length = 1 → ws.length = ks.length → bindArgs (PySem.W.fnOf x qual (defArgs st) (defBody st) (defScope st) .none kV doc pm an cdv ct) ⟨us, ks.zip ws⟩ = pure (ps.zip (us ++ ws))) : CMethKF K C x qual ks st ps :=
  ⟨mc, p, f, _, fun_mk l c k, fun_kbn (fun_mk l c k) b, hl, ⟨rd, ga⟩, ⟨a, ⟨rest, r⟩, fi⟩⟩
theorem CMethKF.cm {P : Program} {w : World} {K : Fr} {mg : Str → Option Value} {base : Heap} {C : Addr} {x qual : Str} {ks : List Str} {st : Stmt} {ps : List Str} {k n : Nat} {m : List Sl → Fo} (M : CMethKF K C x qual ks st ps) (h : ∀ f fd, Fun K x qual st f fd → FnOk P w K mg base (L2.CX P w) k f fd ps (spD K n m)) : CMethKIn P w K mg base C x ks k n m := by
  obtain ⟨mc, p, fa, fd, F, b, hl, r, a⟩ := M
  exact ⟨mc, p, fa, fd, ps, h fa fd F, b, hl, r, a⟩
end DL
namespace DL
open PySem PySem.Spec PyProof.Rows L2
variable [Nm]

/-! ### small trees: they can be shown and compared -/
structure GdP (n w : Nat) (p : PyData) : Prop where
  lay : p.canLay0 = true
  dep : p.depth ≤ n
  sho : p.showable = true
  lea : p.leavesShort 80 = true
  wei : p.weight ≤ w
def Gd (n w : Nat) (d : D) : Prop := ∃ p, d.py = some p ∧ GdP n w p
structure GdPs (n w : Nat) (ps : List PyData) : Prop where
  lay : PyData.canLayAll0 ps = true
  dep : PyData.depthAll ps ≤ n
  sho : PyData.showableAll ps = true
  lea : PyData.leavesShortAll 80 ps = true
  wei : PyData.weightAll ps ≤ ps.length * (w + 1)
theorem GdP.mono {n w n' w' : Nat} {p : PyData} (h : GdP n w p) (h1 : n ≤ n') (h2 : w ≤ w') : GdP n' w' p := ⟨h.lay, Nat.le_trans h.dep h1, h.sho, h.lea, Nat.le_trans h.wei h2⟩
theorem Gd.mono {n w n' w' : Nat} {d : D} (h : Gd n w d) (h1 : n ≤ n') (h2 : w ≤ w') : Gd n' w' d := by
  obtain ⟨p, e, g⟩ := h
  exact ⟨p, e, g.mono h1 h2⟩
theorem Gd.all {n w : Nat} : ∀ {ds : List D}, (∀ d ∈ ds, Gd n w d) → ∃ ps, D.pys ds = some ps ∧ ps.length = ds.length ∧ GdPs n w ps
  | [], _ => ⟨[], rfl, rfl, ⟨rfl, by simp [PyData.depthAll], rfl, rfl, by simp [PyData.weightAll]⟩⟩
  | d :: ds, h => by
    obtain ⟨p, e, g⟩ := h d List.mem_cons_self
    obtain ⟨ps, e2, l, gs⟩ := Gd.all (ds := ds) fun x hx => h x (List.mem_cons_of_mem _ hx)
    refine ⟨p :: ps, by simp [D.pys, e, e2], by simp [l], ⟨?_, ?_, ?_, ?_, ?_⟩⟩
    · simp only [PyData.canLayAll0, g.lay, gs.lay, Bool.and_self]
    · simp only [PyData.depthAll]
      exact Nat.max_le.mpr ⟨g.dep, gs.dep⟩
    · simp only [PyData.showableAll, g.sho, gs.sho, Bool.and_self]
    · simp only [PyData.leavesShortAll, g.lea, gs.lea, Bool.and_self]
    · simp only [PyData.weightAll, List.length_cons]
      have h1 := g.wei
      have h2 := gs.wei
      have e3 : (ps.length + 1) * (w + 1) = ps.length * (w + 1) + (w + 1) := by rw [Nat.add_mul, Nat.one_mul]
      omega
theorem Gd.lst {n w : Nat} {ds : List D} (h : ∀ d ∈ ds, Gd n w d) : Gd (n + 1) (ds.length * (w + 1)) (.lst ds) := by
  obtain ⟨ps, e, l, g⟩ := Gd.all h
  refine ⟨.list ps, by simp [D.py, e], ⟨?_, ?_, ?_, ?_, ?_⟩⟩
  · simpa only [PyData.canLay0] using g.lay
  · simp only [PyData.depth]
    have := g.dep
    omega
  · simpa only [PyData.showable] using g.sho
  · simpa only [PyData.leavesShort] using g.lea
  · simp only [PyData.weight]
    rw [← l]
    exact g.wei
theorem Gd.tup {n w : Nat} {ds : List D} (h : ∀ d ∈ ds, Gd n w d) : Gd (n + 1) (ds.length * (w + 1)) (.tup ds) := by
  obtain ⟨ps, e, l, g⟩ := Gd.all h
  refine ⟨.tuple ps, by simp [D.py, e], ⟨?_, ?_, ?_, ?_, ?_⟩⟩
  · simpa only [PyData.canLay0] using g.lay
  · simp only [PyData.depth]
    have := g.dep
    omega
  · simpa only [PyData.showable] using g.sho
  · simpa only [PyData.leavesShort] using g.lea
  · simp only [PyData.weight]
    rw [← l]
    exact g.wei
theorem Gd.bl (b : Bool) : Gd 0 0 (.bl b) := ⟨.bool b, rfl, ⟨rfl, by simp [PyData.depth], rfl, rfl, by simp [PyData.weight]⟩⟩
theorem Gd.non : Gd 0 0 .non := ⟨.none, rfl, ⟨rfl, by simp [PyData.depth], rfl, rfl, by simp [PyData.weight]⟩⟩
theorem Gd.str {x : Str} {w : Nat} (h : PyData.strOk x = true) (l : x.length ≤ w) : Gd 0 w (.str x) := by
  have c0 : (PyData.str x).canLay0 = true := by simpa only [PyData.canLay0] using h
  refine ⟨.str x, rfl, ⟨c0, by simp [PyData.depth], rfl, PyData.leavesShort_of_canLay0 80 _ c0 rfl, ?_⟩⟩
  rw [PyData.weight]
  exact l
theorem Gd.int {i : Int} (h : i.natAbs < 10 ^ 79) : Gd 0 264 (.int i) := by
  have e : (PyData.shown (.int i)).length ≤ 80 := by
    have e := int_text_length_le10 (k := 79) (by decide) h
    show (Str.ofString (toString i)).length ≤ 80
    rw [PySem.ofString_length]
    exact e
  have b : i.natAbs < 2 ^ 263 := Nat.lt_of_lt_of_le h (by decide +kernel)
  have l : i.natAbs ≠ 0 → i.natAbs.log2 < 263 := fun z => (Nat.log2_lt z).mpr b
  refine ⟨.int i, rfl, ⟨rfl, by simp [PyData.depth], ?_, ?_, ?_⟩⟩
  · simp only [PyData.showable]
    apply decide_eq_true
    by_cases z : i.natAbs = 0
    · rw [z]
      decide +kernel
    · exact Nat.lt_trans (l z) (by decide)
  · simp only [PyData.leavesShort]
    exact decide_eq_true e
  · simp only [PyData.weight]
    split
    · omega
    · rename_i z
      have z' : i.natAbs ≠ 0 := by
        intro q
        apply z
        simp at q ⊢
        exact q
      have := l z'
      omega
theorem Gd.nat {n : Nat} (h : n < 10 ^ 79) : Gd 0 264 (.int (n : Int)) := Gd.int (by simpa using h)
theorem Gd.repr {n w : Nat} {d : D} (h : Gd n w d) (hn : n ≤ 60 := by omega) (hw : w ≤ 100000 := by omega) : ∃ t, reprC [d] = some (.v (.str t)) := by
  obtain ⟨p, e, g⟩ := h
  have a3 : p.depth ≤ 60 := Nat.le_trans g.dep hn
  have a4 : p.shown.length ≤ sizeLine := by
    have h1 := PyData.shown_le 80 (by omega) _ g.lea
    have h2 := g.wei
    rw [sizeLine_eq]
    omega
  exact ⟨p.shown, by simp only [reprC, e, g.sho, PyData.hasDict_of_canLay p g.lay, a3, a4, and_self, if_true]⟩
theorem Gd.eqs {n w : Nat} {d : D} (h : Gd n w d) (ng : Bool) (hn : n ≤ 60 := by omega) : eqD ng d d = some (.v (.bl !ng)) := by
  obtain ⟨p, e, g⟩ := h
  have s : SeqAt.shaped p = true := by
    unfold SeqAt.shaped
    rw [g.lay, decide_eq_true (Nat.le_trans (Nat.le_trans g.dep hn) (by omega : 60 ≤ 64))]
    rfl
  have q : PyData.eqv p p = true := SeqAt.eqv_refl p g.lay
  have gen : eqP ng d d = some (.v (.bl !ng)) := by
    simp only [eqP, e, s, q, and_self, if_true]
    cases ng <;> rfl
  cases d with
  | str x => cases ng <;> simp [eqD]
  | _ => exact gen
end DL
namespace DL
open PySem PySem.Spec PyProof.Rows L2
variable [Nm]

/-! ### more operations -/
section
variable {X : Cx} {W : WX} {e e1 e2 : Expr} {es : List Expr} {f g : DS → Out} {ga : DS → AOut} {p pos : Pos}
def isNon : D → Bool
  | .non => true
  | _ => false
def isND (ng : Bool) : D → D → Option R
  | a, .non => some (.v (.bl (xor ng (isNon a))))
  | _, _ => none
theorem At.nonK {K : Fr} {F : Addr → Prop} {H : Hp} {x : V} {d : D} (h : At K F H x d) (z : x = .non) : d = .non := by
  subst z
  cases h
  rfl
theorem Rds.nonB {K : Fr} {F : Addr → Prop} {H : Hp} {x : V} {d : D} (h : Rds K F H x d) : decide (x = .non) = isNon d := by
  by_cases z : d = .non
  · subst z
    rw [h.non]
    simp [isNon]
  · have n : isNon d = false := by
      cases d <;> first | rfl | exact absurd rfl z
    rw [n]
    apply decide_eq_false
    intro q
    rcases h with h | ⟨a, ha, _⟩
    · exact z (h.nonK q)
    · rw [ha] at q
      cases q
abbrev rIsN (ng : Bool) : R2 := fun x y H Q => y = .non ∧ Q (.bl (xor ng (decide (x = .non)))) H
theorem isND_ok {K : Fr} {ng : Bool} : OpD K (rIsN ng) (isND ng) := by
  intro B F S σ H x y a b rr Q rel hx hy e p
  unfold isND at e
  split at e
  · cases e
    exact ⟨hy.non, by rw [hx.nonB]; exact p.val rel (.bl _)⟩
  · cases e
theorem op_isF : OpR X (compareOp .Is) (rIsN false) := by
  intro pins s σ H x y u v Q I r1 r2 h
  exact op_isN pins s σ H x y u v Q I r1 r2 ⟨h.1, by simpa using h.2⟩
theorem op_isT : OpR X (compareOp .IsNot) (rIsN true) := by
  intro pins s σ H x y u v Q I r1 r2 h
  exact op_notN pins s σ H x y u v Q I r1 r2 ⟨h.1, by simpa using h.2⟩
theorem ev_is (a : EV X W e1 f) (b : EV X W e2 g) (hm : behindInMarks .Is e2 = false := by rfl) : EV X W (.Compare e1 [.Is] [e2] pos) (bin (isND false) f g) := ev_cmp op_isF isND_ok a b hm
theorem ev_isnot (a : EV X W e1 f) (b : EV X W e2 g) (hm : behindInMarks .IsNot e2 = false := by rfl) : EV X W (.Compare e1 [.IsNot] [e2] pos) (bin (isND true) f g) := ev_cmp op_isT isND_ok a b hm
theorem tv_is (a : EV X W e1 f) (b : EV X W e2 g) (hm : behindInMarks .Is e2 = false := by rfl) : TV X W (.Compare e1 [.Is] [e2] pos) (bin (isND false) f g) := tv_cmp op_isF isND_ok a b hm
theorem tv_isnot (a : EV X W e1 f) (b : EV X W e2 g) (hm : behindInMarks .IsNot e2 = false := by rfl) : TV X W (.Compare e1 [.IsNot] [e2] pos) (bin (isND true) f g) := tv_cmp op_isT isND_ok a b hm
/-- bits -/
def shlD : D → D → Option R
  | .int i, .int j => if 0 ≤ j ∧ j ≤ 1000000 ∧ i.natAbs < 2 ^ 64 then some (.v (.int (i * 2 ^ j.toNat))) else none
  | _, _ => none
theorem ev_shl (a : EV X W e1 f) (b : EV X W e2 g) : EV X W (.BinOp e1 .LShift e2 pos) (bin shlD f g) := ev_bin op_shl (intD fun a b rr e => by
  unfold shlD at e
  split at e
  · split at e
    · rename_i hc
      cases e; exact ⟨_, _, _, rfl, rfl, hc, rfl, fun _ _ => .int _⟩
    · cases e
  · cases e) a b
def shrD : D → D → Option R
  | .int i, .int j => if 0 ≤ j then some (.v (.int (i / 2 ^ j.toNat))) else none
  | _, _ => none
theorem ev_shr (a : EV X W e1 f) (b : EV X W e2 g) : EV X W (.BinOp e1 .RShift e2 pos) (bin shrD f g) := ev_bin op_shr (intD fun a b rr e => by
  unfold shrD at e
  split at e
  · split at e
    · rename_i hc
      cases e; exact ⟨_, _, _, rfl, rfl, hc, rfl, fun _ _ => .int _⟩
    · cases e
  · cases e) a b
def andI : D → D → Option R
  | .int i, .int j => some (.v (.int (Builtin.bitAnd i j)))
  | _, _ => none
theorem ev_band (a : EV X W e1 f) (b : EV X W e2 g) : EV X W (.BinOp e1 .BitAnd e2 pos) (bin andI f g) := ev_bin op_and (intD0 fun a b rr e => by
  unfold andI at e
  split at e
  · cases e; exact ⟨_, _, _, rfl, rfl, rfl, fun _ _ => .int _⟩
  · cases e) a b
/-- divmod, wide -/
def divW : List D → Option R
  | [.int i, .int j] => if 0 < j ∧ j.natAbs.log2 < 9000 then some (.v (.tup [.int (i / j), .int (i % j)])) else none
  | _ => none
theorem divW_ok : CaD X.K (fun xs H Q => ∃ i j, xs = [.int i, .int j] ∧ CDivP i j ∧ ∀ p, H p = none → Q (.ref p) (upd H p (.tup [.int (i / j), .int (i % j)]))) divW := by
  intro B F S σ H xs ds rr Q rel hx e p
  unfold divW at e
  split at e
  · split at e
    · rename_i hl
      cases e
      obtain ⟨x, y, rfl, h, h2⟩ := hx.two
      exact ⟨_, _, by rw [h.int, h2.int], ⟨hl.1, PyProof.noPylong_of_log2 hl.2⟩, fun q hq => p.tuple rel (.cons (.int _) (.cons (.int _) .nil)) hq⟩
    · cases e
  · cases e
theorem ev_divW (hg : Gl X "divmod") (hm : X.mg "divmod" = none) (a : AV X W [e1, e2] ga) (he : starEach [e1, e2] X.env = (false, eval e1 X.env) :: starEach [e2] X.env := by rfl) (hpl : (backTo pos (starEach [e2] X.env)).any (·.1) = false := by rfl) :
    EV X W (.Call (.Name "divmod" p) [e1, e2] [] pos) (liftL divW ga) := ev_cb call_divmodW divW_ok hg hm (by decide +kernel) a (by decide) (by decide) he hpl
/-- the least, the greatest, the sum of a list of ints -/
def minL : Int → List Int → Int
  | m, [] => m
  | m, n :: ns => minL (if n < m then n else m) ns
def maxL : Int → List Int → Int
  | m, [] => m
  | m, n :: ns => maxL (if m < n then n else m) ns
theorem minL_spec : ∀ (ns : List Int) (m : Int), minL m ns ∈ m :: ns ∧ ∀ y ∈ m :: ns, minL m ns ≤ y
  | [], m => by simp [minL]
  | n :: ns, m => by
    obtain ⟨h1, h2⟩ := minL_spec ns (if n < m then n else m)
    rw [minL]
    refine ⟨?_, fun y hy => ?_⟩
    · rcases List.mem_cons.mp h1 with h1 | h1
      · rw [h1]
        split <;> simp
      · simp [h1]
    · have a := h2 _ List.mem_cons_self
      rcases List.mem_cons.mp hy with z | hy
      · revert a
        generalize minL (if n < m then n else m) ns = t
        intro a
        split at a <;> omega
      · rcases List.mem_cons.mp hy with z | hy
        · revert a
          generalize minL (if n < m then n else m) ns = t
          intro a
          split at a <;> omega
        · exact h2 y (List.mem_cons_of_mem _ hy)
theorem maxL_spec : ∀ (ns : List Int) (m : Int), maxL m ns ∈ m :: ns ∧ ∀ y ∈ m :: ns, y ≤ maxL m ns
  | [], m => by simp [maxL]
  | n :: ns, m => by
    obtain ⟨h1, h2⟩ := maxL_spec ns (if m < n then n else m)
    rw [maxL]
    refine ⟨?_, fun y hy => ?_⟩
    · rcases List.mem_cons.mp h1 with h1 | h1
      · rw [h1]
        split <;> simp
      · simp [h1]
    · have a := h2 _ List.mem_cons_self
      rcases List.mem_cons.mp hy with z | hy
      · revert a
        generalize maxL (if m < n then n else m) ns = t
        intro a
        split at a <;> omega
      · rcases List.mem_cons.mp hy with z | hy
        · revert a
          generalize maxL (if m < n then n else m) ns = t
          intro a
          split at a <;> omega
        · exact h2 y (List.mem_cons_of_mem _ hy)
def minC : List D → Option R
  | [.lst ds] => match iLs ds with
    | some (n :: ns) => some (.v (.int (minL n ns)))
    | _ => none
  | _ => none
def maxC : List D → Option R
  | [.lst ds] => match iLs ds with
    | some (n :: ns) => some (.v (.int (maxL n ns)))
    | _ => none
  | _ => none
theorem minC_ok : CaD X.K (L2.rMin X.K) minC := by
  intro B F S σ H xs ds rr Q rel hx e p
  unfold minC at e
  split at e
  · split at e
    · rename_i n ns hb
      cases e
      obtain ⟨x, rfl, h⟩ := hx.one
      obtain ⟨a, vs, rfl, h1, t⟩ := h.lst
      refine ⟨_, n :: ns, rfl, by rw [← t.toI hb]; exact .inl (.inl h1), by simp, fun m hm hl => ?_⟩
      obtain ⟨k1, k2⟩ := minL_spec ns n
      have e : m = minL n ns := Int.le_antisymm (hl _ k1) (k2 _ hm)
      rw [e]
      exact p.val rel (.int _)
    · cases e
  · cases e
theorem maxC_ok : CaD X.K (L2.rMax X.K) maxC := by
  intro B F S σ H xs ds rr Q rel hx e p
  unfold maxC at e
  split at e
  · split at e
    · rename_i n ns hb
      cases e
      obtain ⟨x, rfl, h⟩ := hx.one
      obtain ⟨a, vs, rfl, h1, t⟩ := h.lst
      refine ⟨_, n :: ns, rfl, by rw [← t.toI hb]; exact .inl (.inl h1), by simp, fun m hm hl => ?_⟩
      obtain ⟨k1, k2⟩ := maxL_spec ns n
      have e : m = maxL n ns := Int.le_antisymm (k2 _ hm) (hl _ k1)
      rw [e]
      exact p.val rel (.int _)
    · cases e
  · cases e
theorem ev_min1 (hc : X.calm = true) (hg : Gl X "min") (hm : X.mg "min" = none) (a : AV X W [e] ga) (he : starEach [e] X.env = (false, eval e X.env) :: starEach [] X.env := by rfl) : EV X W (.Call (.Name "min" p) [e] [] pos) (liftL minC ga) :=
  ev_cb (cr_min hc) minC_ok hg hm (by decide +kernel) a (by decide) (by decide) he (by rfl)
theorem ev_max1 (hc : X.calm = true) (hg : Gl X "max") (hm : X.mg "max" = none) (a : AV X W [e] ga) (he : starEach [e] X.env = (false, eval e X.env) :: starEach [] X.env := by rfl) : EV X W (.Call (.Name "max" p) [e] [] pos) (liftL maxC ga) :=
  ev_cb (cr_max hc) maxC_ok hg hm (by decide +kernel) a (by decide) (by decide) he (by rfl)
/-- list(range(a, b)) -/
def rngC (f g : DS → Out) : DS → Out := bnd f fun ra => bnd g fun rb S => match ra, rb with
  | .v (.int i), .v (.int j) => if -(2 ^ 62) ≤ i ∧ i < 2 ^ 62 ∧ -(2 ^ 62) ≤ j ∧ j < 2 ^ 62 ∧ (j - i).toNat ≤ 2 ^ 24 then .ok (.ow (.lst (rng i (j - i).toNat))) S else .stuck
  | _, _ => .stuck
theorem rgV_D {K : Fr} {F : Addr → Prop} {H : Hp} (i j : Int) : Ats K F H (rgV i j) (rng i (j - i).toNat) := by
  unfold rgV rng
  generalize (List.range (j - i).toNat) = l
  induction l with
  | nil => exact .nil
  | cons x l ih => exact .cons (.int _) ih
theorem ev_listRg {p2 pos2 : Pos} (hc : X.calm = true) (hl : Gl X "list") (hml : X.mg "list" = none) (hg : Gl X "range") (hm : X.mg "range" = none) (a : EV X W e1 f) (b : EV X W e2 g)
    (na : starEach [e1, e2] X.env = (false, eval e1 X.env) :: starEach [e2] X.env := by rfl) (nb : starEach [e2] X.env = (false, eval e2 X.env) :: starEach [] X.env := by rfl) (hp : (backTo pos2 (starEach [e2] X.env)).any (·.1) = false := by rfl)
    (n0 : starEach [.Call (.Name "range" p2) [e1, e2] [] pos2] X.env = (false, eval (.Call (.Name "range" p2) [e1, e2] [] pos2) X.env) :: starEach [] X.env := by rfl) :
    EV X W (.Call (.Name "list" p) [.Call (.Name "range" p2) [e1, e2] [] pos2] [] pos) (rngC f g) := by
  refine ⟨PE.imp (pe_listRg hc hl hml (prg_2 hg hm a.pe b.pe na nb hp) n0) fun σ H Q ⟨B, F, S, rel, p⟩ => ?_⟩
  obtain ⟨B1, F1, S1, rel1, p1⟩ := tE_bnd rel p
  refine ⟨B1, F1, S1, rel1, Po.imp ?_ p1⟩
  rintro x H1 ⟨F2, S2, ra, x2, rel2, rv2, p2⟩
  obtain ⟨B3, F3, S3, rel3, p3⟩ := tE_bnd rel2 p2
  refine ⟨B3, F3, S3, rel3, Po.imp ?_ p3⟩
  rintro y H2 ⟨F4, S4, rb, x4, rel4, rv4, p4⟩
  dsimp only at p4
  split at p4
  · rename_i i j
    split at p4
    · rename_i hb
      have hi : x = .int i := At.intI (show At X.K F2 H1 x (.int i) from rv2)
      have hj : y = .int j := At.intI (show At X.K F4 H2 y (.int j) from rv4)
      refine ⟨i, j, hi, hj, hb, fun q hq => ?_⟩
      have p5 : PoOk X.K B S4 F4 H2 σ Q (.ow (.lst (rng i (j - i).toNat))) S4 := p4
      exact p5.list rel4 (rgV_D i j) hq
    · exact p4.elim
  · exact p4.elim
/-- the place of a text in a tuple of texts -/
def tixD : D → List D → Option R
  | .tup ds, [.str z] => match sLs ds with
    | some ss => if z ∈ ss then some (.v (.int (ss.idxOf z : Int))) else none
    | none => none
  | _, _ => none
theorem tixD_ok {K : Fr} : MeD K (fun x xs H Q => ∃ p, ∃ ys : List Str, ∃ z j, x = .ref p ∧ xs = [.str z] ∧ SqT K H p (ys.map V.str) ∧ ys[j]? = some z ∧ (∀ m, m < j → ys[m]? ≠ some z) ∧ Q (.int (j : Nat)) H) tixD := by
  intro B F S σ H x xs a ds rr Q rel hx hxs e p
  unfold tixD at e
  split at e
  · rename_i es z
    split at e
    · rename_i ss hb
      split at e
      · rename_i hz
        cases e
        obtain ⟨b, vs, rfl, h1, t⟩ := hx.tup
        match hxs with
        | .cons h2 .nil =>
          refine ⟨b, ss, z, ss.idxOf z, rfl, by rw [h2.str], by rw [← t.toS hb]; exact h1, ?_, fun m hm q => ?_, p.val rel (.int _)⟩
          · have l : ss.idxOf z < ss.length := List.idxOf_lt_length_iff.mpr hz
            rw [List.getElem?_eq_getElem l, List.getElem_idxOf l]
          · have l : ss.idxOf z < ss.length := List.idxOf_lt_length_iff.mpr hz
            have lm : m < ss.length := by omega
            rw [List.getElem?_eq_getElem lm] at q
            have e1 : ss[m] = z := Option.some.inj q
            have := List.not_of_lt_findIdx (xs := ss) (p := fun y => y == z) (i := m) hm
            simp [e1] at this
      · cases e
    · cases e
  · cases e
theorem ev_tix {o : Expr} {apos cpos : Pos} (ho : EV X W o f) (ha : AV X W (e :: es) ga) (hbase : attributeBase o "index" X.env (eval o X.env) = eval o X.env := by rfl)
    (few : ((backTo cpos (starEach (e :: es) X.env)).all (fun z => !z.1) && (backToKw cpos (keywordEach [] X.env)).all (fun z => z.1.isSome) && decide ((e :: es).length + ([] : List Keyword).length + (if ([] : List Keyword).isEmpty then 0 else 1) < 30)) = true := by rfl) (hline : (apos.endLine == cpos.line) = true := by rfl) (hs : starEach (e :: es) X.env = (false, eval e X.env) :: starEach es X.env := by rfl) (hplain : (backTo cpos (starEach es X.env)).any (·.1) = false := by rfl) :
    EV X W (.Call (.Attribute o "index" apos) (e :: es) [] cpos) (bmD "tuple" tixD f ga) := ev_bm PySem.F.plainAttrs_tuple PySem.F.slot_tuple_index PySem.F.type_tuple_index mt_tup_index tixD_ok ho ha hbase few hline hs hplain
end
end DL
namespace DL
open PySem PySem.Spec PyProof.Rows L2
variable [Nm]

section
variable {X : Cx} {W : WX} {e e1 e2 : Expr} {es : List Expr} {f g h fi fv : DS → Out} {ga : DS → AOut} {p pos : Pos}
/-! ### a, b = x, y where the last one may be a new object -/
def parO (i j : Nat) (f g : DS → Out) : DS → Fl := fun S => match f S with
  | .ok (.v d) S1 => (match g S1 with
    | .ok r S2 => (match nameG i d S2 with
      | .nx S3 => putN j r S3
      | _ => .stuck)
    | .exc C fs S' => .exc C fs S'
    | .stuck => .stuck)
  | .exc C fs S' => .exc C fs S'
  | _ => .stuck
theorem RV.setFr {K : Fr} {B : Bs} {G : Hp} {F : Addr → Prop} {S : DS} {σ : St} {H : Hp} {x y : V} {i : Nat} {d : D} {r : R} (nb : ∀ j, r ≠ .bw j) (v : RV K B G F S σ H y r) : RV K B G F (S.set i (.fr d)) (σ.set i (some x)) H y r := by
  cases r with
  | v e => exact v
  | bw j => exact absurd rfl (nb j)
  | ow e =>
    obtain ⟨a, h1, h2, h3, h4, h5, h6⟩ := v
    refine ⟨a, h1, h2, h3, h4, h5, fun k q t hk z => ?_⟩
    by_cases e : i = k
    · subst e
      rw [List.getElem?_set] at hk
      simp only [if_true] at hk
      split at hk <;> cases hk
    · rw [List.getElem?_set_ne e] at hk z
      exact h6 k q t hk z
theorem sv_parO {i j : Nat} {x y : Str} {a b : Expr} {px py pt : Pos} {kt k2 pt2} (hc : X.calm = true) (hN : X.N.Nodup) (hi : X.N[i]? = some x) (hj : X.N[j]? = some y) (hij : i ≠ j)
    (hx : X.env.scope.names.lookup x = some .local) (hy : X.env.scope.names.lookup y = some .local) (ha : EV X W a f) (hb : EV X W b g)
    (s1 : starEach [a, b] X.env = (false, eval a X.env) :: starEach [b] X.env := by rfl) (s2 : starEach [b] X.env = (false, eval b X.env) :: starEach [] X.env := by rfl)
    (hw : swappedStores [.Tuple [.Name x px, .Name y py] kt pt] (.Tuple [a, b] k2 pt2) X.env = pure (some [x, y]) := by rfl)
    (hs : swapsWithSole [.Tuple [.Name x px, .Name y py] kt pt] (.Tuple [a, b] k2 pt2) pos.line X.env = pure false := by rfl) :
    SV X W (.Assign [.Tuple [.Name x px, .Name y py] kt pt] (.Tuple [a, b] k2 pt2) pos) (parO i j f g) := by
  refine ⟨PS.imp (ps_par hc hN hi hj hij hx hy (pa_cons ha.pe (pa_cons hb.pe pa_nil s2) s1) hw hs) fun E σ H ⟨B, F, S, rel, p⟩ => ⟨B, F, S, rel, ?_⟩⟩
  unfold parO at p
  cases q : f S with
  | exc C fs S' => rw [q] at p; exact PoS.ex p
  | stuck => rw [q] at p; exact p
  | ok r S1 =>
    rw [q] at p
    cases r with
    | ow d => exact p.elim
    | bw d => exact p.elim
    | v d =>
      dsimp only at p
      intro x1 H1 F1 xt1 rel1 rv1
      refine ⟨B, F1, S1, rel1, ?_⟩
      cases q2 : g S1 with
      | exc C fs S' => rw [q2] at p; exact PoEx.ext xt1 (PoS.ex (S := S) p)
      | stuck => rw [q2] at p; exact p
      | ok r2 S2 =>
        rw [q2] at p
        dsimp only at p
        intro y1 H2 F2 xt2 rel2 rv2
        refine ⟨_, _, rfl, ?_⟩
        unfold nameG at p
        by_cases f1 : freeSl S2 i = true
        · rw [if_pos f1] at p
          dsimp only at p
          have at1 : At X.K F1 H1 x1 d := rv1
          have r3 := rel2.setV (s := .fr d) f1 (show NewAt X.K B F2 S2 σ H2 x1 (.fr d) from at1.ext xt2.toExt)
          have nb : ∀ k, r2 ≠ .bw k := by
            rintro k rfl
            unfold putN at p
            split at p <;> exact p
          exact putN_ok p (xt1.toExt.trans xt2.toExt) r3 (rv2.setFr nb) fun _ => rel1.h0
        · rw [if_neg f1] at p
          exact p.elim
def parO3 (i j l : Nat) (f g h : DS → Out) : DS → Fl := fun S => match f S with
  | .ok (.v d) S1 => (match g S1 with
    | .ok (.v d2) S2 => (match h S2 with
      | .ok r S3 => (match nameG i d S3 with
        | .nx S4 => (match nameG j d2 S4 with
          | .nx S5 => putN l r S5
          | _ => .stuck)
        | _ => .stuck)
      | .exc C fs S' => .exc C fs S'
      | .stuck => .stuck)
    | .exc C fs S' => .exc C fs S'
    | _ => .stuck)
  | .exc C fs S' => .exc C fs S'
  | _ => .stuck
theorem sv_parO3 {i j l : Nat} {x y z : Str} {a b c : Expr} {px py pz pt : Pos} {kt k2 pt2} (hc : X.calm = true) (hN : X.N.Nodup) (hi : X.N[i]? = some x) (hj : X.N[j]? = some y) (hl : X.N[l]? = some z) (hij : i ≠ j) (hil : i ≠ l) (hjl : j ≠ l)
    (hx : X.env.scope.names.lookup x = some .local) (hy : X.env.scope.names.lookup y = some .local) (hz : X.env.scope.names.lookup z = some .local) (ha : EV X W a f) (hb : EV X W b g) (hd : EV X W c h)
    (s1 : starEach [a, b, c] X.env = (false, eval a X.env) :: starEach [b, c] X.env := by rfl) (s2 : starEach [b, c] X.env = (false, eval b X.env) :: starEach [c] X.env := by rfl) (s3 : starEach [c] X.env = (false, eval c X.env) :: starEach [] X.env := by rfl)
    (hw : swappedStores [.Tuple [.Name x px, .Name y py, .Name z pz] kt pt] (.Tuple [a, b, c] k2 pt2) X.env = pure (some [x, y, z]) := by rfl)
    (hs : swapsWithSole [.Tuple [.Name x px, .Name y py, .Name z pz] kt pt] (.Tuple [a, b, c] k2 pt2) pos.line X.env = pure false := by rfl) :
    SV X W (.Assign [.Tuple [.Name x px, .Name y py, .Name z pz] kt pt] (.Tuple [a, b, c] k2 pt2) pos) (parO3 i j l f g h) := by
  refine ⟨PS.imp (ps_par3 hc hN hi hj hl hij hil hjl hx hy hz (pa_cons ha.pe (pa_cons hb.pe (pa_cons hd.pe pa_nil s3) s2) s1) hw hs) fun E σ H ⟨B, F, S, rel, p⟩ => ⟨B, F, S, rel, ?_⟩⟩
  unfold parO3 at p
  cases q : f S with
  | exc C fs S' => rw [q] at p; exact PoS.ex p
  | stuck => rw [q] at p; exact p
  | ok r S1 =>
    rw [q] at p
    cases r with
    | ow d => exact p.elim
    | bw d => exact p.elim
    | v d =>
      dsimp only at p
      intro x1 H1 F1 xt1 rel1 rv1
      refine ⟨B, F1, S1, rel1, ?_⟩
      cases q2 : g S1 with
      | exc C fs S' => rw [q2] at p; exact PoEx.ext xt1 (PoS.ex (S := S) p)
      | stuck => rw [q2] at p; exact p
      | ok r2 S2 =>
        rw [q2] at p
        cases r2 with
        | ow d => exact p.elim
        | bw d => exact p.elim
        | v d2 =>
          dsimp only at p
          intro y1 H2 F2 xt2 rel2 rv2
          refine ⟨B, F2, S2, rel2, ?_⟩
          cases q3 : h S2 with
          | exc C fs S' => rw [q3] at p; exact PoEx.ext (xt1.trans xt2) (PoS.ex (S := S) p)
          | stuck => rw [q3] at p; exact p
          | ok r3 S3 =>
            rw [q3] at p
            dsimp only at p
            intro z1 H3 F3 xt3 rel3 rv3
            refine ⟨_, _, _, rfl, ?_⟩
            unfold nameG at p
            by_cases f1 : freeSl S3 i = true
            · rw [if_pos f1] at p
              dsimp only at p
              by_cases f2 : freeSl (S3.set i (.fr d)) j = true
              · rw [if_pos f2] at p
                dsimp only at p
                have at1 : At X.K F1 H1 x1 d := rv1
                have at2 : At X.K F2 H2 y1 d2 := rv2
                have r3' := rel3.setV (s := .fr d) f1 (show NewAt X.K B F3 S3 σ H3 x1 (.fr d) from (at1.ext xt2.toExt).ext xt3.toExt)
                have r4 := r3'.setV (s := .fr d2) f2 (show NewAt X.K B F3 _ _ H3 y1 (.fr d2) from at2.ext xt3.toExt)
                have nb : ∀ k, r3 ≠ .bw k := by
                  rintro k rfl
                  unfold putN at p
                  split at p <;> exact p
                exact putN_ok p ((xt1.toExt.trans xt2.toExt).trans xt3.toExt) r4 ((rv3.setFr nb).setFr nb) fun _ => rel2.h0
              · rw [if_neg f2] at p
                exact p.elim
            · rw [if_neg f1] at p
              exact p.elim
/-! ### x[k] += n, x in the own slot i -/
def rGetI : V → V → Hp → VK → Prop := fun o i H Q => ∃ p xs k v, o = .ref p ∧ i = .int k ∧ H p = some (.lst xs) ∧ 0 ≤ k ∧ xs[k.toNat]? = some v ∧ Q v H
theorem get_listI : PGet X rGetI := by
  intro pins s σ H o i ov iv Q I ro ri h
  obtain ⟨p, xs, k, v, rfl, rfl, hp, h0, hx, q⟩ := h
  cases ro
  obtain ⟨t, rfl⟩ := ri
  obtain ⟨its, r, pl, hz⟩ := I.list (.inl (.inl hp))
  obtain ⟨w, ew, rw'⟩ := r.get hx
  have l : k.toNat < xs.length := by
    rcases Nat.lt_or_ge k.toNat xs.length with l | l
    · exact l
    · rw [List.getElem?_eq_none l] at hx
      cases hx
  exact wpAny_getItem_list pl.isList h0 (by have := line63; omega) (by simpa using ew) ⟨v, H, I, rw', q⟩
def augS (i : Nat) (fi fv : DS → Out) : DS → Fl := fun S => if isLst S i then (match fi S with
  | .ok (.v (.int k)) S1 => (match S1[i]? with
    | some (.ow _ (.lst ds)) => (match ds[k.toNat]? with
      | some (.int m) => if 0 ≤ k then (match fv S1 with
        | .ok (.v (.int n)) S2 => (match S2[i]? with
          | some (.ow p (.lst ds2)) => (match ixN ds2.length k with
            | some j => .nx (S2.set i (.ow p (.lst (ds2.set j (.int (m + n))))))
            | none => .stuck)
          | _ => .stuck)
        | .exc C fs S' => .exc C fs S'
        | _ => .stuck) else .stuck
      | _ => .stuck)
    | _ => .stuck)
  | .exc C fs S' => .exc C fs S'
  | _ => .stuck) else .stuck
theorem sv_aug (i : Nat) {x : Str} {px tpos : Pos} (hv : PE X (.Name x px) (tVar i)) (a : EV X W e fi) (b : EV X W e1 fv)
    (hst : ∀ ov iv new, augStore e ov iv new = (do holding [new, ov, iv] (setItem ov iv new); release [new, ov, iv] []; pure .next) := by intros; rfl) : SV X W (.AugAssign (.Subscript (.Name x px) e tpos) .Add e1 pos) (augS i fi fv) := by
  refine ⟨PS.imp (ps_augS hv a.pe get_listI b.pe ip_add set_list hst) fun E σ H ⟨B, F, S, rel, p⟩ => ?_⟩
  unfold augS at p
  by_cases gl : isLst S i = true
  · rw [if_pos gl] at p
    obtain ⟨q0, ds0, hS0⟩ := isLst_ok gl
    obtain ⟨ad, g1, _, _⟩ := rel.ownAt hS0
    refine ⟨_, g1, B, F, S, rel, ?_⟩
    cases q : fi S with
    | stuck => rw [q] at p; exact p.elim
    | exc C fs S' => rw [q] at p; exact PoS.ex p
    | ok r S1 =>
      rw [q] at p
      intro y H1 F1 xt rel1 aty
      split at p
      · rename_i k S1' ek
        cases ek
        split at p
        · rename_i pb ds hS
          split at p
          · rename_i m hm
            split at p
            · rename_i h0
              obtain ⟨b1, h1, g2, ws, g3, g4⟩ := rel1.ownAt hS
              rw [g1] at h1
              cases h1
              obtain ⟨vm, hvm, atm⟩ := g4.get' hm
              refine ⟨ad, ws, k, vm, rfl, At.intI aty, g3, h0, hvm, B, F1, S1, rel1, ?_⟩
              cases q2 : fv S1 with
              | stuck => rw [q2] at p; exact p.elim
              | exc C fs S' => rw [q2] at p; exact PoEx.ext xt (PoS.ex (S := S) p)
              | ok r2 S2 =>
                rw [q2] at p
                intro y2 H2 F2 xt2 rel2 aty2
                split at p
                · rename_i n S2' en
                  cases en
                  split at p
                  · rename_i p2 ds2 hS2
                    split at p
                    · rename_i j hj
                      obtain ⟨b2, h3, g5, ws2, g6, g7⟩ := rel2.ownAt hS2
                      rw [g1] at h3
                      cases h3
                      refine ⟨m, n, At.intI atm, At.intI aty2, ad, ws2, k, j, rfl, At.intI aty, g6, by rw [g7.length]; exact hj, ?_⟩
                      obtain ⟨x2, rel3⟩ := rel2.mut hS2 g1 (o := .lst (ws2.set j (.int (m + n)))) (d' := .lst (ds2.set j (.int (m + n)))) fun F3 H3 x3 hh => ⟨_, hh, (g7.ext x3).set j (.int _)⟩
                      exact p _ _ _ ((xt.toExt.trans xt2.toExt).trans x2) rel3
                    · exact p.elim
                  · exact p.elim
                · rename_i en
                  cases en
                · exact p.elim
            · exact p.elim
          · exact p.elim
        · exact p.elim
      · rename_i ek
        cases ek
      · exact p.elim
  · rw [if_neg gl] at p
    exact p.elim
/-! ### f(k = v, ..) -/
def permL {α : Type} (is : List Nat) (xs : List α) : List α := is.filterMap fun i => xs[i]?
theorem permL_vals {zs : List V} {ws : List Value} (h : Vals zs ws) : ∀ is : List Nat, Vals (permL is zs) (permL is ws)
  | [] => .nil
  | i :: is => by
    have ih := permL_vals h is
    unfold permL at ih ⊢
    rw [List.filterMap_cons, List.filterMap_cons]
    cases e : zs[i]? with
    | none =>
      have l : zs.length ≤ i := List.getElem?_eq_none_iff.mp e
      have : ws[i]? = none := List.getElem?_eq_none_iff.mpr (by rw [← h.length]; exact l)
      rw [this]
      exact ih
    | some x =>
      obtain ⟨u, hu, r⟩ := h.get e
      rw [hu]
      exact .cons r ih
theorem RVsL.length {K : Fr} {F : Addr → Prop} {σ : St} {H : Hp} : ∀ {xs : List V} {rs : List R}, RVsL K F σ H xs rs → xs.length = rs.length
  | _, _, .nil => rfl
  | _, _, .cons _ t => congrArg Nat.succ (RVsL.length t)
theorem RVsL.at {K : Fr} {F : Addr → Prop} {σ : St} {H : Hp} : ∀ {xs : List V} {rs : List R} {i : Nat} {x : V}, RVsL K F σ H xs rs → xs[i]? = some x → ∃ r, rs[i]? = some r ∧ RVs K F σ H x r
  | _, _, i, x, .nil, e => by simp at e
  | _, _, i, x, .cons h t, e => by
    cases i with
    | zero =>
      simp only [List.getElem?_cons_zero, Option.some.injEq] at e
      subst e
      exact ⟨_, rfl, h⟩
    | succ i => simpa using RVsL.at t (by simpa using e)
theorem permL_rv {K : Fr} {F : Addr → Prop} {σ : St} {H : Hp} {xs : List V} {rs : List R} (h : RVsL K F σ H xs rs) : ∀ is : List Nat, RVsL K F σ H (permL is xs) (permL is rs)
  | [] => .nil
  | i :: is => by
    have ih := permL_rv h is
    unfold permL at ih ⊢
    rw [List.filterMap_cons, List.filterMap_cons]
    cases e : xs[i]? with
    | none =>
      have l : xs.length ≤ i := List.getElem?_eq_none_iff.mp e
      have : rs[i]? = none := List.getElem?_eq_none_iff.mpr (by rw [← h.length]; exact l)
      rw [this]
      exact ih
    | some x =>
      obtain ⟨u, hu, r⟩ := h.at e
      rw [hu]
      exact .cons r ih
def callK (is : List Nat) (n : Nat) (m : List Sl → Fo) (ga : DS → AOut) : DS → Out := fun S => match ga S with
  | .ok rs S1 => if rs.length = is.length then callS n m (permL is rs) S1 else .stuck
  | .exc C fs S' => .exc C fs S'
  | .stuck => .stuck
def DefOK (P : Program) (w : World) (K : Fr) (mg : Str → Option Value) (base : Heap) (x : Str) (k : Nat) (ps ks : List Str) (is : List Nat) (m : List Sl → Fo) : Prop :=
  ∃ f fd, FnOk P w K mg base (L2.CX P w) k f fd ps (spD K ps.length m) ∧ mg x = some (.ref f) ∧ PySem.W.keepIn K (.ref f) = true ∧ ks.length = is.length ∧
    ∀ (s : Shared) (ws : List Value), K.In s.heap → ws.length = ks.length → BindsTo s fd ⟨[], ks.zip ws⟩ (ps.zip (permL is ws))
theorem DefIn.k {P : Program} {w : World} {K : Fr} {mg : Str → Option Value} {base : Heap} {x : Str} {st : Stmt} {ps ks : List Str} {is : List Nat} {k : Nat} {m : List Sl → Fo} (D : DefIn K mg x st ps) (hl : ks.length = is.length)
    (b : ∀ (kV doc pm : Value) (an : Option Addr) (cdv ct : Value) (ws : List Value), ws.length = ks.length → bindArgs (PySem.W.fnOf x x (defArgs st) (defBody st) (defScope st) .none kV doc pm an cdv ct) ⟨[], ks.zip ws⟩ = pure (ps.zip (permL is ws)))
    (h : ∀ f fd, Fun K x x st f fd → FnOk P w K mg base (L2.CX P w) k f fd ps (spD K ps.length m)) : DefOK P w K mg base x k ps ks is m := by
  obtain ⟨f, fd, F, h1, h2⟩ := D
  refine ⟨f, fd, h f fd F, h1, F.kp, hl, ?_⟩
  obtain ⟨oc, od, kV, doc, pm, an, cdv, ct, osl, rfl, lk, hcd⟩ := F.ex
  exact fun s ws _ l2 => .of_eq (b kV doc pm an cdv ct ws l2)
theorem ev_callK {k n : Nat} {ps ks : List Str} {is : List Nat} {m : List Sl → Fo} {x : Str} {kws : List Keyword} (D : DefOK X.prog X.w X.K X.mg X.base x k ps ks is m) (hn : ps.length = n) (hr : Room k X.A) (tk : Takes X W) (hg : Gl X x) (ha : KV X W kws ga)
    (hall : (backToKw pos (keywordEach kws X.env)).all (·.1.isSome) = true := by rfl) (hks : (backToKw pos (keywordEach kws X.env)).filterMap (·.1) = ks := by rfl) (hdb : (x == ("__debug__" : Str)) = false := by decide)
    (hpl : ((backTo pos (starEach [] X.env)).any (·.1) || (backToKw pos (keywordEach kws X.env)).any (·.1.isNone)) = false := by rfl) :
    EV X W (.Call (.Name x p) [] kws pos) (callK is n m ga) := by
  subst hn
  obtain ⟨f, fd, F, hm, hk, hl, hb⟩ := D
  refine ⟨⟨fun pins s σ H Q I ⟨B, F0, S, rel, q⟩ => ?_⟩⟩
  refine wpAny_Call_Name_kw (ld_glob I hg hm ?_ hdb)
  refine PySem.W.callWith_KW0 (h₀ := X.base) I.ok.mod.kin hk hall (thn (ha.pk.run pos pins s σ H
    (fun vs H1 => vs.length = is.length ∧ spD X.K ps.length m (permL is vs) H1 Q fun cls d H2 => W cls d σ H2) I ⟨B, F0, S, rel, ?_⟩) fun us s1 ⟨vs, H1, I1, r, ql, q⟩ => ⟨I1.kIn, ?_⟩) hpl
  · unfold callK at q
    cases qa : ga S with
    | stuck => rw [qa] at q; exact q
    | exc C fs S' => rw [qa] at q; exact q
    | ok rs S1 =>
      rw [qa] at q
      dsimp only at q
      intro xs H1 F1 xt rel1 rv1
      by_cases hlen : rs.length = is.length
      · rw [if_pos hlen] at q
        exact ⟨rv1.length.trans hlen, callS_sp rel1 (permL_rv rv1 is) (Po.ext xt q)⟩
      · rw [if_neg hlen] at q
        exact q.elim
  · rw [hks]
    have l2 : us.length = ks.length := by
      have := r.length
      omega
    exact wpAny_call (code_fnK (us := permL is us) (vs := permL is vs) F hr (hb s1 us I1.kIn l2) (passW tk) I1 (permL_vals r is) q)
end
end DL
namespace DL
open PySem PySem.Spec PyProof.Rows L2
variable [Nm]

/-! ### zip of two, each a list (false) or a tuple (true) -/
def SqK (K : Fr) : Bool → Hp → Addr → List V → Prop
  | false, H, a, xs => SqL K H a xs
  | true, H, a, xs => SqT K H a xs
def IsS : Bool → Heap → Addr → Array Value → Prop
  | false, h, a, its => h.IsList a its
  | true, h, a, its => h.IsTuple a its
def ItS : Bool → Heap → Addr → Addr → Nat → Prop
  | false, h, it, a, i => h.IsListIter it a i
  | true, h, it, a, i => h.IsTupleIter it a i
def firstS (t : Bool) (a : Addr) : Obj := match t with
  | false => { cls := .type "list_iterator", data := .fields #[.ref a, .int 0 0] }
  | true => { cls := .type "tuple_iterator", data := .fields #[.ref a, .int 0 0] }
theorem drawS {prog : Program} {w : World} {A : Around} (t : Bool) (hh : A.handled = none) (it l : Addr) (hne : l ≠ it) (items : Array Value) :
    Draws prog w A it [it, l] items.size (fun i v => items[i]? = some v) (fun i h => ItS t h it l i ∧ IsS t h l items) := by
  cases t
  · exact Draws.list hh it l hne items
  · exact Draws.tuple hh it l hne items
theorem beginS (t : Bool) (a : Addr) (its : Array Value) : Begins (.ref a) (firstS t a) fun h => IsS t h a its := by
  cases t
  · exact begins_list a its
  · exact begins_tuple a its
theorem ItS.first {t : Bool} {h : Heap} {it a : Addr} (e : h.get? it = some (firstS t a)) : ItS t h it a 0 := by
  cases t <;> exact ⟨_, e, rfl, rfl⟩
theorem ItS.obj {t : Bool} {h : Heap} {it a : Addr} {i : Nat} (st : ItS t h it a i) : ∃ o, h.get? it = some o ∧ ∀ v, o.data ≠ .cell v := by
  cases t
  · obtain ⟨o, ho, _, hd⟩ := st
    exact ⟨o, ho, fun v q => by rw [hd] at q; cases q⟩
  · obtain ⟨o, ho, _, hd⟩ := st
    exact ⟨o, ho, fun v q => by rw [hd] at q; cases q⟩
theorem ItS.on {t : Bool} {h h' : Heap} {it a : Addr} {i : Nat} (st : ItS t h it a i) (e : ∀ o, h.get? it = some o → h'.get? it = some o) : ItS t h' it a i := by
  cases t
  · exact Heap.IsListIter.at st e
  · exact Heap.IsTupleIter.at st e
theorem IsS.lt {t : Bool} {h : Heap} {a : Addr} {its : Array Value} (p : IsS t h a its) : a < h.objs.size := by
  cases t
  · obtain ⟨o, ho, _⟩ := p
    exact Heap.lt_size ho
  · obtain ⟨o, ho, _⟩ := p
    exact Heap.lt_size ho
section
variable {X : Cx} {pins : List (Addr × Obj)} {σ : St} {H : Hp} {s : Shared}
theorem seqS_at {t : Bool} {a : Addr} {xs : List V} (I : Inv X pins σ H s) (h : SqK X.K t H a xs) : ∃ its : List Value, Vals xs its ∧ IsS t s.heap a its.toArray := by
  cases t
  · obtain ⟨its, rv, p, _⟩ := I.list h
    exact ⟨its, rv, p.isList⟩
  · obtain ⟨its, rv, p, _⟩ := I.tuple h
    exact ⟨its, rv, p⟩
theorem seqS_inj {t : Bool} {a : Addr} {xs ys : List V} (I : Inv X pins σ H s) (h : SqK X.K t H a xs) (h' : SqK X.K t H a ys) : xs = ys := by
  cases t
  · exact I.list_inj h h'
  · exact I.tuple_inj h h'
end
def ItzG (K : Fr) (t1 t2 : Bool) (a b : Addr) : It where
  go i H := ∃ (xs ys : List V) (x y : V), SqK K t1 H a xs ∧ SqK K t2 H b ys ∧ xs[i]? = some x ∧ ys[i]? = some y
  yld i H v H' := ∃ T x y, v = .ref T ∧ H T = none ∧ H' = upd H T (.tup [x, y]) ∧ (∀ xs, SqK K t1 H a xs → xs[i]? = some x) ∧ ∀ ys, SqK K t2 H b ys → ys[i]? = some y
  stop i H := ∃ xs ys : List V, SqK K t1 H a xs ∧ SqK K t2 H b ys ∧ i ≤ xs.length ∧ i ≤ ys.length ∧ (i = xs.length ∨ i = ys.length)
structure Sep5 (z TI TO i1 i2 a b : Addr) : Prop where
  h1 : TI ≠ z
  h2 : TO ≠ z
  h3 : TI ≠ TO
  h4 : TI ≠ i1
  h5 : TI ≠ i2
  h6 : z ≠ i1 ∧ z ≠ a
  h7 : z ≠ i2 ∧ z ≠ b
  h8 : TO ≠ i1 ∧ TO ≠ a
  h9 : TO ≠ i2 ∧ TO ≠ b
  hA : i1 ≠ i2 ∧ i1 ≠ b
  hB : i2 ≠ i1 ∧ i2 ≠ a
  hC : a ≠ i1
  hD : b ≠ i2
theorem sep5_mk (n a b : Nat) (ha : a < n) (hb : b < n) : Sep5 (n + 4) (n + 2) (n + 3) n (n + 1) a b := by
  have k : ∀ x y : Nat, x < y → ¬ (x = y) := fun x y h e => by omega
  have l : ∀ x y : Nat, y < x → ¬ (x = y) := fun x y h e => by omega
  exact ⟨k _ _ (by omega), k _ _ (by omega), k _ _ (by omega), l _ _ (by omega), l _ _ (by omega), ⟨l _ _ (by omega), l _ _ (by omega)⟩, ⟨l _ _ (by omega), l _ _ (by omega)⟩, ⟨l _ _ (by omega), l _ _ (by omega)⟩, ⟨l _ _ (by omega), l _ _ (by omega)⟩, ⟨k _ _ (by omega), l _ _ (by omega)⟩, ⟨l _ _ (by omega), l _ _ (by omega)⟩, k _ _ (by omega), k _ _ (by omega)⟩
theorem Sep5.sep {z TI TO i1 i2 a b : Addr} (D : Sep5 z TI TO i1 i2 a b) : ZipSep2 z TI TO i1 i2 [i1, a] [i2, b] :=
  ⟨D.h1, D.h2, D.h3, D.h4, by simp, by simp [D.h6.1, D.h6.2], by simp [D.h8.1, D.h8.2], D.h5, by simp, by simp [D.h7.1, D.h7.2], by simp [D.h9.1, D.h9.2], by simp [D.hA.1, D.hA.2], by simp [D.hB.1, D.hB.2]⟩
def ZSt (z TI TO i1 i2 a b : Addr) (t1 t2 : Bool) (i : Nat) (h : Heap) : Prop := IsZip h z TI TO .none ∧ IsTupOf2 h TI (.ref i1) (.ref i2) ∧ (∃ x y, IsTupOf2 h TO x y) ∧ ItS t1 h i1 a i ∧ ItS t2 h i2 b i
theorem turn_zipG {P : Program} {w : World} {K : Fr} {elts : List Expr} {kk : Nat} {tpos : Pos} {z TI TO i1 i2 a b : Addr} {t1 t2 : Bool} (D : Sep5 z TI TO i1 i2 a b) :
    Turn P w K (.Tuple elts kk tpos) (ItzG K t1 t2 a b) [z, TI, TO, i1, i2] z (ZSt z TI TO i1 i2 a b t1 t2) where
  mem := List.mem_cons_self
  obj := fun i h st c hc => by
    obtain ⟨hz, hT, ⟨x, y, hO⟩, s1, s2⟩ := st
    simp only [List.mem_cons, List.not_mem_nil, or_false] at hc
    rcases hc with rfl | rfl | rfl | rfl | rfl
    · exact ⟨_, hz, nofun⟩
    · exact ⟨_, hT, nofun⟩
    · exact ⟨_, hO, nofun⟩
    · exact s1.obj
    · exact s2.obj
  keep := fun i h h' ⟨hz, hT, ⟨x, y, hO⟩, s1, s2⟩ k => ⟨k z (by simp) _ hz, k TI (by simp) _ hT, ⟨x, y, k TO (by simp) _ hO⟩, s1.on fun o q => k i1 (by simp) o q, s2.on fun o q => k i2 (by simp) o q⟩
  item := by
    intro X hP hw hK hc i pins s σ H E I hf st hg
    subst hP hw hK
    obtain ⟨hz, hT, ⟨x0, y0, hO⟩, s1, s2⟩ := st
    obtain ⟨xs, ys, x, y, hqx, hqy, hx, hy⟩ := hg
    obtain ⟨its, rv, p⟩ := seqS_at I hqx
    obtain ⟨its2, rv2, p2⟩ := seqS_at I hqy
    obtain ⟨u, hu, ru⟩ := rv.get hx
    obtain ⟨u2, hu2, ru2⟩ := rv2.get hy
    have l1 : i < its.toArray.size := by simpa using (List.getElem?_eq_some_iff.mp hu).1
    have l2 : i < its2.toArray.size := by simpa using (List.getElem?_eq_some_iff.mp hu2).1
    have zl : z < s.heap.objs.size := Heap.lt_size hz
    refine wpAny_pyNext_zipD2_item D.sep (drawS (prog := X.prog) (w := X.w) (A := X.A.in1) t1 (I.ok.hd hc) i1 a D.hC its.toArray) (drawS (prog := X.prog) (w := X.w) (A := X.A.in1) t2 (I.ok.hd hc) i2 b D.hD its2.toArray) hz hT hO ⟨s1, p⟩ ⟨s2, p2⟩ l1 l2 fun v1 v2 h' tk e1 e2 b1 b2 d1 d2 b5 b6 hk => ?_
    obtain rfl : u = v1 := by
      have e1 : its[i]? = some v1 := by simpa using e1
      exact Option.some.inj (hu.symm.trans e1)
    obtain rfl : u2 = v2 := by
      have e2 : its2[i]? = some v2 := by simpa using e2
      exact Option.some.inj (hu2.symm.trans e2)
    refine ⟨_, rfl, wpAny_letOwnedTupleGo_zip (s := { s with heap := h', toks := tk }) b1 fun h'' z'' sb => ?_⟩
    have hT2 : h''.get? s.heap.objs.size = some { cls := .type "tuple", data := .seq #[u, u2] } := (sb.2 _ (Nat.ne_of_gt zl)).trans b5
    have new : ObjOk X.prog X.w (upd H s.heap.objs.size (.tup [x, y])) h'' s.heap.objs.size (.tup [x, y]) := ⟨show 2 ≤ sizeLine by decide, [u, u2], .cons ru (.cons ru2 .nil), ⟨_, hT2, rfl, _, rfl⟩⟩
    have I1 : Inv X pins σ (upd H s.heap.objs.size (.tup [x, y])) { s with heap := h'', toks := tk } :=
      I.turnedNew (ch := [z, TI, TO, i1, i2]) (fun c o hb q => (sb.2 c fun e => hb (by simp [e])).trans (hk c o (fun e => hb (by simp [e])) (fun e => hb (by simp [e])) (fun e => hb (by simp [e])) (fun e => hb (by simp [e])) q)) hf (Nat.le_refl _) new
    refine ⟨.ref s.heap.objs.size, _, I1, rfl, ⟨_, x, y, rfl, I.hok.fresh (Nat.le_refl _), rfl, fun l hl => ?_, fun l hl => ?_⟩, ⟨z'', ?_, ⟨u, u2, ?_⟩, ?_, ?_⟩, fun c hcm => ?_⟩
    · rw [seqS_inj I hl hqx]
      exact hx
    · rw [seqS_inj I hl hqy]
      exact hy
    · exact (sb.2 _ D.h1).trans (hk _ _ D.h1 D.h3 D.h4 D.h5 hT)
    · exact (sb.2 _ D.h2).trans b2
    · exact d1.1.on fun o q => (sb.2 _ (Ne.symm D.h6.1)).trans q
    · exact d2.1.on fun o q => (sb.2 _ (Ne.symm D.h7.1)).trans q
    · have lt : c < s.heap.objs.size := by
        simp only [List.mem_cons, List.not_mem_nil, or_false] at hcm
        rcases hcm with rfl | rfl | rfl | rfl | rfl
        · exact zl
        · exact Heap.lt_size hT
        · exact Heap.lt_size hO
        · obtain ⟨_, q, _⟩ := s1.obj
          exact Heap.lt_size q
        · obtain ⟨_, q, _⟩ := s2.obj
          exact Heap.lt_size q
      rw [upd_ne (Nat.ne_of_lt lt)]
      exact (hf c hcm).1
  done := by
    intro X hP hw hK hc i pins s σ H E I hf st hg
    subst hP hw hK
    obtain ⟨hz, hT, ⟨x0, y0, hO⟩, s1, s2⟩ := st
    obtain ⟨xs, ys, hqx, hqy, g1, g2, g3⟩ := hg
    obtain ⟨its, rv, p⟩ := seqS_at I hqx
    obtain ⟨its2, rv2, p2⟩ := seqS_at I hqy
    have l1 : its.toArray.size = xs.length := by
      rw [List.size_toArray]
      exact rv.length.symm
    have l2 : its2.toArray.size = ys.length := by
      rw [List.size_toArray]
      exact rv2.length.symm
    refine wpAny_pyNext_zipD2_end D.sep (drawS (prog := X.prog) (w := X.w) (A := X.A.in1) t1 (I.ok.hd hc) i1 a D.hC its.toArray) (drawS (prog := X.prog) (w := X.w) (A := X.A.in1) t2 (I.ok.hd hc) i2 b D.hD its2.toArray) hz hT hO ⟨s1, p⟩ ⟨s2, p2⟩ (by rw [l1]; exact g1) (by rw [l2]; exact g2) (by rw [l1, l2]; exact g3) fun h' tk hk => ⟨rfl, ?_⟩
    exact I.turnedL (ch := [z, TI, TO, i1, i2]) (fun c o hb q => hk c o (fun e => hb (by simp [e])) (fun e => hb (by simp [e])) (fun e => hb (by simp [e])) (fun e => hb (by simp [e])) q) hf
  self := fun A i s Q E st h => wpAny_pyIter_zip st.1 h
def iZipG (K : Fr) (ta : TA) : TI := fun σ H R => ta σ H fun vs H1 => ∃ t1 t2 a b xs ys, vs = [.ref a, .ref b] ∧ SqK K t1 H1 a xs ∧ SqK K t2 H1 b ys ∧ R (ItzG K t1 t2 a b) H1
theorem pi_zipG {X : Cx} {e e2 : Expr} {ta : TA} {p pos tpos : Pos} {elts : List Expr} {kk : Nat} (hg : Gl X "zip") (hm : X.mg "zip" = none) (ha : PA X [e, e2] ta)
    (hs : starEach [e, e2] X.env = (false, eval e X.env) :: starEach [e2] X.env := by rfl) (hpl : (backTo pos (starEach [e2] X.env)).any (·.1) = false := by rfl) : PI X (.Tuple elts kk tpos) (.Call (.Name "zip" p) [e, e2] [] pos) (iZipG X.K ta) := by
  refine ⟨fun pins s σ H R I h => ?_⟩
  refine Call_ (ld_blt (u := .type "zip") I hg hm PyProof.Rows.boot_zip (PyProof.Rows.callWith_type1 (thn (ha.run pos pins s σ H _ I h) fun us s1 ⟨vs, H1, I1, r1, q1⟩ => ?_) hs hpl))
  obtain ⟨t1, t2, a, b, xs, ys, ex, hqx, hqy, q⟩ := q1
  subst ex
  obtain ⟨w1, w2, rfl, e1, e2⟩ := vals2 r1
  obtain rfl : w1 = Value.ref a := e1
  obtain rfl : w2 = Value.ref b := e2
  obtain ⟨its, rv, p1⟩ := seqS_at I1 hqx
  obtain ⟨its2, rv2, p2⟩ := seqS_at I1 hqy
  have la := p1.lt
  have lb := p2.lt
  refine zip_begins2 (o1 := firstS t1 a) (o2 := firstS t2 b) (H1 := fun h => IsS t1 h a its.toArray) (H2 := fun h => IsS t2 h b its2.toArray) (beginS t1 a its.toArray) (beginS t2 b its2.toArray) p1 p2 fun h' hz hT hO f1 f2 hsz hk => wpAny_pyIter_zip hz ?_
  have I2 : Inv X pins σ H1 { s1 with heap := h' } := I1.kept (t' := s1.toks) hk
  have sep := sep5_mk s1.heap.objs.size a b la lb
  refine ⟨_, [s1.heap.objs.size + 4, s1.heap.objs.size + 2, s1.heap.objs.size + 3, s1.heap.objs.size, s1.heap.objs.size + 1], _, _, H1, rfl, I2, turn_zipG sep, ⟨hz, hT, ⟨_, _, hO⟩, .first f1, .first f2⟩, fun c hcm => ?_, q⟩
  have hle : s1.heap.objs.size ≤ c := by
    simp only [List.mem_cons, List.not_mem_nil, or_false] at hcm
    rcases hcm with rfl | rfl | rfl | rfl | rfl <;> omega
  exact I1.fpOk hle (I1.hok.fresh hle)
/-- the items of a list or a tuple -/
def seqOf : D → Option (List D)
  | .lst ds => some ds
  | .tup ds => some ds
  | _ => none
def zipT (ds es : List D) : List D := List.zipWith (fun a b => D.tup [a, b]) ds es
def iZp (ga : DS → AOut) : DS → IOut := fun S => match ga S with
  | .ok [.v a, .v b] S' => (match seqOf a, seqOf b with
    | some ds, some es => .ok (zipT ds es) S'
    | _, _ => .stuck)
  | .exc C fs S' => .exc C fs S'
  | _ => .stuck
theorem At.seq {K : Fr} {F : Addr → Prop} {H : Hp} {x : V} {d : D} {ds : List D} (h : At K F H x d) (e : seqOf d = some ds) : ∃ t a vs, x = .ref a ∧ Ats K F H vs ds ∧ ∀ F' H', Ext F H F' H' → SqK K t H' a vs := by
  cases d with
  | lst es =>
    cases e
    cases h with
    | @lst a vs _ fa ha t => exact ⟨false, a, vs, rfl, t, fun F' H' e => .inl (.inl (e.kp fa ha))⟩
  | tup es =>
    cases e
    cases h with
    | @tup a vs _ fa ha t => exact ⟨true, a, vs, rfl, t, fun F' H' e => .inl (rdKeep e fa ha)⟩
    | @ktup a vs _ ha t => exact ⟨true, a, vs, rfl, t, fun F' H' _ => ha.sq⟩
  | _ => cases e
theorem zipT_get {ds es : List D} {i : Nat} {a b : D} (h1 : ds[i]? = some a) (h2 : es[i]? = some b) : (zipT ds es)[i]? = some (.tup [a, b]) := by
  unfold zipT
  rw [List.getElem?_zipWith, h1, h2]
theorem iv_zip {X : Cx} {W : WX} {e e2 : Expr} {ga : DS → AOut} {p0 p1 : Pos} {elts : List Expr} {kk : Nat} {tpos : Pos} (hg : Gl X "zip") (hm : X.mg "zip" = none) (a : AV X W [e, e2] ga)
    (hs : starEach [e, e2] X.env = (false, eval e X.env) :: starEach [e2] X.env := by rfl) (hpl : (backTo p1 (starEach [e2] X.env)).any (·.1) = false := by rfl) : IV X W (.Tuple elts kk tpos) (.Call (.Name "zip" p0) [e, e2] [] p1) (iZp ga) := by
  refine ⟨PI.imp (pi_zipG hg hm a.pa hs hpl) fun σ H R ⟨B, F, S, rel, p⟩ => ⟨B, F, S, rel, ?_⟩⟩
  unfold iZp at p
  split at p
  · rename_i da db S' q
    rw [q]
    split at p
    · rename_i ds es e1 e2
      intro xs H1 F1 xt rel1 rv1
      match rv1 with
      | @RVsL.cons _ _ _ _ x0 _ _ _ h (@RVsL.cons _ _ _ _ x1 _ _ _ h' .nil) =>
        obtain ⟨t1, a1, vs, rfl, at1, sq1⟩ := At.seq (show At X.K F1 H1 x0 da from h) e1
        obtain ⟨t2, a2, ws, rfl, at2, sq2⟩ := At.seq (show At X.K F1 H1 x1 db from h') e2
        have len : (zipT ds es).length = min vs.length ws.length := by
          unfold zipT
          rw [List.length_zipWith, at1.length, at2.length]
        refine ⟨t1, t2, a1, a2, vs, ws, rfl, sq1 F1 H1 (Ext.refl _ _), sq2 F1 H1 (Ext.refl _ _), p _ _ _ xt rel1 ⟨fun i F' H' e hi => ?_, fun F' H' e => ?_, fun i F' H' x H2 e hi y => ?_⟩⟩
        · have i1 : i < vs.length := by omega
          have i2 : i < ws.length := by omega
          exact ⟨vs, ws, _, _, sq1 F' H' e, sq2 F' H' e, List.getElem?_eq_getElem i1, List.getElem?_eq_getElem i2⟩
        · refine ⟨vs, ws, sq1 F' H' e, sq2 F' H' e, ?_, ?_, ?_⟩ <;> rw [len] <;> omega
        · obtain ⟨T, x', y', rfl, hT, rfl, q1, q2⟩ := y
          obtain ⟨d, hd, ad⟩ := at1.get (q1 vs (sq1 F' H' e))
          obtain ⟨d2, hd2, ad2⟩ := at2.get (q2 ws (sq2 F' H' e))
          have k : ∀ b o, H' b = some o → upd H' T (.tup [x', y']) b = some o := fun b o h => by rw [upd_ne (ne_of_none h hT)]; exact h
          have ex : Ext F' H' (fun b => F' b ∨ b = T) (upd H' T (.tup [x', y'])) := ⟨fun _ h => .inl h, fun b o _ h _ => k b o h, fun c q h => k c _ h⟩
          refine ⟨fun b => F' b ∨ b = T, _, zipT_get hd hd2, k, fun _ h => .inl h, fun b h => ?_, upd_nt (by intro ps z; cases z), .tup (.inr rfl) (.inl upd_same) (.cons ((ad.ext e).ext ex) (.cons ((ad2.ext e).ext ex) .nil))⟩
          rcases h with h | h
          · exact .inl h
          · subst h
            exact .inr ⟨hT, _, upd_same⟩
    · exact p.elim
  · rename_i C fs S' q
    rw [q]
    exact p
  · exact p.elim
end DL
namespace DL
open PySem PySem.Spec PyProof.Rows L2
variable [Nm]

/-! ### a value as a test -/
def truB : D → Option Bool
  | .non => some false
  | .bl b => some b
  | .int i => some (i != 0)
  | .lst ds => some (!ds.isEmpty)
  | .tup ds => some (!ds.isEmpty)
  | _ => none
def truD (f : DS → Out) : DS → Out := bnd f fun r S => match r.get S with
  | some d => (match truB d with
    | some b => .ok (.v (.bl b)) S
    | none => .stuck)
  | none => .stuck
theorem Ats.emp {K : Fr} {F : Addr → Prop} {H : Hp} {vs : List V} {ds : List D} (t : Ats K F H vs ds) : vs.isEmpty = ds.isEmpty := by
  cases t <;> rfl
theorem truB_ok {K : Fr} {F : Addr → Prop} {H : Hp} {x : V} {d : D} {b : Bool} (h : Rds K F H x d) (e : truB d = some b) : TruV K x H b := by
  cases d with
  | non =>
    cases e
    rw [h.non]
    rfl
  | bl k =>
    cases e
    rw [h.bl]
    rfl
  | int i =>
    cases e
    rw [h.int]
    rfl
  | lst ds =>
    cases e
    obtain ⟨a, vs, rfl, h1, t⟩ := h.lst
    exact .inl ⟨vs, .inl (.inl h1), by rw [t.emp]⟩
  | tup ds =>
    cases e
    obtain ⟨a, vs, rfl, h1, t⟩ := h.tup
    exact .inr (.inl ⟨vs, h1, by rw [t.emp]⟩)
  | _ => cases e
theorem tv_tru {X : Cx} {W : WX} {e : Expr} {f : DS → Out} (a : EV X W e f) (he : ∀ whole, isTrue e X.env whole = (do let v ← whole; standAt e.pos; holding [v] (truthy v)) := by intro _; rfl) : TV X W e (truD f) := by
  refine ⟨PT.imp (pt_truth a.pe he) fun σ H Q ⟨B, F, S, rel, p⟩ => ?_⟩
  obtain ⟨B1, F1, S1, rel1, p1⟩ := tE_bnd rel p
  refine ⟨B1, F1, S1, rel1, Po.imp ?_ p1⟩
  rintro x H1 ⟨F2, S2, r, x2, rel2, rv2, p2⟩
  dsimp only at p2
  cases g : r.get S2 with
  | none => rw [g] at p2; exact p2.elim
  | some d =>
    rw [g] at p2
    dsimp only at p2
    cases hb : truB d with
    | none => rw [hb] at p2; exact p2.elim
    | some b =>
      rw [hb] at p2
      obtain ⟨c, ec, q⟩ := PoOk.val (d := .bl b) p2 rel2 (.bl b)
      cases ec
      exact ⟨_, truB_ok (rv2.s.rds rel2 g) hb, q⟩
section
variable {X : Cx} {W : WX} {C : Addr} {k : Nat} {m : List Sl → Fo} {e1 e2 : Expr} {f g : DS → Out} {pos : Pos}
theorem tv_eqI (M : MetOk X.prog X.w X.K X.mg X.base C "__eq__" k 2 m) (hr : Room (k + 1) X.A) (a : EV X W e1 f) (b : EV X W e2 g) : TV X W (.Compare e1 [.Eq] [e2] pos) (ownC C m false false true f g) :=
  ⟨PT.imp (pt_cmpR (op_eqI M hr) a.pe b.pe (nomark _)) fun σ H Q q => ownC_of q⟩
theorem tv_inI (M : MetOk X.prog X.w X.K X.mg X.base C "__contains__" k 2 m) (hr : Room (k + 1) X.A) (a : EV X W e1 f) (b : EV X W e2 g) (hm : behindInMarks .In e2 = false := by rfl) : TV X W (.Compare e1 [.In] [e2] pos) (ownC C m true false false f g) :=
  ⟨PT.imp (pt_cmpR (op_inI (ng := false) M hr) a.pe b.pe hm) fun σ H Q q => ownC_of q⟩
theorem tv_notinI (M : MetOk X.prog X.w X.K X.mg X.base C "__contains__" k 2 m) (hr : Room (k + 1) X.A) (a : EV X W e1 f) (b : EV X W e2 g) (hm : behindInMarks .NotIn e2 = false := by rfl) : TV X W (.Compare e1 [.NotIn] [e2] pos) (ownC C m true true false f g) :=
  ⟨PT.imp (pt_cmpR (op_inI (ng := true) M hr) a.pe b.pe hm) fun σ H Q q => ownC_of q⟩
end
end DL
namespace DL
open PySem PySem.Spec PyProof.Rows L2
variable [Nm]

/-! ### a tuple whose object is known to the sign: its methods may be called -/
def unx : D → D
  | .tpx ds => .tup ds
  | d => d
def wk (f : DS → Out) : DS → Out := fun S => match f S with
  | .ok (.v d) S' => .ok (.v (unx d)) S'
  | o => o
theorem At.unx {K : Fr} {F : Addr → Prop} {H : Hp} {x : V} {d : D} (h : At K F H x d) : At K F H x (DL.unx d) := by
  cases h with
  | tpx f h g t => exact .tup f (.inr ⟨_, h⟩) t
  | non => exact .non
  | bl b => exact .bl b
  | int i => exact .int i
  | str z => exact .str z
  | ty n => exact .ty n
  | cls a => exact .cls a
  | lst f h t => exact .lst f h t
  | scr h => exact .scr h
  | tup f h t => exact .tup f h t
  | ktup h t => exact .ktup h t
  | dct f h t => exact .dct f h t
  | ins f h t => exact .ins f h t
  | box h => exact .box h
section
variable {X : Cx} {W : WX} {e : Expr} {es : List Expr} {f : DS → Out} {ga : DS → AOut} {p pos : Pos}
theorem EV.wk (a : EV X W e f) : EV X W e (DL.wk f) := by
  refine ⟨PE.imp a.pe fun σ H Q ⟨B, F, S, rel, q⟩ => ⟨B, F, S, rel, ?_⟩⟩
  unfold DL.wk at q
  cases h : f S with
  | stuck => rw [h] at q; exact q
  | exc C fs S' => rw [h] at q; exact q
  | ok r S' =>
    rw [h] at q
    cases r with
    | ow d => exact q
    | bw i => exact q
    | v d => exact fun x H1 F1 xt r1 v => q x H1 F1 xt r1 (At.unx (show At X.K F1 H1 x d from v))
/-! ### tuple(xs), so kept -/
def rTupX (K : Fr) : List V → Hp → VK → Prop := fun xs H Q => ∃ p ys, xs = [.ref p] ∧ SqL K H p ys ∧ ∀ (l : Addr) (o : Obj), H l = none → o.cls = .type "tuple" → o.dict = none → Q (.ref l) (upd H l (.frz o (.tup ys)))
theorem call_tupX : CallR X (.type "tuple") (rTupX X.K) := by
  intro pins s σ H xs us Q I r h
  obtain ⟨q, ys, rfl, hs, k⟩ := h
  obtain ⟨u, rfl, ru⟩ := vals1 r
  obtain rfl : u = .ref q := ru
  obtain ⟨its, rv, pl, hz⟩ := I.list hs
  refine call_tuple_list pl.isList (fun h' hk => ?_) (by
    rw [List.size_toArray, ← rv.length]
    exact hz)
  have I1 : Inv X pins σ H { s with heap := h' } := I.kept (t' := s.toks) hk
  have I2 : Inv X pins σ (upd H h'.objs.size (.frz { cls := .type "tuple", data := .seq its.toArray } (.tup ys))) { s with heap := h'.push { cls := .type "tuple", data := .seq its.toArray } } :=
    I1.laid (t' := s.toks) (fun b o e => Heap.get?_push_of_some _ e) (Nat.le_refl _) (show ObjOk X.prog X.w _ _ _ (.frz _ (.tup ys)) from ⟨Heap.get?_push_size _ rfl, hz, its, rv, IsTup.new _ _⟩)
  exact ⟨.ref h'.objs.size, _, I2, rfl, k _ _ (I1.hok.fresh (Nat.le_refl _)) rfl rfl⟩
theorem PoOk.tpx {K : Fr} {B : Bs} {F : Addr → Prop} {S : DS} {σ : St} {H : Hp} {Q : VK} {l : Addr} {o : Obj} {vs : List V} {ds : List D} (h : PoOk K B S F H σ Q (.v (.tpx ds)) S) (r : Rel K B F S σ H) (t : Ats K F H vs ds) (hp : H l = none) (c : o.cls = .type "tuple") (d : o.dict = none) : Q (.ref l) (upd H l (.frz o (.tup vs))) := by
  obtain ⟨e, r'⟩ := r.layF (o := .frz o (.tup vs)) hp
  exact h _ _ _ e r' (.tpx (.inr rfl) upd_same ⟨c, d⟩ (t.ext e.toExt))
def tupX : List D → Option R
  | [.lst ds] => some (.v (.tpx ds))
  | _ => none
theorem tupX_ok : CaD X.K (rTupX X.K) tupX := by
  intro B F S σ H xs ds rr Q rel hx e q
  unfold tupX at e
  split at e
  · cases e
    obtain ⟨x, rfl, h⟩ := hx.one
    obtain ⟨a, vs, rfl, h1, t⟩ := h.lst
    exact ⟨_, vs, rfl, .inl (.inl h1), fun l o hl c d => PoOk.tpx q rel t hl c d⟩
  · cases e
theorem ev_tupX (hg : Gl X "tuple") (hm : X.mg "tuple" = none) (a : AV X W [e] ga) (he : starEach [e] X.env = (false, eval e X.env) :: starEach [] X.env := by rfl) : EV X W (.Call (.Name "tuple" p) [e] [] pos) (liftL tupX ga) :=
  ev_ct call_tupX tupX_ok hg hm (by decide +kernel) a (by decide) (by decide) he (by rfl)
/-! ### t.m(..) -/
def tTM (r : V → List V → Hp → VK → Prop) (to : TE) (t : TA) : TE := fun σ H Q => to σ H fun x H1 => (∃ a o vs, x = .ref a ∧ H1 a = some (.frz o (.tup vs)) ∧ o.cls = .type "tuple" ∧ o.dict = none) ∧ t σ H1 fun xs H2 => r x xs H2 Q
theorem pe_tm {o : Expr} {to : TE} {t : TA} {name : Str} {apos cpos : Pos} {id : String} {r : V → List V → Hp → VK → Prop} (slot : Slot "tuple" name id) (hty : typeOf (.builtin id) = pure (.type "method_descriptor")) (hm : MtR X id r) (ho : PE X o to) (ha : PA X (e :: es) t) (hbase : attributeBase o name X.env (eval o X.env) = eval o X.env)
    (few : ((backTo cpos (starEach (e :: es) X.env)).all (fun z => !z.1) && (backToKw cpos (keywordEach [] X.env)).all (fun z => z.1.isSome) && decide ((e :: es).length + ([] : List Keyword).length + (if ([] : List Keyword).isEmpty then 0 else 1) < 30)) = true) (hline : (apos.endLine == cpos.line) = true) (hs : starEach (e :: es) X.env = (false, eval e X.env) :: starEach es X.env) (hplain : (backTo cpos (starEach es X.env)).any (·.1) = false) :
    PE X (.Call (.Attribute o name apos) (e :: es) [] cpos) (tTM r to t) := by
  refine ⟨fun pins s σ H Q I h => ?_⟩
  refine wpAny_Call_method_late hbase few hline rfl (thn (ho.run pins s σ H _ I h) fun v s1 ⟨x, H1, I1, r1, ⟨a, ob, vs, ex, hx, c, d⟩, q1⟩ => ?_)
  subst ex
  obtain rfl : v = .ref a := r1
  obtain ⟨ga, _⟩ := I1.hok _ _ hx
  refine ⟨"tuple", id, PySem.F.plainAttrs_tuple, slot, hty, ⟨ob, ga, c⟩, fun b eb => by cases eb; exact ⟨ob, ga, d⟩, ?_⟩
  have hA := ha.run cpos pins s1 σ H1 _ I1 q1
  rw [hs] at hA ⊢
  exact Calls.callWith_builtin (show (false || (backTo cpos (starEach es X.env)).any (·.1)) = false by rw [hplain]; rfl) (Calls.evalArgs_plain (thn hA fun us s2 ⟨ws, H2, I2, r2, q2⟩ => hm pins s2 σ H2 (.ref a) ws (.ref a) us Q I2 rfl r2 q2))
def tixX (f : DS → Out) (ga : DS → AOut) : DS → Out := bnd f fun ra S => match ra with
  | .v (.tpx ds) => (match ga S with
    | .ok [.v (.str z)] S2 => (match sLs ds with
      | some ss => if z ∈ ss then .ok (.v (.int (ss.idxOf z : Int))) S2 else .stuck
      | none => .stuck)
    | .exc C fs S' => .exc C fs S'
    | _ => .stuck)
  | _ => .stuck
theorem ev_tixX {o : Expr} {apos cpos : Pos} (ho : EV X W o f) (ha : AV X W (e :: es) ga) (hbase : attributeBase o "index" X.env (eval o X.env) = eval o X.env := by rfl)
    (few : ((backTo cpos (starEach (e :: es) X.env)).all (fun z => !z.1) && (backToKw cpos (keywordEach [] X.env)).all (fun z => z.1.isSome) && decide ((e :: es).length + ([] : List Keyword).length + (if ([] : List Keyword).isEmpty then 0 else 1) < 30)) = true := by rfl) (hline : (apos.endLine == cpos.line) = true := by rfl) (hs : starEach (e :: es) X.env = (false, eval e X.env) :: starEach es X.env := by rfl) (hplain : (backTo cpos (starEach es X.env)).any (·.1) = false := by rfl) :
    EV X W (.Call (.Attribute o "index" apos) (e :: es) [] cpos) (tixX f ga) := by
  refine ⟨PE.imp (pe_tm PySem.F.slot_tuple_index PySem.F.type_tuple_index mt_tup_index ho.pe ha.pa hbase few hline hs hplain) fun σ H Q ⟨B, F, S, rel, q⟩ => ?_⟩
  obtain ⟨B1, F1, S1, rel1, p1⟩ := tE_bnd rel q
  refine ⟨B1, F1, S1, rel1, Po.imp ?_ p1⟩
  rintro x H1 ⟨F2, S2, ra, x2, rel2, rv2, p2⟩
  dsimp only at p2
  split at p2
  · rename_i ds
    have at1 : At X.K F2 H1 x (.tpx ds) := rv2
    cases at1 with
    | @tpx a ob vs _ fa hx g t =>
      refine ⟨⟨a, ob, vs, rfl, hx, g.1, g.2⟩, B, F2, S2, rel2, ?_⟩
      split at p2
      · rename_i z S3 hz
        rw [hz]
        split at p2
        · rename_i ss hss
          split at p2
          · rename_i hm
            intro xs H3 F3 x3 rel3 rv3
            match rv3 with
            | .cons h1 .nil =>
              have h1 : At X.K F3 H3 _ (.str z) := h1
              rw [h1.strI]
              refine ⟨a, ss, z, ss.idxOf z, rfl, rfl, ?_, ?_, fun m hm' q' => ?_, p2 _ H3 F3 x3 rel3 (.int _)⟩
              · rw [← t.toS hss]
                exact .inl (.inr ⟨ob, x3.kp fa hx⟩)
              · have l : ss.idxOf z < ss.length := List.idxOf_lt_length_iff.mpr hm
                rw [List.getElem?_eq_getElem l, List.getElem_idxOf l]
              · have l : ss.idxOf z < ss.length := List.idxOf_lt_length_iff.mpr hm
                have lm : m < ss.length := by omega
                rw [List.getElem?_eq_getElem lm] at q'
                have e1 : ss[m] = z := Option.some.inj q'
                have := List.not_of_lt_findIdx (xs := ss) (p := fun y => y == z) (i := m) hm'
                simp [e1] at this
          · exact p2.elim
        · exact p2.elim
      · rename_i C fs S' hz
        rw [hz]
        exact p2
      · exact p2.elim
  · exact p2.elim
end
end DL
namespace DL
open PySem PySem.Spec PyProof.Rows L2
variable [Nm]
section
variable {X : Cx} {W : WX} {e e1 e2 : Expr} {es : List Expr} {f g : DS → Out} {ga : DS → AOut} {p pos : Pos}
/-! ### tuples put together -/
def addT : D → D → Option R
  | .tup xs, .tup ys => if xs.length + ys.length ≤ sizeLine then some (.v (.tup (xs ++ ys))) else none
  | _, _ => none
theorem addT_ok {K : Fr} : OpD K (rCatA K) addT := by
  intro B F S σ H x y a b rr Q rel hx hy e q
  unfold addT at e
  split at e
  · rename_i xs ys
    split at e
    · rename_i hl
      cases e
      have hxt : ∃ l vs, x = .ref l ∧ SqT K H l vs ∧ Ats K F H vs xs := hx.tup
      have ax : At K F H x (.tup xs) := by
        rcases hx with h | ⟨_, _, h⟩
        · exact h
        · exact h.elim
      have ay : At K F H y (.tup ys) := by
        rcases hy with h | ⟨_, _, h⟩
        · exact h
        · exact h.elim
      obtain ⟨l, vs, rfl, h1, t1⟩ := ax.tupI
      obtain ⟨m, ws, rfl, h2, t2⟩ := ay.tupI
      refine ⟨l, m, vs, ws, rfl, rfl, h1, h2, by rw [t1.length, t2.length]; exact hl, fun z => ?_, fun _ z => ?_, fun _ _ r hr => q.tuple rel (t1.append t2) hr⟩
      · have : xs = [] := by
          have := t1.length
          rw [z] at this
          exact List.length_eq_zero_iff.mp this.symm
        subst this
        exact q.val rel ay
      · have : ys = [] := by
          have := t2.length
          rw [z] at this
          exact List.length_eq_zero_iff.mp this.symm
        subst this
        rw [List.append_nil] at q
        exact q.val rel ax
    · cases e
  · cases e
theorem ev_addT (a : EV X W e1 f) (b : EV X W e2 g) : EV X W (.BinOp e1 .Add e2 pos) (bin addT f g) := ev_bin op_catA addT_ok a b
/-! ### sum of a list of ints -/
def sumC : List D → Option R
  | [.lst ds] => match iLs ds with
    | some ns => some (.v (.int ns.sum))
    | _ => none
  | _ => none
theorem sumC_ok : CaD X.K (L2.rSum X.K) sumC := by
  intro B F S σ H xs ds rr Q rel hx e q
  unfold sumC at e
  split at e
  · split at e
    · rename_i ns hb
      cases e
      obtain ⟨x, rfl, h⟩ := hx.one
      obtain ⟨a, vs, rfl, h1, t⟩ := h.lst
      exact ⟨_, ns, rfl, by rw [← t.toI hb]; exact .inl (.inl h1), q.val rel (.int _)⟩
    · cases e
  · cases e
theorem ev_sum (hc : X.calm = true) (hg : Gl X "sum") (hm : X.mg "sum" = none) (a : AV X W [e] ga) (he : starEach [e] X.env = (false, eval e X.env) :: starEach [] X.env := by rfl) : EV X W (.Call (.Name "sum" p) [e] [] pos) (liftL sumC ga) :=
  ev_cb (cr_sum hc) sumC_ok hg hm (by decide +kernel) a (by decide) (by decide) he (by rfl)
end
end DL
namespace DL
open PySem PySem.Spec PyProof.Rows L2 LamX
variable [Nm]
/-! ### a lambda of one parameter -/
/-- the maker's names, the parameter's own put out of sight -/
def maskN (a : Str) (N : List Str) : List Str := N.map fun y => if y = a then ("" : Str) else y
/-- one parameter a, no other name of its own -/
structure LamS1 (sc scope : Scope) (a : Str) : Prop where
  kind : scope.kind = .function
  co : scope.isCoroutine = false
  gen : scope.isGenerator = false
  own : ∀ y ∈ scope.names, y.2 ≠ .cell
  loc : ∀ y ∈ scope.names, y.2 = .local → y.1 = a
  isl : scope.names.lookup a = some .local
  nov : ∀ y ∈ scope.names, y.1 ≠ ("" : Str)
  free : ∀ y ∈ scope.names, y.2 = .free → sc.names.lookup y.1 = some .cell ∨ sc.names.lookup y.1 = some .free
def lamS1B (sc scope : Scope) (a : Str) : Bool :=
  decide (scope.kind = .function) && !scope.isCoroutine && !scope.isGenerator && decide (scope.names.lookup a = some .local) && scope.names.all fun y => !decide (y.2 = .cell) && (!decide (y.2 = .local) || decide (y.1 = a)) && !decide (y.1 = ("" : Str)) && (!decide (y.2 = .free) || decide (sc.names.lookup y.1 = some .cell) || decide (sc.names.lookup y.1 = some .free))
theorem lamS1_by {sc scope : Scope} {a : Str} (h : lamS1B sc scope a = true) : LamS1 sc scope a := by
  unfold lamS1B at h
  simp only [Bool.and_eq_true, Bool.or_eq_true, Bool.not_eq_true', decide_eq_true_eq, decide_eq_false_iff_not, List.all_eq_true] at h
  obtain ⟨⟨⟨⟨h1, h2⟩, h3⟩, h5⟩, h4⟩ := h
  refine ⟨h1, h2, h3, fun y hy => (h4 y hy).1.1.1, fun y hy e => ?_, h5, fun y hy => (h4 y hy).1.2, fun y hy e => ?_⟩
  · rcases (h4 y hy).1.1.2 with z | z
    · exact absurd e z
    · exact z
  · rcases (h4 y hy).2 with (z | z) | z
    · exact absurd e z
    · exact .inl z
    · exact .inr z
theorem LamS1.has {X : Cx} {scope : Scope} {a : Str} (L : LamS1 X.env.scope scope a) (ok : X.Ok) : ∀ y ∈ scope.names, y.2 = .free → ∃ c, X.env.cells.lookup y.1 = some c := fun y hy e => by
  rcases L.free y hy e with k | k
  · exact ok.has _ (.inl k)
  · exact ok.has _ (.inr k)
/-- the context of the body -/
def lamCx1 (X : Cx) (A : Around) (outer : List Env) (s : Shared) (H : Hp) (E : XK) (scope : Scope) (a : Str) (f c' : Addr) : Cx := { lamCx X A outer s H E scope f c' with N := maskN a X.N ++ [a] }
section
variable {X : Cx} {pins : List (Addr × Obj)} {σ : L2.St} {H HZ : Hp} {s s1 : Shared}
theorem lam_start1 {A : Around} {outer : List Env} {E : XK} {scope : Scope} {a : Str} {f c' : Addr} {h₁ : Heap} {tk : Nat} {v : V} {u : Value} (I : Inv X pins σ H s) (L : LamS1 X.env.scope scope a) (e0 : Env0 X.prog X.w X.K X.mg X.base A outer s1 HZ) (hd : A.handled = none)
    (un : Un (frs X.stack) [] H HZ s.heap s1.heap) (rv : RelV v u) (hns : h₁.Ns s1.heap.objs.size fun y => ([(a, u)] : List (Str × Value)).reverse.lookup y) (kp : ∀ b o, s1.heap.get? b = some o → h₁.get? b = some o) :
    Inv (lamCx1 X A outer s1 HZ E scope a f c') [] (σ ++ [some v]) HZ { s1 with heap := h₁, toks := tk } := by
  have hfree := L.has I.ok
  have cm : ∀ {y c}, (cloFrom X.env.cells scope.names []).lookup y = some c → X.env.cells.lookup y = some c := fun {y c} e => by
    rcases cloFrom_mem (PySem.mem_of_lookup e) with hm | ⟨h1, h2⟩
    · cases hm
    · obtain ⟨c1, hc⟩ := hfree _ h1 rfl
      have hc : X.env.cells.lookup y = some c1 := hc
      have e2 : c = c1 := by
        rw [h2, hc] <;> rfl
      rw [e2]
      exact hc
  have look : ∀ {y}, scope.names.lookup y = some .free → ∃ c, (cloFrom X.env.cells scope.names []).lookup y = some c := fun {y} hl => by
    have hy : (y, NameKind.free) ∈ scope.names := PySem.mem_of_lookup hl
    exact mem_lookup (cloFrom_has (cells := X.env.cells) (acc := []) hy)
  have cellK : ∀ {c : Addr} {v : Option Value}, H c = none → s.heap.IsCell c v → h₁.IsCell c v := fun {c v} n ⟨o, ho, hd⟩ => by
    obtain ⟨sl, q⟩ := un.any ho n (by simp)
    exact ⟨_, kp _ _ q, hd⟩
  have noA : ∀ b : Addr, b ∉ (lamCx1 X A outer s1 HZ E scope a f c').ex := fun b z => absurd (show b ∈ ([] : List Addr) from z) (by simp)
  have noloc : ∀ {y}, scope.names.lookup y = some .local → y = a := fun {y} hl => L.loc _ (PySem.mem_of_lookup hl) rfl
  refine ⟨⟨e0.mod, L.kind, rfl, rfl, Nat.le_refl _, fun y z c e1 e2 => I.ok.inj y z c (cm e1) (cm e2), fun y hy => ?_, fun y c z _ => ?_, fun _ => hd, Around.frames_deeper e0.frames, .inr ⟨rfl, rfl⟩, fun b z => absurd z (noA b), e0.bs, e0.bsz, fun b _ _ => noA b,
      fun b z => absurd z (noA b), e0.funs, e0.frf⟩,
    rfl, e0.bare, Un.kept kp, ⟨_, hns, fun i y w e1 e2 e3 => ?_⟩, fun y c e => ?_, e0.hok.fresh (Nat.le_refl _), fun y c e => ?_, fun q hq => absurd (show q ∈ ([] : List (Addr × Obj)) ++ [] from hq) (by simp), e0.hok.kept kp, ?_⟩
  · have hy : scope.names.lookup y = some .cell ∨ scope.names.lookup y = some .free := hy
    rcases hy with hy | hy
    · exact absurd rfl (L.own _ (PySem.mem_of_lookup hy))
    · exact look hy
  · have z : false = true := z
    cases z
  · have e1 : (maskN a X.N ++ [a])[i]? = some y := e1
    have e3 : Vis scope y := e3
    have lenM : (maskN a X.N).length = X.N.length := by simp [maskN]
    have ln := I.len
    by_cases hi : i < X.N.length
    · rw [List.getElem?_append_left (by omega)] at e1
      rw [List.getElem?_append_left (by omega)] at e2
      unfold maskN at e1
      rw [List.getElem?_map, List.getElem?_eq_getElem hi] at e1
      have e1 : (if X.N[i] = a then ("" : Str) else X.N[i]) = y := Option.some.inj e1
      have nv : y ≠ ("" : Str) := by
        rcases e3 with k | k | k
        · exact L.nov _ (PySem.mem_of_lookup k)
        · exact L.nov _ (PySem.mem_of_lookup k)
        · exact L.nov _ (PySem.mem_of_lookup k)
      by_cases ea : X.N[i] = a
      · rw [if_pos ea] at e1
        exact absurd e1.symm nv
      · rw [if_neg ea] at e1
        have e1' : X.N[i]? = some y := by rw [List.getElem?_eq_getElem hi, e1]
        rcases e3 with k | k | k
        · exact absurd (e1.trans (noloc k)) ea
        · exact absurd rfl (L.own _ (PySem.mem_of_lookup k))
        · obtain ⟨m, hn, hl⟩ := I.loc
          have hvis : Vis X.env.scope y := (L.free _ (PySem.mem_of_lookup k) rfl).elim (fun k => .inr (.inl k)) (fun k => .inr (.inr k))
          obtain ⟨w', r, q⟩ := hl i y w e1' e2 hvis
          obtain ⟨c2, h2⟩ := look k
          refine ⟨w', r, .inr ⟨.inr k, c2, h2, ?_⟩⟩
          have c1 := cm h2
          rcases q with ⟨k', _⟩ | ⟨_, c3, e', z⟩
          · have k' : X.env.scope.names.lookup y = some .local := k'
            rcases L.free _ (PySem.mem_of_lookup k) rfl with k2 | k2 <;> rw [show X.env.scope.names.lookup y = _ from k2] at k' <;> cases k'
          · rw [c1] at e'
            cases e'
            exact cellK (I.freeC y _ c1) z
    · have hl : i < (maskN a X.N ++ [a]).length := (List.getElem?_eq_some_iff.mp e1).1
      rw [List.length_append, lenM, List.length_singleton] at hl
      have ei : i = X.N.length := by omega
      subst ei
      rw [List.getElem?_append_right (by omega), lenM, Nat.sub_self] at e1
      rw [List.getElem?_append_right (by omega), ln, Nat.sub_self] at e2
      have e1 : a = y := Option.some.inj e1
      have e2 : v = w := Option.some.inj (Option.some.inj e2)
      subst e1
      subst e2
      exact ⟨u, rv, .inl ⟨L.isl, by simp⟩⟩
  · obtain ⟨w', z⟩ := I.cell y c (cm e)
    exact ⟨w', cellK (I.freeC y c (cm e)) z⟩
  · obtain ⟨v, o, ho, hd⟩ := I.cell y c (cm e)
    exact un.free c o ho (I.freeC y c (cm e)) (by simp)
  · show (σ ++ [some v]).length = (maskN a X.N ++ [a]).length
    rw [List.length_append, List.length_append, I.len]
    simp [maskN]
/-- the lambda called with one value, in the maker's state -/
theorem lam_call1 {A : Around} {scope : Scope} {a : Str} {f c' : Addr} {pm ctv : Value} {params : Arguments} {body : Expr} {k : Nat} {tb : TE} {v : V} {u : Value} {Q : VK} {E : Value → Shared → Prop} (I : Inv X pins σ H s) (L : LamS1 X.env.scope scope a)
    (hf : s.heap.get? f = some (PySem.W.kla_obj "<lambda>" (X.env.qual ++ "<lambda>") params body scope (cloFrom X.env.cells scope.names []) pm c' ctv))
    (hbind : bindArgs (PySem.W.kla_fn "<lambda>" (X.env.qual ++ "<lambda>") params body scope (cloFrom X.env.cells scope.names []) pm (.ref c') ctv) ⟨[u], []⟩ = pure [(a, u)])
    (hr : Room (k + 1) A) (e0 : Env0 X.prog X.w X.K X.mg X.base A X.stack s H) (hco : H c' = some (CodeO c' (X.env.qual ++ "<lambda>"))) (rv : RelV v u)
    (hbody : PE (lamCx1 X A X.stack s H C8.E0 scope a f c') body tb) (ht : tb (σ ++ [some v]) H Q) :
    wpAny (model X.prog X.w) A (call (.ref f) [u]) (fun r s' => ∃ w H', Inv X pins σ H' s' ∧ RelV w r ∧ Q w H' ∧ ∀ b o, s.heap.get? b = some o → H b = none → H' b = none ∧ (b ∉ frs X.stack → s'.heap.get? b = some o)) E s := by
  obtain ⟨⟨oc, vs, t, hoc, hdc, hvc⟩, _, _⟩ := I.hok c' _ hco
  have rc : codeAny (model X.prog X.w) A (.call (.ref f) ⟨[u], []⟩) (CR (L2.CX X.prog X.w) X.stack X.prog X.w H s Q C8.E0) s := by
    refine PySem.W.kla_callFunE hr.depth hf rfl L.co L.gen rfl ⟨c', oc, vs, t, rfl, hoc, hdc, hvc⟩ ?_
    rw [hbind]
    refine wpAny_pure (wpAny_newFunctionEnv (fun y hy => L.own y hy) (fun y hy => by rw [List.mem_singleton.mp hy]; exact L.isl) (fun h₁ hns hsb => ⟨I.nolimit.fresh _ hsb, ?_⟩) L.kind)
    show codeAny _ _ (.expr body (lamEnv X scope s.heap.objs.size f c')) _ _
    have kp : ∀ b o, s.heap.get? b = some o → h₁.get? b = some o := fun b o e => hsb.extBut b o (Nat.ne_of_lt (Heap.lt_size e)) (Heap.get?_push_of_some _ e)
    have J : Inv (lamCx1 X A X.stack s H C8.E0 scope a f c') [] (σ ++ [some v]) H { s with heap := h₁, toks := s.toks + ([(a, u)] : List (Str × Value)).length } :=
      lam_start1 I L e0 hr.hd Un.refl rv hns kp
    refine PySem.W.kla_codeExpr (wpAny_mono (hbody.run [] _ _ H Q J ht) (fun v s' hq => ?_) fun e s' hq => hq)
    obtain ⟨w', H', J', rv, q⟩ := hq
    exact ⟨w', H', J'.os, J'.bare, J'.base, J'.hok, rv, q⟩
  refine wpAny_call (codeAny_mono rc fun r s' hq => ?_)
  cases r with
  | error e =>
    obtain ⟨_, _, _, _, _, _, _, _, _, _, _, _, z⟩ := (show L2.CX X.prog X.w X.stack H s C8.E0 e s' from hq)
    exact z.elim
  | ok fl =>
    cases fl with
    | ret u =>
      obtain ⟨w, H', os, bare, un, hok, rw', q⟩ := hq
      obtain ⟨hh, g, d, t, os'⟩ := s'
      obtain rfl : os' = s.os := os
      exact ⟨w, H', I.call (h' := hh) (g' := g) (d' := d) (t' := t) (ch := []) un hok bare (fun b z => absurd z (by simp)), rw', q, fun b o h1 h2 => ⟨un.free b o h1 h2 (by simp), fun h3 => un.keep b o h1 h2 h3 (by simp)⟩⟩
    | next => exact False.elim hq
    | brk => exact False.elim hq
    | cont => exact False.elim hq
end
end DL
namespace DL
open PySem PySem.Spec PyProof.Rows L2 LamX
variable [Nm]
/-! ### min(xs, key=lambda a: e) -/
abbrev GEq : Array GenState → Array GenState → Prop := fun a b => b = a
section
variable {X : Cx} {pins : List (Addr × Obj)} {σ : L2.St} {H H0 : Hp} {s0 s s' : Shared}
/-- what is new since s0 and bears nothing may be written -/
theorem inv_moved {wr : List Addr} (I0 : Inv X pins σ H0 s0) (I : Inv X pins σ H s) (hw : ∀ b ∈ wr, s0.heap.objs.size ≤ b) (nH : ∀ b ∈ wr, H b = none) (m : Moved wr GEq s s') : Inv X pins σ H s' := by
  obtain ⟨h', g', d', tk, os'⟩ := s'
  obtain rfl : os' = s.os := m.os
  obtain rfl : g' = s.gens := m.gens
  have k : ∀ b o, b ∉ wr → s.heap.get? b = some o → h'.get? b = some o := m.heap
  have nit : ∀ b u, H b = some u → b ∉ wr := fun b u e z => by rw [nH b z] at e; cases e
  have nL : ∀ b ∈ wr, b ≠ X.env.locals := fun b hb z => by
    have h1 := I0.lt
    have h2 := hw b hb
    rw [z] at h2
    exact Nat.lt_irrefl _ (Nat.lt_of_lt_of_le h1 h2)
  refine I.step (ch := wr) (fun b hb => ?_) (fun b o _ _ hc e _ => k b o hc e) (fun b o _ _ hc e _ => ⟨o.slots, k b o hc e⟩) (fun _ _ _ _ n => n)
    (fun b o hc e => ⟨o, k b o hc e⟩) (fun _ _ e => e) (fun _ _ _ e => e) (fun b ps e => ⟨#[], by rw [e]; simp⟩) (fun m hm => ?_) (fun b u e => ?_) I.bare
  · refine ⟨.inr (Nat.le_trans I0.sz (hw b hb)), nL b hb, fun x c e z => ?_, fun p hp z => ?_⟩
    · obtain ⟨v, o, ho, _⟩ := I0.cell x c e
      have h1 := Heap.lt_size ho
      have h2 := hw b hb
      rw [z] at h1
      exact Nat.lt_irrefl _ (Nat.lt_of_lt_of_le h1 h2)
    · have h1 := Heap.lt_size (I0.pin p hp).1
      have h2 := hw b hb
      rw [z] at h1
      exact Nat.lt_irrefl _ (Nat.lt_of_lt_of_le h1 h2)
  · obtain ⟨o, es, ep, ho, r⟩ := hm
    exact ⟨o, es, ep, k _ o (fun z => nL _ z rfl) ho, r⟩
  · refine (I.hok b u e).stay (fun c v hc q => k c v ?_ q) (fun _ q => q) fun _ _ q => q
    rcases hc with z | z
    · rw [z]; exact nit b u e
    · exact nit c _ z
/-- a list walked while it is kept: what it bears, by its reading -/
theorem walk_list {prog : Program} {w : World} {A : Around} {xs : List V} {I l : Addr} (hh : A.handled = none) (hne : l ≠ I) :
    WalksS prog w A I [I, l] [I] GEq xs.length (fun i v => ∃ x, xs[i]? = some x ∧ RelV x v) (fun i s => s.heap.IsListIter I l i ∧ ∃ its : List Value, Vals xs its ∧ s.heap.IsList l its.toArray) where
  sub := fun b hb => by simp at hb; simp [hb]
  grefl := fun _ => rfl
  gtrans := fun _ _ _ h1 h2 => h2.trans h1
  frame := fun i s h' tk st _ hk => ⟨st.1.at fun o e => hk I (by simp) o e, st.2.imp fun its h => ⟨h.1, h.2.at fun o e => hk l (by simp) o e⟩⟩
  item := fun i s Q E hi st hQ => by
    obtain ⟨hit, its, rv, hl⟩ := st
    have W := (Walks.list (prog := prog) (w := w) (A := A) hh I l hne its.toArray).toS
    have hsz : its.toArray.size = xs.length := by rw [List.size_toArray, rv.length]
    refine W.item i s Q E (by rw [hsz]; exact hi) ⟨hit, hl⟩ fun v s' hP hst hm => ?_
    have hv : its[i]? = some v := by simpa using hP
    refine hQ v s' ?_ ⟨hst.1, its, rv, hst.2⟩ hm
    obtain ⟨u, hu, r⟩ := rv.get (List.getElem?_eq_getElem hi)
    rw [hu] at hv
    cases hv
    exact ⟨_, List.getElem?_eq_getElem hi, r⟩
  done := fun s Q E st hQ => by
    obtain ⟨hit, its, rv, hl⟩ := st
    have W := (Walks.list (prog := prog) (w := w) (A := A) hh I l hne its.toArray).toS
    have hsz : its.toArray.size = xs.length := by rw [List.size_toArray, rv.length]
    exact W.done s Q E (by rw [hsz]; exact ⟨hit, hl⟩) hQ
  self := fun i s Q E st hQ => by
    obtain ⟨hit, its, rv, hl⟩ := st
    exact (Walks.list (prog := prog) (w := w) (A := A) hh I l hne its.toArray).toS.self i s Q E ⟨hit, hl⟩ hQ
theorem nofr {b : Addr} (I : Inv X pins σ H s) (h : s.heap.objs.size ≤ b) : b ∉ frs X.stack := fun z => by
  rcases List.mem_cons.mp (I.stkSub _ z) with e | e
  · have h1 := I.lt
    rw [← e] at h1
    exact Nat.lt_irrefl _ (Nat.lt_of_lt_of_le h1 h)
  · exact I.nofs h e
/-- a list walked, by a lambda that tells an int; Gr: how what is held may grow meanwhile; lt: how two answers compare -/
theorem lam_walk {op : CmpOp} {lt : Int → Int → Bool} {scope : Scope} {a : Str} {f c' l : Addr} {pm ctv : Value} {params : Arguments} {body : Expr} {k : Nat} {tb : TE} {xs : List V} {kf : Nat → Int} {Gr : Hp → Prop} {Q : VK} {E : Value → Shared → Prop} (hcmp : ∀ (a b : Int) (t1 t2 : Tok) (s : Shared) (Q : Value → Shared → Prop) (E : Value → Shared → Prop), Q (.bool (lt a b)) s → wpAny (model X.prog X.w) X.A.in1 (richCompare op (.int a t1) (.int b t2)) Q E s) (I : Inv X pins σ H s) (L : LamS1 X.env.scope scope a)
    (hf : s.heap.get? f = some (PySem.W.kla_obj "<lambda>" (X.env.qual ++ "<lambda>") params body scope (cloFrom X.env.cells scope.names []) pm c' ctv)) (hfn : H f = none) (hfr : f ∉ frs X.stack)
    (hbind : ∀ u, bindArgs (PySem.W.kla_fn "<lambda>" (X.env.qual ++ "<lambda>") params body scope (cloFrom X.env.cells scope.names []) pm (.ref c') ctv) ⟨[u], []⟩ = pure [(a, u)])
    (hr : Room (k + 2) X.A) (gr : Gr H) (hco : ∀ H', Gr H' → H' c' = some (CodeO c' (X.env.qual ++ "<lambda>"))) (hl : ∀ H', Gr H' → SqL X.K H' l xs) (ne : 0 < xs.length)
    (hbody : ∀ s H, Room k (lamCx1 X X.A.in1 X.stack s H C8.E0 scope a f c').A → PE (lamCx1 X X.A.in1 X.stack s H C8.E0 scope a f c') body tb) (ht : ∀ H', Gr H' → ∀ i x, xs[i]? = some x → tb (σ ++ [some x]) H' fun w H'' => Gr H'' ∧ w = .int (kf i))
    (hQ : ∀ H', Gr H' → ∀ x, xs[argBest (fun i j => lt (kf i) (kf j)) (xs.length - 1)]? = some x → Q x H') :
    wpAny (model X.prog X.w) X.A.in1 (pyIter (.ref l)) (fun it s₂ => ∃ I fp wr G n P St J V bt, it = .ref I ∧ WalksS X.prog X.w X.A.in1 I fp wr G n P St ∧ St 0 s₂ ∧ (∀ b ∈ fp, b < s₂.heap.objs.size) ∧ 0 < n ∧
      KeyRun X.prog X.w X.A.in1 (.ref f) op s₂.heap.objs.size wr G n P St J V bt ∧ J s₂ ∧ ∀ v s', P (argBest bt (n - 1)) v → J s' → EP X pins σ Q v s') E s := by
  obtain ⟨its, rv, pl, _⟩ := I.list (hl H gr)
  refine wpAny_pyIter_list pl.isList ?_
  have hlt : l < s.heap.objs.size := by
    obtain ⟨ol, hol, _⟩ := pl.isList
    exact Heap.lt_size hol
  have kp : ∀ b o, s.heap.get? b = some o → (s.heap.push { cls := .type "list_iterator", data := .fields #[.ref l, .int 0 0] }).get? b = some o := fun b o e => Heap.get?_push_of_some _ e
  have hS : (s.heap.push { cls := .type "list_iterator", data := .fields #[.ref l, .int 0 0] }).objs.size = s.heap.objs.size + 1 := size_push' ..
  have hh : X.A.in1.handled = none := hr.hd
  have hI : H s.heap.objs.size = none := I.hok.fresh (Nat.le_refl _)
  have hSn : H (s.heap.objs.size + 1) = none := I.hok.fresh (Nat.le_succ _)
  refine ⟨s.heap.objs.size, [s.heap.objs.size, l], [s.heap.objs.size], GEq, xs.length, _, _, fun s' => ∃ H', Gr H' ∧ Inv X pins σ H' s' ∧ H' f = none ∧ H' s.heap.objs.size = none ∧ H' (s.heap.objs.size + 1) = none ∧ s'.heap.get? f = some (PySem.W.kla_obj "<lambda>" (X.env.qual ++ "<lambda>") params body scope (cloFrom X.env.cells scope.names []) pm c' ctv),
    fun i v _ => ∃ t, v = .int (kf i) t, fun i j => lt (kf i) (kf j), rfl, walk_list hh (Nat.ne_of_lt hlt), ⟨⟨_, Heap.get?_push_size _ rfl, rfl, rfl⟩, its, rv, pl.isList.at fun o e => kp _ o e⟩, ?_, ne, ?_, ⟨H, gr, I.kept kp, hfn, hI, hSn, kp _ _ hf⟩, ?_⟩
  · intro b hb
    rw [hS]
    simp only [List.mem_cons, List.not_mem_nil, or_false] at hb
    rcases hb with rfl | rfl
    · exact Nat.lt_succ_self _
    · exact Nat.lt_succ_of_lt hlt
  · rw [hS]
    refine ⟨fun s1 s2 ⟨H1, g1, I1, n1, n2, n3, f1⟩ m => ⟨H1, g1, inv_moved I I1 (fun b hb => ?_) (fun b hb => ?_) m, n1, n2, n3, m.heap f _ (fun hb => ?_) f1⟩, fun _ _ _ _ h _ => h, fun i v s1 o Q' E' hi hP ⟨H1, g1, I1, n1, n2, n3, f1⟩ hst hSo hk => ?_, fun i j ki kj s1 Q' E' hJ h1 h2 hq => ?_⟩
    · simp only [List.mem_cons, List.not_mem_nil, or_false] at hb
      rcases hb with rfl | rfl
      · exact Nat.le_succ _
      · exact Nat.le_refl _
    · simp only [List.mem_cons, List.not_mem_nil, or_false] at hb
      rcases hb with rfl | rfl
      · exact n3
      · exact n2
    · have h1 := Heap.lt_size hf
      simp only [List.mem_cons, List.not_mem_nil, or_false] at hb
      rcases hb with rfl | rfl
      · exact Nat.lt_irrefl _ (Nat.lt_of_succ_lt h1)
      · exact Nat.lt_irrefl _ h1
    · obtain ⟨x, hx, rx⟩ := hP
      obtain ⟨oI, hoI, hoc, hod⟩ := hst.1
      refine wpAny_mono (lam_call1 (k := k) (tb := tb) I1 L f1 (hbind v) hr.in1 I1.env0.in1 (hco H1 g1) rx (hbody s1 H1 (hr.in1.deeper _)) (ht H1 g1 i x hx)) (fun r s2 hr2 => ?_) (fun _ _ e => e)
      obtain ⟨w, H', I2, rw2, ⟨g2, rfl⟩, kept⟩ := hr2
      obtain ⟨t, rfl⟩ := rw2
      obtain ⟨its2, rv2, pl2, _⟩ := I2.list (hl H' g2)
      refine hk _ s2 ⟨H', g2, I2, (kept f _ f1 n1).1, (kept _ _ hoI n2).1, (kept _ _ hSo n3).1, (kept f _ f1 n1).2 hfr⟩ ⟨⟨oI, (kept _ _ hoI n2).2 (nofr I (Nat.le_refl _)), hoc, hod⟩, its2, rv2, pl2.isList⟩ ((kept _ o hSo n3).2 (nofr I (Nat.le_succ _))) ⟨t, rfl⟩ fun _ _ h => h
    · obtain ⟨t1, rfl⟩ := h1
      obtain ⟨t2, rfl⟩ := h2
      exact hcmp _ _ _ _ _ _ _ hq
  · intro v s' hP ⟨H1, g1, I1, _⟩
    obtain ⟨x, hx, rx⟩ := hP
    exact ⟨x, H1, I1, rx, hQ H1 g1 x hx⟩
theorem cmp_lt {P : Program} {w : World} {A : Around} (a b : Int) (t1 t2 : Tok) (s : Shared) (Q : Value → Shared → Prop) (E : Value → Shared → Prop) (h : Q (.bool (decide (a < b))) s) : wpAny (model P w) A (richCompare .Lt (.int a t1) (.int b t2)) Q E s := by
  have z := CmpOf.ints_lt (prog := P) (w := w) (A := A) (P := fun i v => ∃ t, v = .int (if i = 0 then a else b) t) (fun i => if i = 0 then a else b) (fun i v h => h) 0 1 (.int a t1) (.int b t2) s Q E ⟨t1, rfl⟩ ⟨t2, rfl⟩
  exact z h
theorem cmp_gt {P : Program} {w : World} {A : Around} (a b : Int) (t1 t2 : Tok) (s : Shared) (Q : Value → Shared → Prop) (E : Value → Shared → Prop) (h : Q (.bool (decide (a > b))) s) : wpAny (model P w) A (richCompare .Gt (.int a t1) (.int b t2)) Q E s := by
  have z := CmpOf.ints_gt (prog := P) (w := w) (A := A) (P := fun i v => ∃ t, v = .int (if i = 0 then a else b) t) (fun i => if i = 0 then a else b) (fun i v h => h) 0 1 (.int a t1) (.int b t2) s Q E ⟨t1, rfl⟩ ⟨t2, rfl⟩
  exact z h
end
end DL
namespace DL
open PySem PySem.Spec PyProof.Rows L2 LamX
variable [Nm]
/-! ### a lambda is made -/
/-- the maker's table may have grown by a new code object -/
inductive Grew (H : Hp) : Hp → Prop
  | same : Grew H H
  | more {P c : Addr} {ps mo : Array Value} {q : Str} (hP : H P = some (.tbl ps)) (hc : H c = none) : Grew H (upd (upd H P (.tbl (ps ++ mo))) c (CodeO c q))
theorem Grew.kp {H H1 : Hp} (g : Grew H H1) {b : Addr} {o : HO} (h : H b = some o) (n : ∀ ps, o ≠ .tbl ps) : H1 b = some o := by
  cases g with
  | same => exact h
  | @more P c ps mo q hP hc =>
    rw [upd_ne (ne_of_none h hc), upd_ne (fun z => n ps (by rw [z, hP] at h; exact (Option.some.inj h).symm))]
    exact h
theorem Grew.tb {H H1 : Hp} (g : Grew H H1) {b : Addr} {ps : Array Value} (h : H b = some (.tbl ps)) : ∃ ps', H1 b = some (.tbl ps') := by
  cases g with
  | same => exact ⟨ps, h⟩
  | @more P c qs mo q hP hc =>
    by_cases z : b = P
    · exact ⟨qs ++ mo, by rw [upd_ne (ne_of_none h hc), z, upd_same]⟩
    · exact ⟨ps, by rw [upd_ne (ne_of_none h hc), upd_ne z]; exact h⟩
theorem Grew.still {H H1 : Hp} (g : Grew H H1) {b : Addr} {o : HO} (h : H b = some o) : Still H1 b o := by
  by_cases n : ∀ ps, o ≠ .tbl ps
  · exact .inl (g.kp h n)
  · obtain ⟨ps, e⟩ := Classical.not_forall.mp n
    have e : o = .tbl ps := Classical.byContradiction e
    subst e
    obtain ⟨ps', h'⟩ := g.tb h
    exact .inr ⟨ps, ps', rfl, h'⟩
theorem OwnAt.nt {K : Fr} {F : Addr → Prop} {H : Hp} {a : Addr} {d : D} (h : OwnAt K F H a d) : ∃ o, H a = some o ∧ ∀ ps, o ≠ .tbl ps := by
  cases d with
  | lst ds => obtain ⟨vs, h1, _⟩ := h; exact ⟨_, h1, fun ps z => by cases z⟩
  | ins C fs => obtain ⟨dx, fvs, h1, _⟩ := h; exact ⟨_, h1, fun ps z => by cases z⟩
  | _ => exact h.elim
theorem Rel.grew {K : Fr} {B : Bs} {F : Addr → Prop} {S : DS} {σ : L2.St} {H H1 : Hp} (r : Rel K B F S σ H) (g : Grew H H1) (t : AllTabs H1) : Xt σ S F H S F H1 ∧ Rel K B F S σ H1 := by
  have e : Ext F H F H1 := ⟨fun _ h => h, fun a o _ h n => g.kp h n, fun c q h => g.kp h codeO_ne⟩
  have th : ∀ b o, H b = some o → ∃ o', H1 b = some o' := fun b o h => by
    rcases g.still h with z | ⟨_, ps', _, z⟩
    · exact ⟨_, z⟩
    · exact ⟨_, z⟩
  refine ⟨⟨e, fun b o h _ => g.still h, fun _ h => h, fun a h => .inl h, th⟩, r.len, fun i s hs => ?_, r.dis, fun a h => ?_, r.f0, r.new, fun b o h m => ?_, r.own, r.par, r.onl, r.f0t, t⟩
  · obtain ⟨o, ho, hsl⟩ := r.sl i s hs
    refine ⟨o, ho, ?_⟩
    cases s with
    | un => trivial
    | fr d => obtain ⟨v, h1, h2⟩ := hsl; exact ⟨v, h1, h2.ext e⟩
    | ow p d =>
      obtain ⟨a, h1, h2, h3⟩ := hsl
      obtain ⟨u, hu, hn⟩ := h3.nt
      exact ⟨a, h1, h2, h3.ext e fun o h => g.kp h fun ps z => by rw [hu] at h; cases h; exact hn ps z⟩
  · obtain ⟨o, ho⟩ := r.trk a h
    exact th a o ho
  · rcases r.keep b o h m with z | ⟨ps, ps', z1, z2⟩
    · exact g.still z
    · obtain ⟨qs, z3⟩ := g.tb z2
      exact .inr ⟨ps, qs, z1, z3⟩
section
variable {X : Cx} {pins : List (Addr × Obj)} {σ : L2.St} {H : Hp} {s : Shared}
theorem lam_mk {c P : Addr} {params : Arguments} {body : Expr} {scope : Scope} {pos : Pos} {E : Value → Shared → Prop} {Q : Value → Shared → Prop} (I : Inv X pins σ H s) (TB : TabB X.base X.mg c P) (ec : X.env.code = .ref c) (hin : P ∈ Nm.ts) (enm : Nm.nm P = X.env.qual ++ "<lambda>") (tb : AllTabs H)
    (edf : defaultsOf params X.env = ([], [])) (fre : ∀ y ∈ scope.names, y.2 = .free → ∃ c, X.env.cells.lookup y.1 = some c)
    (want : ∀ (f c' : Addr) (pm ctv : Value) (H1 : Hp) (s' : Shared), Inv X pins σ H1 s' → Grew H H1 → AllTabs H1 → s'.heap.get? f = some (PySem.W.kla_obj "<lambda>" (X.env.qual ++ "<lambda>") params body scope (cloFrom X.env.cells scope.names []) pm c' ctv) →
      H1 f = none → f ∉ frs X.stack → H1 c' = some (CodeO c' (X.env.qual ++ "<lambda>")) → Q (.ref f) s') : wpAny (model X.prog X.w) X.A (eval (.Lambda params body scope pos) X.env) Q E s := by
  obtain ⟨ps, isP⟩ := tb.there P hin
  obtain ⟨tri, names⟩ := tb.told P ps isP
  have atP : s.heap.get? P = some (PySem.W.tabObj ps) := I.hok P _ isP
  have out : ∀ g, s.heap.objs.size ≤ g → g ∉ frs X.stack := fun g hg => nofr I hg
  apply PySem.W.kla_eval edf
  rcases hc : codeAmong pos ps.toList with _ | cv
  · apply PySem.W.kla_makeFunction (mg := X.mg) (c := c) (P := P) (ps := ps) (closure_ok fre) I.ok.glob (I.mod.glob.keeps I.bk) ec (TB.code.keeps I.bk) atP tri hc TB.gP (TB.bm.keeps I.bk)
    intro c' ctv h' tk kept above below rec newT
    obtain ⟨c2, oc, fields, t, ec2, atC, isF, isN⟩ := rec
    cases ec2
    have big : s.heap.objs.size ≤ h'.objs.size := Nat.le_trans above (Nat.le_of_lt below)
    have noC : H c' = none := I.hok.fresh above
    have g : Grew H (upd (upd H P (.tbl (ps ++ #[rawInt pos.line, rawInt pos.col, .ref c']))) c' (CodeO c' (X.env.qual ++ "<lambda>"))) := .more isP noC
    have J := inv_table (t' := tk) (more := #[rawInt pos.line, rawInt pos.col, .ref c']) (h' := h'.push (PySem.W.kla_obj "<lambda>" (X.env.qual ++ "<lambda>") params body scope (cloFrom X.env.cells scope.names []) ((X.mg "__name__").getD .none) c' ctv)) I isP
      (fun b o nb e => Heap.get?_push_of_some _ (kept b o nb e)) (Heap.get?_push_of_some _ newT) above ⟨oc, fields, t, Heap.get?_push_of_some _ atC, isF, isN⟩
    have row : (ps ++ #[rawInt pos.line, rawInt pos.col, .ref c']).toList = ps.toList ++ [rawInt pos.line, rawInt pos.col, .ref c'] := by simp
    have cd : ∀ {b : Addr} {q : Str}, H b = some (CodeO b q) → upd (upd H P (.tbl (ps ++ #[rawInt pos.line, rawInt pos.col, .ref c']))) c' (CodeO c' (X.env.qual ++ "<lambda>")) b = some (CodeO b q) := fun h => g.kp h codeO_ne
    have T1 : AllTabs (upd (upd H P (.tbl (ps ++ #[rawInt pos.line, rawInt pos.col, .ref c']))) c' (CodeO c' (X.env.qual ++ "<lambda>"))) := by
      refine ⟨fun R hR => ?_, fun R qs hR => ?_⟩
      · obtain ⟨qs, z⟩ := tb.there R hR
        exact g.tb z
      · by_cases e1 : R = c'
        · rw [e1, upd_same] at hR
          exact absurd (Option.some.inj hR) (codeO_ne qs)
        · rw [upd_ne e1] at hR
          by_cases e2 : R = P
          · subst e2
            rw [upd_same] at hR
            cases hR
            refine ⟨by rw [row]; exact PySem.TriplesOk_snoc _ _ _ _ tri, fun p' cv hcv => ?_⟩
            rw [row] at hcv
            rcases among_app _ tri hcv with z | z
            · obtain ⟨d, y1, y2⟩ := names p' cv z
              exact ⟨d, y1, cd y2⟩
            · exact ⟨c', z, by rw [enm]; exact upd_same⟩
          · rw [upd_ne e2] at hR
            obtain ⟨y1, y2⟩ := tb.told R qs hR
            refine ⟨y1, fun p' cv hcv => ?_⟩
            obtain ⟨d, y3, y4⟩ := y2 p' cv hcv
            exact ⟨d, y3, cd y4⟩
    refine want h'.objs.size c' ((X.mg "__name__").getD .none) ctv _ _ J g T1 (Heap.get?_push_size _ rfl) ?_ (out _ big) upd_same
    rw [upd_ne (Nat.ne_of_gt below), upd_ne (Nat.ne_of_gt (Nat.lt_of_lt_of_le (Heap.lt_size atP) big))]
    exact I.hok.fresh big
  · obtain ⟨c', rfl, isC⟩ := names pos cv hc
    apply PySem.W.kla_makeFunctionHit (mg := X.mg) (c := c) (P := P) (ps := ps) (closure_ok fre) I.ok.glob (I.mod.glob.keeps I.bk) ec (TB.code.keeps I.bk) atP tri hc (TB.bm.keeps I.bk)
    intro ctv h' tk kept big
    rw [enm] at isC
    exact want h'.objs.size c' ((X.mg "__name__").getD .none) ctv H _ (I.kept fun b o e => Heap.get?_push_of_some _ (kept b o e)) .same tb (Heap.get?_push_size _ rfl) (I.hok.fresh big) (out _ big) isC
end
/-! ### min(e, key=lambda a: body), max(..): the body tells ints, it changes nothing -/
/-- what the lambda tells of each -/
noncomputable def keysD (g : DS → Out) (S : DS) : List D → Option (List Int)
  | [] => some []
  | d :: ds => match g (S ++ [.fr d]) with
    | .ok (.v (.int n)) S' => open Classical in if S' = S ++ [.fr d] then (match keysD g S ds with
      | some ns => some (n :: ns)
      | none => none) else none
    | _ => none
noncomputable def bestK (lt : Int → Int → Bool) (f g : DS → Out) : DS → Out := fun S => match f S with
  | .ok (.v (.lst ds)) S1 => match keysD g S1 ds with
    | some ks => match ds[argBest (fun i j => lt (ks.getD i 0) (ks.getD j 0)) (ds.length - 1)]? with
      | some d => .ok (.v d) S1
      | none => .stuck
    | none => .stuck
  | .exc C fs S' => .exc C fs S'
  | _ => .stuck
theorem keysD_get {g : DS → Out} {S : DS} : ∀ {ds : List D} {ks : List Int} {i : Nat} {d : D}, keysD g S ds = some ks → ds[i]? = some d → g (S ++ [.fr d]) = .ok (.v (.int (ks.getD i 0))) (S ++ [.fr d])
  | [], _, _, _, _, e => by simp at e
  | d :: ds, ks, i, x, h, e => by
    unfold keysD at h
    split at h
    · rename_i n S' q
      split at h
      · rename_i eS
        cases r : keysD g S ds with
        | none => rw [r] at h; cases h
        | some ns =>
          rw [r] at h
          cases h
          cases i with
          | zero =>
            simp at e
            subst e
            rw [q, eS]
            rfl
          | succ i => exact keysD_get (i := i) r (by simpa using e)
      · cases h
    · cases h
section
variable {K : Fr} {W : WX} {B : Bs} {F F' : Addr → Prop} {H H' : Hp} {σ : L2.St} {S S' : DS} {x : V} {d : D}
theorem snoc_get {α : Type} {l : List α} {y : α} {i : Nat} {z : α} (h : (l ++ [y])[i]? = some z) : l[i]? = some z ∨ (i = l.length ∧ z = y) := by
  by_cases hi : i < l.length
  · rw [List.getElem?_append_left hi] at h
    exact .inl h
  · rw [List.getElem?_append_right (by omega)] at h
    have : i - l.length = 0 := by
      refine Classical.byContradiction fun n => ?_
      rw [List.getElem?_eq_none (by simp; omega)] at h
      cases h
    rw [this] at h
    simp at h
    exact .inr ⟨by omega, h.symm⟩
theorem get_snoc {α : Type} {l : List α} {y : α} {i : Nat} {z : α} (h : l[i]? = some z) : (l ++ [y])[i]? = some z := by
  rw [List.getElem?_append_left (List.getElem?_eq_some_iff.mp h).1]
  exact h
/-- the lambda's own slot comes -/
theorem Rel.snoc (r : Rel K B F S σ H) (a : At K F H x d) : Rel K B F (S ++ [.fr d]) (σ ++ [some x]) H := by
  have ow : ∀ {i : Nat} {p : Bool} {e : D}, (S ++ [Sl.fr d])[i]? = some (.ow p e) → S[i]? = some (.ow p e) := fun {i p e} h => by
    rcases snoc_get h with z | ⟨_, z⟩
    · exact z
    · cases z
  have at_ : ∀ {i : Nat} {b : Addr} {p : Bool} {e : D}, S[i]? = some (.ow p e) → (σ ++ [some x])[i]? = some (some (.ref b)) → σ[i]? = some (some (.ref b)) := fun {i b p e} h1 h2 => by
    have l := (List.getElem?_eq_some_iff.mp h1).1
    rw [List.getElem?_append_left (by rw [r.len]; exact l)] at h2
    exact h2
  refine ⟨by simp [r.len], fun i s hs => ?_, fun i j b p q e e' h1 h2 h3 h4 => r.dis i j b p q e e' (ow h1) (ow h2) (at_ (ow h1) h3) (at_ (ow h2) h4), r.trk, r.f0, r.new, r.keep, fun i b e h1 h2 => r.own i b e (ow h1) (at_ (ow h1) h2), fun i b h => ?_, fun i b e h1 h2 => r.onl i b e (ow h1) (at_ (ow h1) h2), r.f0t, r.tabs⟩
  · rcases snoc_get hs with z | ⟨z1, z2⟩
    · obtain ⟨o, ho, hsl⟩ := r.sl i s z
      exact ⟨o, get_snoc ho, hsl⟩
    · subst z2
      refine ⟨some x, ?_, x, rfl, a⟩
      rw [z1, ← r.len, List.getElem?_append_right (Nat.le_refl _), Nat.sub_self]
      rfl
  · obtain ⟨h1, e, h2⟩ := r.par i b h
    exact ⟨get_snoc h1, e, get_snoc h2⟩
/-- .. and goes -/
theorem Rel.init (hl : σ.length = S.length) (r : Rel K B F (S ++ [.fr d]) (σ ++ [some x]) H) : Rel K B F S σ H := by
  have up : ∀ {i : Nat} {s : Sl}, S[i]? = some s → (S ++ [Sl.fr d])[i]? = some s := get_snoc
  have dn : ∀ {i : Nat} {s : Sl} {o : Option V}, S[i]? = some s → (σ ++ [some x])[i]? = some o → σ[i]? = some o := fun {i s o} h1 h2 => by
    have l := (List.getElem?_eq_some_iff.mp h1).1
    rw [List.getElem?_append_left (by rw [hl]; exact l)] at h2
    exact h2
  refine ⟨hl, fun i s hs => ?_, fun i j b p q e e' h1 h2 h3 h4 => r.dis i j b p q e e' (up h1) (up h2) (get_snoc h3) (get_snoc h4), r.trk, r.f0, r.new, r.keep, fun i b e h1 h2 => r.own i b e (up h1) (get_snoc h2), fun i b h => ?_, fun i b e h1 h2 => r.onl i b e (up h1) (get_snoc h2), r.f0t, r.tabs⟩
  · obtain ⟨o, ho, hsl⟩ := r.sl i s (up hs)
    exact ⟨o, dn hs ho, hsl⟩
  · obtain ⟨h1, e, h2⟩ := r.par i b h
    rcases snoc_get h2 with z | ⟨_, z⟩
    · exact ⟨dn z h1, e, z⟩
    · cases z
theorem Xt.init (hl : σ.length = S.length) (x2 : Xt (σ ++ [some x]) (S ++ [.fr d]) F H (S ++ [.fr d]) F' H') : Xt σ S F H S F' H' := by
  have no : ∀ b, NotOwn S σ b → NotOwn (S ++ [.fr d]) (σ ++ [some x]) b := fun b n i p e h z => by
    rcases snoc_get h with y | ⟨_, y⟩
    · refine n i p e y ?_
      rw [List.getElem?_append_left (by rw [hl]; exact (List.getElem?_eq_some_iff.mp y).1)] at z
      exact z
    · cases y
  exact ⟨x2.toExt, fun b o h n => x2.rest b o h (no b n), fun _ h => h, x2.new, x2.there⟩
theorem Rel.noCode (r : Rel K B F S σ H) {c : Addr} {q : Str} (h : H c = some (CodeO c q)) : NotOwn S σ c := fun i p e hs z => by
  obtain ⟨o, ho, a, h2, _, h3⟩ := r.sl i _ hs
  rw [z] at ho
  cases ho
  cases h2
  cases e with
  | lst ds =>
    obtain ⟨vs, h4, _⟩ := h3
    rw [h] at h4
    unfold CodeO at h4
    cases h4
  | ins C fs =>
    obtain ⟨dx, fvs, h4, _⟩ := h3
    rw [h] at h4
    unfold CodeO at h4
    cases h4
  | _ => exact h3.elim
end
section
variable {X : Cx} {W : WX} {f g : DS → Out} {e : Expr}
theorem best_ok {nm : Str} {bn : String} {op : CmpOp} {lt : Int → Int → Bool} {c P : Addr} {a : Str} {params : Arguments} {body : Expr} {scope : Scope} {k : Nat} {p lpos kpos pos : Pos}
    (hcall : ∀ (x : Value) (q : Addr) (Q E : Value → Shared → Prop) (s : Shared), wpAny (model X.prog X.w) X.A.in1 (pyIter x) (fun it s₂ => ∃ I fp wr G n P St J V bt, it = .ref I ∧ WalksS X.prog X.w X.A.in1 I fp wr G n P St ∧ St 0 s₂ ∧ (∀ b ∈ fp, b < s₂.heap.objs.size) ∧ 0 < n ∧
      KeyRun X.prog X.w X.A.in1 (.ref q) op s₂.heap.objs.size wr G n P St J V bt ∧ J s₂ ∧ ∀ v s', P (argBest bt (n - 1)) v → J s' → Q v s') E s → wpAny (model X.prog X.w) X.A (call (.builtin bn) [x] [(Str.ofString "key", .ref q)]) Q E s)
    (hcmp : ∀ (a b : Int) (t1 t2 : Tok) (s : Shared) (Q : Value → Shared → Prop) (E : Value → Shared → Prop), Q (.bool (lt a b)) s → wpAny (model X.prog X.w) X.A.in1 (richCompare op (.int a t1) (.int b t2)) Q E s)
    (hld : ∀ {pins : List (Addr × Obj)} {σ : L2.St} {H : Hp} {s : Shared} {Q E : Value → Shared → Prop}, Inv X pins σ H s → Q (.builtin bn) s → wpAny (model X.prog X.w) X.A (eval (.Name nm p) X.env) Q E s)
    (he : EV X W e f) (TB : TabB X.base X.mg c P) (hcode : X.env.code = .ref c) (hin : P ∈ Nm.ts) (enm : Nm.nm P = X.env.qual ++ "<lambda>") (L : LamS1 X.env.scope scope a) (hdef : defaultsOf params X.env = ([], []))
    (hbind : ∀ (q : Str) (cl : List (Str × Addr)) (pm cv ctv u : Value), bindArgs (PySem.W.kla_fn "<lambda>" q params body scope cl pm cv ctv) ⟨[u], []⟩ = pure [(a, u)]) (hr : Room (k + 2) X.A)
    (hbody : ∀ (s : Shared) (H : Hp) (f c' : Addr), Room k (lamCx1 X X.A.in1 X.stack s H C8.E0 scope a f c').A → EV (lamCx1 X X.A.in1 X.stack s H C8.E0 scope a f c') (fun _ _ _ _ => False) body g)
    (h1 : backTo pos (starEach [e] X.env) = (false, eval e X.env) :: backTo pos (starEach [] X.env) := by rfl) (hpl : (backTo pos (starEach [e] X.env)).any (·.1) = false := by rfl) :
    EV X W (.Call (.Name nm p) [e] [⟨some (Str.ofString "key"), .Lambda params body scope lpos, kpos⟩] pos) (bestK lt f g) := by
  refine ⟨⟨fun pins s σ H Q I ⟨B, F, S, rel, q⟩ => ?_⟩⟩
  refine wpAny_Call_Name_kw (hld I ?_)
  refine PyProof.Rows.callWith_kw ?_ h1 hpl (by rfl) (by rfl)
  rw [h1]
  obtain ⟨B1, F0, S0, rel0, q0⟩ : tE X.K W f σ H (fun v H1 => ∃ F1 S1 ds d, Xt σ S F H S1 F1 H1 ∧ Rel X.K B F1 S1 σ H1 ∧ At X.K F1 H1 v (.lst ds) ∧ PoOk X.K B S1 F1 H1 σ Q (.v d) S1 ∧ ∃ ks, keysD g S1 ds = some ks ∧ ds[argBest (fun i j => lt (ks.getD i 0) (ks.getD j 0)) (ds.length - 1)]? = some d) := by
    refine ⟨B, F, S, rel, ?_⟩
    unfold bestK at q
    cases ef : f S with
    | stuck => rw [ef] at q; exact q
    | exc C fs S' => rw [ef] at q; exact q
    | ok r S1 =>
      rw [ef] at q
      intro v H1 F1 x1 rel1 rv1
      match r, rv1, q with
      | .v (.lst ds), rv1, q =>
        dsimp only at q
        cases ek : keysD g S1 ds with
        | none => rw [ek] at q; exact q.elim
        | some ks =>
          rw [ek] at q
          dsimp only at q
          cases ed : ds[argBest (fun i j => lt (ks.getD i 0) (ks.getD j 0)) (ds.length - 1)]? with
          | none => rw [ed] at q; exact q.elim
          | some d =>
            rw [ed] at q
            exact ⟨F1, S1, ds, d, x1, rel1, rv1, PoOk.ext x1 q, ks, ek, ed⟩
  refine Calls.spliced_cons (thn (he.pe.run pins s σ H _ I ⟨B1, F0, S0, rel0, q0⟩) fun u s1 ⟨v, H1, I1, r1, F1, S1, ds, d, x1, rel1, at1, qd, ks, ek, ed⟩ => ?_)
  obtain ⟨l, vs, rfl, hl1, ats1⟩ := at1.lstI
  obtain rfl : u = Value.ref l := r1
  refine Calls.spliced_nil ?_
  show wpAny _ _ (evalAll ((do let v ← eval (.Lambda params body scope lpos) X.env; standAt pos; pure v) :: [])) _ _ s1
  refine wpAny_evalAll_cons (wpAny_bind (lam_mk I1 TB hcode hin enm rel1.tabs hdef (L.has I1.ok) fun fa c' pm' ctv H2 s2 I2 gr T2 hf hfn hfr hco => wpAny_bind (wpAny_standAt (wpAny_pure ?_))))
  refine wpAny_evalAll_nil ?_
  obtain ⟨x2, rel2⟩ := rel1.grew gr T2
  have lv : vs.length = ds.length := ats1.length
  have ne : 0 < vs.length := by
    rw [lv]
    have := (List.getElem?_eq_some_iff.mp ed).1
    omega
  have fl : F1 l := by
    cases at1 with
    | lst f1 _ _ => exact f1
  refine hcall _ _ _ _ _ (lam_walk (k := k) (tb := tE X.K (fun _ _ _ _ => False) g) (Gr := fun H' => ∃ F', Xt σ S1 F1 H1 S1 F' H' ∧ Rel X.K B F' S1 σ H' ∧ H' c' = some (CodeO c' (X.env.qual ++ "<lambda>"))) (kf := fun i => ks.getD i 0) (xs := vs) hcmp I2 L hf hfn hfr (hbind _ _ _ _ _) hr ⟨F1, x2, rel2, hco⟩ (fun H' ⟨_, _, _, z⟩ => z) (fun H' ⟨F', x', _, _⟩ => .inl (.inl (x'.kp fl hl1))) ne (fun s H hr' => (hbody s H fa c' hr').pe) (fun H' ⟨F', x', rel', hc'⟩ i x hx => ?_) (fun H' ⟨F', x', rel', hc'⟩ x hx => ?_))
  · obtain ⟨di, hd, ai⟩ := (ats1.ext x'.toExt).get hx
    refine ⟨B, F', S1 ++ [.fr di], rel'.snoc ai, ?_⟩
    rw [keysD_get ek hd]
    intro y H'' F'' x'' rel'' rv''
    have x3 := x''.init rel'.len
    refine ⟨⟨F'', x'.trans x3, rel''.init rel'.len, ?_⟩, At.intI rv''⟩
    rcases x3.rest c' _ hc' (rel'.noCode hc') with z | ⟨ps, _, z, _⟩
    · exact z
    · exact absurd z (codeO_ne ps)
  · have hi := (List.getElem?_eq_some_iff.mp hx).1
    rw [lv] at hx
    obtain ⟨dd, hd, ad⟩ := (ats1.ext x'.toExt).get hx
    rw [ed] at hd
    cases hd
    exact qd x H' F' x' rel' ad
theorem ev_minK {c P : Addr} {a : Str} {params : Arguments} {body : Expr} {scope : Scope} {k : Nat} {p lpos kpos pos : Pos} (hr : Room (k + 2) X.A) (hg : Gl X "min") (hm : X.mg "min" = none)
    (TB : TabB X.base X.mg c P) (hcode : X.env.code = .ref c) (hin : P ∈ Nm.ts) (enm : Nm.nm P = X.env.qual ++ "<lambda>") (L : LamS1 X.env.scope scope a) (he : EV X W e f)
    (hbody : ∀ (s : Shared) (H : Hp) (f c' : Addr), Room k (lamCx1 X X.A.in1 X.stack s H C8.E0 scope a f c').A → EV (lamCx1 X X.A.in1 X.stack s H C8.E0 scope a f c') (fun _ _ _ _ => False) body g)
    (hdef : defaultsOf params X.env = ([], []) := by rfl)
    (hbind : ∀ (q : Str) (cl : List (Str × Addr)) (pm cv ctv u : Value), bindArgs (PySem.W.kla_fn "<lambda>" q params body scope cl pm cv ctv) ⟨[u], []⟩ = pure [(a, u)] := by exact fun _ _ _ _ _ _ => rfl)
    (h1 : backTo pos (starEach [e] X.env) = (false, eval e X.env) :: backTo pos (starEach [] X.env) := by rfl) (hpl : (backTo pos (starEach [e] X.env)).any (·.1) = false := by rfl) :
    EV X W (.Call (.Name "min" p) [e] [⟨some (Str.ofString "key"), .Lambda params body scope lpos, kpos⟩] pos) (bestK (fun a b => decide (a < b)) f g) :=
  best_ok (bn := "min") (fun x q Q E s h => call_min_walkK h) cmp_lt (fun I q => ld_blt I hg hm (by rfl) q (by decide) (by decide)) he TB hcode hin enm L hdef hbind hr hbody h1 hpl
theorem ev_maxK {c P : Addr} {a : Str} {params : Arguments} {body : Expr} {scope : Scope} {k : Nat} {p lpos kpos pos : Pos} (hr : Room (k + 2) X.A) (hg : Gl X "max") (hm : X.mg "max" = none)
    (TB : TabB X.base X.mg c P) (hcode : X.env.code = .ref c) (hin : P ∈ Nm.ts) (enm : Nm.nm P = X.env.qual ++ "<lambda>") (L : LamS1 X.env.scope scope a) (he : EV X W e f)
    (hbody : ∀ (s : Shared) (H : Hp) (f c' : Addr), Room k (lamCx1 X X.A.in1 X.stack s H C8.E0 scope a f c').A → EV (lamCx1 X X.A.in1 X.stack s H C8.E0 scope a f c') (fun _ _ _ _ => False) body g)
    (hdef : defaultsOf params X.env = ([], []) := by rfl)
    (hbind : ∀ (q : Str) (cl : List (Str × Addr)) (pm cv ctv u : Value), bindArgs (PySem.W.kla_fn "<lambda>" q params body scope cl pm cv ctv) ⟨[u], []⟩ = pure [(a, u)] := by exact fun _ _ _ _ _ _ => rfl)
    (h1 : backTo pos (starEach [e] X.env) = (false, eval e X.env) :: backTo pos (starEach [] X.env) := by rfl) (hpl : (backTo pos (starEach [e] X.env)).any (·.1) = false := by rfl) :
    EV X W (.Call (.Name "max" p) [e] [⟨some (Str.ofString "key"), .Lambda params body scope lpos, kpos⟩] pos) (bestK (fun a b => decide (a > b)) f g) :=
  best_ok (bn := "max") (fun x q Q E s h => call_max_walkK h) cmp_gt (fun I q => ld_blt I hg hm (by rfl) q (by decide) (by decide)) he TB hcode hin enm L hdef hbind hr hbody h1 hpl
end
end DL
namespace DL
open PySem PySem.Spec PyProof.Rows L2 LamX
variable [Nm]
/-! ### defs that make lambdas: where their code stands -/
section
variable {P : Program} {w : World} {K : Fr} {mg : Str → Option Value} {base : Heap}
theorem fn_Dc {x qual : Str} {st : Stmt} {f cd : Addr} {fd : FuncData} {N ps : List Str} {k : Nat} {g : DS → Fl} (D : Fun K x qual st f fd) (hc : fd.code = .ref cd) (S : FnScope N ps (defScope st))
    (body : ∀ (A : Around) (outer : List Env) (s : Shared) (H : Hp) (E : XK), Room k (A.deeper (envOfC qual (defScope st) s.heap.objs.size f (.ref cd))) → A.guards = some [] →
      SVs (cxOf (L2.CX P w) P w K mg base N qual (defScope st) f (.ref cd) A outer s H E) (fun cls d _ H' => E cls d H') (defBody st) g)
    (hl : ps.length ≤ N.length := by decide) : FnG P w K mg base (L2.CX P w) (k + 1) f fd ps (spD K ps.length (runD ps.length N.length g)) := by
  refine fnG_of D S (fun vs H Q E ⟨F, args, h1, A, _⟩ => by rw [A.len, h1]) fun cdv ec A outer s H vs Q E hr gd ⟨F, args, hn, Ar, p⟩ => ?_
  obtain rfl : cdv = .ref cd := ec.symm.trans hc
  exact ⟨_, (body A outer s H E hr gd).ps, body_end hl hn Ar p⟩
theorem fn_Oc {x qual : Str} {st : Stmt} {f cd : Addr} {fd : FuncData} {N ps : List Str} {k : Nat} {g : DS → Fl} (D : Fun K x qual st f fd) (hc : fd.code = .ref cd) (S : FnScope N ps (defScope st))
    (body : ∀ (A : Around) (outer : List Env) (s : Shared) (H : Hp) (E : XK), Room k (A.deeper (envOfC qual (defScope st) s.heap.objs.size f (.ref cd))) →
      SVs (cxOf (L2.CX P w) P w K mg base N qual (defScope st) f (.ref cd) A outer s H E) (fun cls d _ H' => E cls d H') (defBody st) g)
    (hl : ps.length ≤ N.length := by decide) : FnOk P w K mg base (L2.CX P w) (k + 1) f fd ps (spD K ps.length (runD ps.length N.length g)) := by
  obtain ⟨oc, od, kV, doc, pm, an, cdv, ct, osl, e, lk, ci⟩ := D.ex
  subst e
  obtain rfl : cdv = .ref cd := hc
  exact fn_of lk ci S (fun vs H Q E ⟨F, args, h1, A, _⟩ => by rw [A.len, h1]) fun A outer s H vs Q E hr ⟨F, args, hn, Ar, p⟩ => ⟨_, (body A outer s H E hr).ps, body_end hl hn Ar p⟩
/-- the def x of the text stands under its name, its code at c -/
def DefInC (K : Fr) (mg : Str → Option Value) (x : Str) (st : Stmt) (ps : List Str) (c : Addr) : Prop := ∃ f fd, Fun K x x st f fd ∧ mg x = some (.ref f) ∧ Binds K fd ps [] ∧ fd.code = .ref c
theorem DefInC.mk {h : Heap} {x : Str} {st : Stmt} {ps : List Str} {f cd : Addr} {oc : Value} {od an : Option Addr} {osl : Array (Option Value)} {kV doc pm ct : Value} (X : K.In h) (G : h.Ns mainGlobals mg) (a : PySem.W.nsIn K mainGlobals x = some (some (.ref f)))
    (l : K.lookup f = some ⟨oc, od, .func (PySem.W.fnOf x x (defArgs st) (defBody st) (defScope st) .none kV doc pm an (.ref cd) ct), osl⟩) (c : PySem.W.codeIn K (.ref cd) x = true) (k : PySem.W.keepIn K (.ref f) = true)
    (b : ∀ (kV doc pm : Value) (an : Option Addr) (cdv ct : Value) (us : List Value), us.length = ps.length → bindArgs (PySem.W.fnOf x x (defArgs st) (defBody st) (defScope st) .none kV doc pm an cdv ct) ⟨us, []⟩ = pure (ps.zip us)) : DefInC K mg x st ps cd :=
  ⟨f, _, fun_mk l c k, PySem.W.mg_of X G a, (fun_mk l c k).binds b, rfl⟩
theorem DefInC.ok {x : Str} {st : Stmt} {ps : List Str} {c : Addr} {k : Nat} {m : List Sl → Fo} (D : DefInC K mg x st ps c)
    (h : ∀ f fd, Fun K x x st f fd → fd.code = .ref c → FnG P w K mg base (L2.CX P w) k f fd ps (spD K ps.length m)) : DefOk P w K mg base x k ps m := by
  obtain ⟨f, fd, F, h1, h2, h3⟩ := D
  exact ⟨f, fd, h f fd F h3, h1, F.kp, h2⟩
theorem DefInC.o {x : Str} {st : Stmt} {ps : List Str} {c : Addr} {k : Nat} {m : List Sl → Fo} (D : DefInC K mg x st ps c)
    (h : ∀ f fd, Fun K x x st f fd → fd.code = .ref c → FnOk P w K mg base (L2.CX P w) k f fd ps (spD K ps.length m)) : DefO P w K mg base x k ps m := by
  obtain ⟨f, fd, F, h1, h2, h3⟩ := D
  exact ⟨f, fd, h f fd F h3, h1, F.kp, h2⟩
theorem DefInC.k {x : Str} {st : Stmt} {ps ks : List Str} {is : List Nat} {c : Addr} {k : Nat} {m : List Sl → Fo} (D : DefInC K mg x st ps c) (hl : ks.length = is.length)
    (b : ∀ (kV doc pm : Value) (an : Option Addr) (cdv ct : Value) (ws : List Value), ws.length = ks.length → bindArgs (PySem.W.fnOf x x (defArgs st) (defBody st) (defScope st) .none kV doc pm an cdv ct) ⟨[], ks.zip ws⟩ = pure (ps.zip (permL is ws)))
    (h : ∀ f fd, Fun K x x st f fd → fd.code = .ref c → FnOk P w K mg base (L2.CX P w) k f fd ps (spD K ps.length m)) : DefOK P w K mg base x k ps ks is m := by
  obtain ⟨f, fd, F, h1, h2, h3⟩ := D
  refine ⟨f, fd, h f fd F h3, h1, F.kp, hl, ?_⟩
  obtain ⟨oc, od, kV, doc, pm, an, cdv, ct, osl, rfl, lk, hcd⟩ := F.ex
  exact fun s ws _ l2 => .of_eq (b kV doc pm an cdv ct ws l2)
/-- the table of the lambdas of the def whose code stands at c -/
structure LamIn (mg : Str → Option Value) (base : Heap) (c P : Addr) (q : Str) : Prop where
  tb : TabB base mg c P
  has : P ∈ Nm.ts
  nm : Nm.nm P = q
end
end DL
namespace DL
open PySem PySem.Spec PyProof.Rows L2 LamX
variable [Nm]
/-! ### list.index of flat values -/
def flD : D → Option V
  | .non => some .non
  | .bl b => some (.bl b)
  | .int i => some (.int i)
  | .str x => some (.str x)
  | _ => none
def flsD : List D → Option (List V)
  | [] => some []
  | d :: ds => match flD d, flsD ds with
    | some v, some vs => some (v :: vs)
    | _, _ => none
section
variable {K : Fr} {F : Addr → Prop} {H : Hp}
theorem At.fl {x v : V} {d : D} (h : At K F H x d) (e : flD d = some v) : x = v ∧ flatV v = true := by
  cases d with
  | non => cases e; exact ⟨h.nonI, rfl⟩
  | bl b => cases e; exact ⟨h.blI, rfl⟩
  | int i => cases e; exact ⟨h.intI, rfl⟩
  | str z => cases e; exact ⟨h.strI, rfl⟩
  | _ => cases e
theorem Ats.fl : ∀ {xs vs : List V} {ds : List D}, Ats K F H xs ds → flsD ds = some vs → xs = vs ∧ vs.all flatV = true
  | _, _, _, .nil, e => by cases e; exact ⟨rfl, rfl⟩
  | _, _, _, .cons h t, e => by
    unfold flsD at e
    split at e
    · rename_i v vs e1 e2
      cases e
      obtain ⟨h1, h2⟩ := h.fl e1
      obtain ⟨h3, h4⟩ := Ats.fl t e2
      subst h1 h3
      exact ⟨rfl, by simp [h2, h4]⟩
    · cases e
end
def lixD : D → List D → Option R
  | .lst ds, [d] => match flsD ds, flD d with
    | some vs, some v => match vs.findIdx? (fun z => eqV z v) with
      | some j => some (.v (.int (j : Int)))
      | none => none
    | _, _ => none
  | _, _ => none
theorem lixD_ok {K : Fr} : MeD K (rIndex K) lixD := by
  intro B F S σ H x xs a ds rr Q rel hx hxs e p
  unfold lixD at e
  split at e
  · rename_i es d
    split at e
    · rename_i vs v e1 e2
      split at e
      · rename_i j hj
        cases e
        obtain ⟨b, ws, rfl, h1, t⟩ := hx.lst
        match hxs with
        | .cons h2 .nil =>
          obtain ⟨rfl, fv⟩ := At.fl (h2.elim (fun z => z) fun ⟨a', _, o⟩ => by
            cases d with
            | lst _ => cases e2
            | ins _ _ => cases e2
            | _ => exact o.elim) e2
          obtain ⟨rfl, fvs⟩ := t.fl e1
          rw [List.findIdx?_eq_some_iff_getElem] at hj
          obtain ⟨hl, hz, hno⟩ := hj
          exact ⟨b, ws, _, j, ws[j], rfl, rfl, .inl (.inl h1), fv, fvs, List.getElem?_eq_getElem hl, hz, fun m z' hm hz' => by
            have lm : m < ws.length := Nat.lt_trans hm hl
            rw [List.getElem?_eq_getElem lm] at hz'
            cases hz'
            simpa using hno m hm, p.val rel (.int _)⟩
      · cases e
    · cases e
  · cases e
section
variable {X : Cx} {W : WX} {f : DS → Out} {ga : DS → AOut} {e : Expr} {es : List Expr}
theorem ev_lix {o : Expr} {apos cpos : Pos} (ho : EV X W o f) (ha : AV X W (e :: es) ga) (hbase : attributeBase o "index" X.env (eval o X.env) = eval o X.env := by rfl)
    (few : ((backTo cpos (starEach (e :: es) X.env)).all (fun z => !z.1) && (backToKw cpos (keywordEach [] X.env)).all (fun z => z.1.isSome) && decide ((e :: es).length + ([] : List Keyword).length + (if ([] : List Keyword).isEmpty then 0 else 1) < 30)) = true := by rfl) (hline : (apos.endLine == cpos.line) = true := by rfl) (hs : starEach (e :: es) X.env = (false, eval e X.env) :: starEach es X.env := by rfl) (hplain : (backTo cpos (starEach es X.env)).any (·.1) = false := by rfl) :
    EV X W (.Call (.Attribute o "index" apos) (e :: es) [] cpos) (bmD "list" lixD f ga) := ev_bm PySem.F.plainAttrs_list PySem.F.slot_list_index PySem.F.type_list_index mt_index lixD_ok ho ha hbase few hline hs hplain
end
end DL
namespace DL
open PySem PySem.Spec PyProof.Rows L2 LamX
/-! ### a mirror run, step by step: each construct's equation -/
section
variable {S S1 S2 S3 S4 : DS} {f g h : DS → Out} {ga gb : DS → AOut} {r ra rb : R} {rs : List R} {a b d e : D} {ds : List D} {i j n : Nat} {p : Bool} {o : D → D → Option R} {oL : List D → Option R} {m : List Sl → Fo} {args as : List Sl} {C : Addr} {fs gs : List (Str × D)}
theorem x_cst : cst d S = .ok (.v d) S := rfl
theorem x_var (h : S[i]? = some (.fr d)) : var i S = .ok (.v d) S := by
  unfold var
  rw [h]
theorem x_bw (h : S[i]? = some (.ow p d)) : var i S = .ok (.bw i) S := by
  unfold var
  rw [h]
def fzR : R → R
  | .ow d => .v d
  | r => r
theorem x_fz (h : f S = .ok r S1) (e : fzR r = ra) : fz f S = .ok ra S1 := by
  subst e
  unfold fz
  rw [h]
  cases r <;> rfl
theorem x_wk (h : f S = .ok (.v d) S1) (e : unx d = a) : wk f S = .ok (.v a) S1 := by
  subst e
  unfold wk
  rw [h]
theorem x_bin (h1 : f S = .ok ra S1) (h2 : g S1 = .ok rb S2) (h3 : ra.get S2 = some a) (h4 : rb.get S2 = some b) (h5 : o a b = some r) : bin o f g S = .ok r S2 := by
  simp only [bin, bnd, h1, h2, lift2, h3, h4, h5]
theorem x_anil : aNil S = .ok [] S := rfl
theorem x_acons (h1 : f S = .ok r S1) (h2 : ga S1 = .ok rs S2) : aCons f ga S = .ok (r :: rs) S2 := by
  simp only [aCons, h1, h2]
theorem x_lift (h1 : ga S = .ok rs S1) (h2 : gets S1 rs = some ds) (h3 : oL ds = some r) : liftL oL ga S = .ok r S1 := by
  simp only [liftL, h1, h2, h3]
theorem x_lst (h1 : ga S = .ok rs S1) (h2 : vals rs = some ds) (h3 : ds.length ≤ sizeLine) : lstD ga S = .ok (.ow (.lst ds)) S1 := by
  simp only [lstD, h1, h2, if_pos h3]
theorem x_tup (h1 : ga S = .ok rs S1) (h2 : vals rs = some ds) (h3 : ds.length ≤ sizeLine) : tupD ga S = .ok (.v (.tup ds)) S1 := by
  simp only [tupD, h1, h2, if_pos h3]
theorem x_not {q : Bool} (h : f S = .ok (.v (.bl q)) S1) : notD f S = .ok (.v (.bl (!q))) S1 := by
  simp only [notD, bnd, h]
theorem x_andT {q : Bool} (h : f S = .ok (.v (.bl q)) S1) (e : q = true) (h2 : g S1 = .ok r S2) : andD f g S = .ok r S2 := by
  subst e
  simp only [andD, bnd, h, h2]
theorem x_andF {q : Bool} (h : f S = .ok (.v (.bl q)) S1) (e : q = false) : andD f g S = .ok (.v (.bl false)) S1 := by
  subst e
  simp only [andD, bnd, h]
/-- both parts reckoned, the second in the same state -/
theorem x_and {q q' : Bool} (h : f S = .ok (.v (.bl q)) S1) (h2 : g S1 = .ok (.v (.bl q')) S1) : andD f g S = .ok (.v (.bl (q && q'))) S1 := by
  cases q
  · exact x_andF h rfl
  · rw [Bool.true_and]
    exact x_andT h rfl h2
theorem x_orT {q : Bool} (h : f S = .ok (.v (.bl q)) S1) (e : q = true) : orD f g S = .ok (.v (.bl true)) S1 := by
  subst e
  simp only [orD, bnd, h]
theorem x_orF {q : Bool} (h : f S = .ok (.v (.bl q)) S1) (e : q = false) (h2 : g S1 = .ok r S2) : orD f g S = .ok r S2 := by
  subst e
  simp only [orD, bnd, h, h2]
theorem x_or {q q' : Bool} (h : f S = .ok (.v (.bl q)) S1) (h2 : g S1 = .ok (.v (.bl q')) S1) : orD f g S = .ok (.v (.bl (q || q'))) S1 := by
  cases q
  · rw [Bool.false_or]
    exact x_orF h rfl h2
  · exact x_orT h rfl
theorem x_iteT {q : Bool} (h0 : f S = .ok (.v (.bl q)) S1) (e : q = true) (h2 : g S1 = .ok r S2) : iteD f g h S = .ok r S2 := by
  subst e
  simp only [iteD, bnd, h0, h2]
theorem x_iteF {q : Bool} (h0 : f S = .ok (.v (.bl q)) S1) (e : q = false) (h2 : h S1 = .ok r S2) : iteD f g h S = .ok r S2 := by
  subst e
  simp only [iteD, bnd, h0, h2]
theorem x_tru (h0 : f S = .ok r S1) (h1 : truD (fun S => .ok r S) S1 = .ok rb S2) : truD f S = .ok rb S2 := by
  rw [← h1]
  simp only [truD, bnd, h0]
/-- calls -/
def notBw : R → Bool
  | .bw _ => false
  | _ => true
theorem x_callS (h1 : (bws rs).Nodup) (h2 : toArgs S rs = some args) (h3 : args.length = n) (h4 : m args = .ret r as) (h5 : notBw r = true) (h6 : backS S rs as = S1) : callS n m rs S = .ok r S1 := by
  cases r with
  | bw _ => cases h5
  | v d => simp only [callS, if_pos h1, h2, if_pos h3, h4, h6]
  | ow d => simp only [callS, if_pos h1, h2, if_pos h3, h4, h6]
theorem backS_nb (h : bws rs = []) : backS S rs as = S := by
  have key : ∀ (rs : List R) (as : List Sl) (i : Nat), bws rs = [] → findA i rs as = none := by
    intro rs
    induction rs with
    | nil => intro as i _; cases as <;> rfl
    | cons r rs ih =>
      intro as i h
      cases r with
      | bw k => cases h
      | v d => cases as with
        | nil => rfl
        | cons a as => exact ih as i h
      | ow d => cases as with
        | nil => rfl
        | cons a as => exact ih as i h
  unfold backS
  apply List.ext_getElem?
  intro j
  rw [List.getElem?_mapIdx]
  cases q : S[j]? with
  | none => rfl
  | some s =>
    rw [Option.map_some, key rs as j h]
    cases s <;> rfl
theorem backS_0 {q : Bool} {T : DS} (h : bws rs = []) : backS (.ow p d :: T) (.bw 0 :: rs) (.ow q e :: as) = .ow p e :: T := by
  have key : ∀ (rs : List R) (as : List Sl) (i : Nat), bws rs = [] → findA i rs as = none := by
    intro rs
    induction rs with
    | nil => intro as i _; cases as <;> rfl
    | cons r rs ih =>
      intro as i h
      cases r with
      | bw k => cases h
      | v d => cases as with
        | nil => rfl
        | cons a as => exact ih as i h
      | ow d => cases as with
        | nil => rfl
        | cons a as => exact ih as i h
  unfold backS
  apply List.ext_getElem?
  intro j
  rw [List.getElem?_mapIdx]
  cases j with
  | zero => rfl
  | succ j =>
    rw [List.getElem?_cons_succ, List.getElem?_cons_succ]
    cases w : T[j]? with
    | none => rfl
    | some s =>
      rw [Option.map_some]
      have z : findA (j + 1) (.bw 0 :: rs) (.ow q e :: as) = none := by
        unfold findA
        rw [if_neg (Nat.succ_ne_zero j)]
        exact key rs as _ h
      rw [z]
      cases s <;> rfl
theorem x_call (h0 : ga S = .ok rs S1) (h1 : (bws rs).Nodup) (h2 : toArgs S1 rs = some args) (h3 : args.length = n) (h4 : m args = .ret r as) (h5 : notBw r = true) (h6 : backS S1 rs as = S2) : callD n m ga S = .ok r S2 := by
  have := x_callS h1 h2 h3 h4 h5 h6
  simp only [callD, h0, this]
theorem x_callK {is : List Nat} (h0 : ga S = .ok rs S1) (hl : rs.length = is.length) (h1 : (bws (permL is rs)).Nodup) (h2 : toArgs S1 (permL is rs) = some args) (h3 : args.length = n) (h4 : m args = .ret r as) (h5 : notBw r = true) (h6 : backS S1 (permL is rs) as = S2) : callK is n m ga S = .ok r S2 := by
  have := x_callS h1 h2 h3 h4 h5 h6
  simp only [callK, h0, if_pos hl, this]
theorem x_callF (h0 : f S = .ok (.ow d) S1) (h4 : m [.ow true d] = .ret (.v e) as) : callF m f S = .ok (.v e) S1 := by
  simp only [callF, h0, h4]
theorem x_prop (h0 : f S = .ok (.v (.ins C fs)) S1) (h4 : m [.fr (.ins C fs)] = .ret r as) (h5 : notBw r = true) : propD C m f S = .ok r S1 := by
  have z : callS 1 m [.v (.ins C fs)] S1 = .ok r S1 := x_callS (n := 1) (args := [.fr (.ins C fs)]) List.nodup_nil rfl rfl h4 h5 (backS_nb rfl)
  have i : isIns C S1 (.v (.ins C fs)) = true := by simp [isIns, R.get]
  simp only [propD, bnd, h0, i, if_true, z, noExc]
theorem x_ownB {T : D → Bool} (h0 : f S = .ok (.v (.ins C fs)) S1) (h4 : m [.fr (.ins C fs)] = .ret (.v d) as) (h5 : T d = true) : ownB C m T f S = .ok (.v d) S1 := by
  have z : callS 1 m [.v (.ins C fs)] S1 = .ok (.v d) S1 := x_callS (n := 1) (args := [.fr (.ins C fs)]) List.nodup_nil rfl rfl h4 rfl (backS_nb rfl)
  have i : isIns C S1 (.v (.ins C fs)) = true := by simp [isIns, R.get]
  simp only [ownB, bnd, h0, i, if_true, z, h5]
theorem x_inI {ng q : Bool} (h0 : f S = .ok (.v a) S1) (h1 : g S1 = .ok (.v (.ins C fs)) S2) (h4 : m [.fr (.ins C fs), .fr a] = .ret (.v (.bl q)) as) : ownC C m true ng false f g S = .ok (.v (.bl (xor ng q))) S2 := by
  have z : callS 2 m [.v (.ins C fs), .v a] S2 = .ok (.v (.bl q)) S2 := x_callS (n := 2) (args := [.fr (.ins C fs), .fr a]) List.nodup_nil rfl rfl h4 rfl (backS_nb rfl)
  have i : isIns C S2 (.v (.ins C fs)) = true := by simp [isIns, R.get]
  simp only [ownC, bnd, h0, h1, cond_true, i, Bool.not_false, Bool.true_or, Bool.and_self, if_true, z]
theorem x_eqI {ng q : Bool} (h0 : f S = .ok (.v (.ins C fs)) S1) (h1 : g S1 = .ok (.v (.ins C gs)) S2) (h4 : m [.fr (.ins C fs), .fr (.ins C gs)] = .ret (.v (.bl q)) as) : ownC C m false ng true f g S = .ok (.v (.bl (xor ng q))) S2 := by
  have z : callS 2 m [.v (.ins C fs), .v (.ins C gs)] S2 = .ok (.v (.bl q)) S2 := x_callS (n := 2) (args := [.fr (.ins C fs), .fr (.ins C gs)]) List.nodup_nil rfl rfl h4 rfl (backS_nb rfl)
  have i : isIns C S2 (.v (.ins C fs)) = true := by simp [isIns, R.get]
  have k : isIns C S2 (.v (.ins C gs)) = true := by simp [isIns, R.get]
  simp only [ownC, bnd, h0, h1, cond_false, i, k, Bool.not_true, Bool.false_or, Bool.and_self, if_true, z]
theorem x_bm {T : String} {om : D → List D → Option R} (h0 : f S = .ok ra S1) (h1 : ra.get S1 = some d) (h2 : tyD T d = true) (h3 : ga S1 = .ok rs S2) (h4 : ra.get S2 = some a) (h5 : gets S2 rs = some ds) (h6 : om a ds = some r) : bmD T om f ga S = .ok r S2 := by
  simp only [bmD, bnd, h0, h1, h2, if_true, h3, h4, h5, h6]
theorem x_intO {k : Int} (h0 : f S = .ok (.v (.int k)) S1) : intO f S = .ok (.v (.int k)) S1 := by
  simp only [intO, bnd, h0]
theorem x_slice {lo hi : Option Int} {rl rh : R} (h0 : f S = .ok ra S1) (h1 : g S1 = .ok rl S2) (e1 : optI rl = some lo) (h2 : h S2 = .ok rh S3) (e2 : optI rh = some hi) (h3 : ra.get S3 = some a) (h4 : slD lo hi a = some r) : sliceD f g h S = .ok r S3 := by
  simp only [sliceD, bnd, h0, h1, e1, h2, e2, h3, h4]
theorem x_fld {nm : Str} (h0 : f S = .ok r S1) (h1 : fldD C nm (fun S => .ok r S) S1 = .ok rb S2) : fldD C nm f S = .ok rb S2 := by
  rw [← h1]
  simp only [fldD, bnd, h0]
theorem x_neg (h0 : f S = .ok r S1) (h1 : negD (fun S => .ok r S) S1 = .ok rb S2) : negD f S = .ok rb S2 := by
  rw [← h1]
  simp only [negD, bnd, h0]
/-! statements -/
theorem x_seq {s t : DS → Fl} {out : Fl} (h1 : s S = .nx S1) (h2 : t S1 = out) : seqS s t S = out := by
  simp only [seqS, h1, h2]
theorem x_seqR {s t : DS → Fl} (h1 : s S = .rt r S1) : seqS s t S = .rt r S1 := by
  simp only [seqS, h1]
theorem x_exp (h1 : f S = .ok r S1) : expS f S = .nx S1 := by
  simp only [expS, h1]
theorem x_ret (h1 : f S = .ok r S1) : retS f S = .rt r S1 := by
  simp only [retS, h1]
theorem x_asg (h1 : f S = .ok r S1) (h2 : putN i r S1 = .nx S2) : asgS i f S = .nx S2 := by
  simp only [asgS, h1, h2]
theorem x_putF (h1 : freeSl S i = true) (h2 : S.set i (.fr d) = S1) : putN i (.v d) S = .nx S1 := by
  simp only [putN, h1, if_true, h2]
theorem x_putO (h1 : freeSl S i = true) (h2 : S.set i (.ow false d) = S1) : putN i (.ow d) S = .nx S1 := by
  simp only [putN, h1, if_true, h2]
theorem x_frz (h1 : S[i]? = some (.ow false d)) (h2 : S.set i (.fr d) = S1) : frzS i S = .nx S1 := by
  simp only [frzS, h1, h2]
theorem x_ifT {q : Bool} {s t : DS → Fl} {out : Fl} (h0 : f S = .ok (.v (.bl q)) S1) (e : q = true) (h2 : s S1 = out) : ifS f s t S = out := by
  subst e
  simp only [ifS, h0, h2]
theorem x_ifF {q : Bool} {s t : DS → Fl} {out : Fl} (h0 : f S = .ok (.v (.bl q)) S1) (e : q = false) (h2 : t S1 = out) : ifS f s t S = out := by
  subst e
  simp only [ifS, h0, h2]
theorem x_for {fi : DS → IOut} {bd : D → DS → Fl} {s : DS → Fl} {out : Fl} (h0 : fi S = .ok ds S1) (h1 : forD bd s ds S1 = out) : forS fi bd s S = out := by
  simp only [forS, h0, h1]
theorem x_app {q : Bool} (h0 : isLst S i = true) (h1 : f S = .ok (.v d) S1) (h2 : S1[i]? = some (.ow q (.lst ds))) (h3 : ds.length < sizeLine) (h4 : S1.set i (.ow q (.lst (ds ++ [d]))) = S2) : guardS (isLst · i) (appS i (aCons f aNil)) S = .nx S2 := by
  simp only [guardS, h0, if_true, appS, aCons, h1, aNil, h2, if_pos h3, h4]
theorem x_name (h1 : freeSl S i = true) (h2 : S.set i (.fr d) = S1) : nameG i d S = .nx S1 := by
  simp only [nameG, h1, if_true, h2]
theorem x_nm2 (h1 : freeSl S i = true) (h2 : S.set i (.fr a) = S1) (h3 : freeSl S1 j = true) (h4 : S1.set j (.fr b) = S2) : tupG [nameG i, nameG j] (.tup [a, b]) S = .nx S2 := by
  have e1 := x_name h1 h2
  have e2 := x_name h3 h4
  simp only [tupG, gets, List.length_cons, List.length_nil, if_true, seqG, e1, e2]
theorem x_asgT {bd : D → DS → Fl} (h1 : f S = .ok (.v d) S1) (h2 : bd d S1 = .nx S2) : asgT f bd S = .nx S2 := by
  simp only [asgT, h1, h2]
theorem x_run {N : Nat} {s : DS → Fl} (h : s (args ++ List.replicate (N - n) .un) = .rt r S1) (h2 : notBw r = true) (u : upA args S1 = some as) : runD n N s args = .ret r as := by
  unfold runD
  rw [h]
  cases r with
  | bw _ => cases h2
  | v d => simp only [u]
  | ow d => simp only [u]
theorem x_runN {N : Nat} {s : DS → Fl} (h : s (args ++ List.replicate (N - n) .un) = .nx S1) (u : upA args S1 = some as) : runD n N s args = .ret (.v .non) as := by
  unfold runD
  rw [h]
  simp only [u]
end
/-! comprehensions -/
section
variable {α : Type} {one : Bool} {is ws : List Nat} {fi : DS → IOut} {c f : DS → Out} {S S1 S2 T : DS} {u : α → D} {p : α → Bool} {g : α → D} {Tb : α → DS}
theorem x_lc : ∀ L : List α, (∀ a ∈ L, bindD one is (u a) T = some (Tb a)) → (∀ a ∈ L, c (Tb a) = .ok (.v (.bl (p a))) (Tb a)) → (∀ a ∈ L, p a = true → f (Tb a) = .ok (.v (g a)) (Tb a)) → (∀ a ∈ L, okW (Tb a) ws = true) → (∀ a ∈ L, wipeS (Tb a) ws = T) →
    lcG one is ws (elemT c f) (L.map u) T = some ((L.filter p).map g, T)
  | [], _, _, _, _, _ => rfl
  | a :: L, hb, hc, hf, ho, hw => by
    have ih := x_lc L (fun e he => hb e (List.mem_cons_of_mem _ he)) (fun e he => hc e (List.mem_cons_of_mem _ he)) (fun e he => hf e (List.mem_cons_of_mem _ he)) (fun e he => ho e (List.mem_cons_of_mem _ he)) fun e he => hw e (List.mem_cons_of_mem _ he)
    have b1 := hb a List.mem_cons_self
    have c1 := hc a List.mem_cons_self
    have o1 := ho a List.mem_cons_self
    have w1 := hw a List.mem_cons_self
    rw [List.map_cons]
    unfold lcG
    rw [b1]
    cases hp : p a with
    | true =>
      have f1 := hf a List.mem_cons_self hp
      rw [hp] at c1
      simp only [elemT, c1, f1, o1, w1, ih, List.filter_cons, hp, if_true, List.map_cons, List.singleton_append]
    | false =>
      rw [hp] at c1
      simp only [elemT, c1, o1, w1, ih, List.filter_cons, hp, if_true, List.nil_append, Bool.false_eq_true, if_false]
theorem x_comp {L : List α} (hfi : fi S = .ok (L.map u) S1) (ok : okW S1 ws = true) (sub : is.all (fun i => ws.contains i) = true) (eT : wipeS S1 ws = T) (hb : ∀ a ∈ L, bindD one is (u a) T = some (Tb a)) (hc : ∀ a ∈ L, c (Tb a) = .ok (.v (.bl (p a))) (Tb a)) (hf : ∀ a ∈ L, p a = true → f (Tb a) = .ok (.v (g a)) (Tb a))
    (ho : ∀ a ∈ L, okW (Tb a) ws = true) (hw : ∀ a ∈ L, wipeS (Tb a) ws = T) (hl : L.length ≤ sizeLine) (hr : restS S1 T ws = S2) : compD one is ws fi c f S = .ok (.ow (.lst ((L.filter p).map g))) S2 := by
  have k := x_lc (T := T) (ws := ws) L hb hc hf ho hw
  have l : ((L.filter p).map g).length ≤ sizeLine := by
    rw [List.length_map]
    exact Nat.le_trans (List.length_filter_le p L) hl
  have b : (okW S1 ws && is.all (fun i => ws.contains i)) = true := by rw [ok, sub]; rfl
  unfold compD compG
  rw [hfi]
  dsimp only
  rw [b, if_pos rfl, eT, k]
  dsimp only
  rw [if_pos l, hr]
/-- .. without a condition -/
theorem x_comp0 {L : List α} (hfi : fi S = .ok (L.map u) S1) (ok : okW S1 ws = true) (sub : is.all (fun i => ws.contains i) = true) (eT : wipeS S1 ws = T) (hb : ∀ a ∈ L, bindD one is (u a) T = some (Tb a)) (hf : ∀ a ∈ L, f (Tb a) = .ok (.v (g a)) (Tb a))
    (ho : ∀ a ∈ L, okW (Tb a) ws = true) (hw : ∀ a ∈ L, wipeS (Tb a) ws = T) (hl : L.length ≤ sizeLine) (hr : restS S1 T ws = S2) : compD one is ws fi (cst (.bl true)) f S = .ok (.ow (.lst (L.map g))) S2 := by
  have k := x_comp (p := fun _ => true) (c := cst (.bl true)) (f := f) (g := g) (u := u) (Tb := Tb) hfi ok sub eT hb (fun a _ => rfl) (fun a ha _ => hf a ha) ho hw hl hr
  rw [List.filter_eq_self.mpr (fun _ _ => rfl)] at k
  exact k
/-- a loop whose body leads from one state to the next one -/
theorem x_loop {bd : D → DS → Fl} {s : DS → Fl} {St : List α → DS → Prop} (step : ∀ a L S, St (a :: L) S → ∃ S1 S2, bd (u a) S = .nx S1 ∧ s S1 = .nx S2 ∧ St L S2) : ∀ (L : List α) (S : DS), St L S → ∃ S', forD bd s (L.map u) S = .nx S' ∧ St [] S'
  | [], S, h => ⟨S, rfl, h⟩
  | a :: L, S, h => by
    obtain ⟨S1, S2, h1, h2, h3⟩ := step a L S h
    obtain ⟨S', h4, h5⟩ := x_loop step L S2 h3
    refine ⟨S', ?_, h5⟩
    rw [List.map_cons]
    unfold forD
    simp only [h1, h2, h4]
end
end DL
namespace DL
open PySem PySem.Spec PyProof.Rows L2 LamX
/-! ### the first of the best -/
theorem argBest_le (bt : Nat → Nat → Bool) : ∀ n, argBest bt n ≤ n
  | 0 => Nat.le_refl _
  | n + 1 => by
    unfold argBest
    split
    · exact Nat.le_refl _
    · exact Nat.le_succ_of_le (argBest_le bt n)
theorem argBest_min (kf : Nat → Int) : ∀ n i, i ≤ n → kf (argBest (fun i j => decide (kf i < kf j)) n) ≤ kf i
  | 0, i, h => by
    have : i = 0 := by omega
    subst this
    exact Int.le_refl _
  | n + 1, i, h => by
    have ih := argBest_min kf n
    unfold argBest
    split
    · rename_i c
      have c := of_decide_eq_true c
      by_cases e : i = n + 1
      · subst e
        exact Int.le_refl _
      · exact Int.le_trans (Int.le_of_lt c) (ih i (by omega))
    · rename_i c
      by_cases e : i = n + 1
      · subst e
        have c : ¬ kf (n + 1) < kf (argBest (fun i j => decide (kf i < kf j)) n) := fun z => c (decide_eq_true z)
        omega
      · exact ih i (by omega)
theorem argBest_max (kf : Nat → Int) : ∀ n i, i ≤ n → kf i ≤ kf (argBest (fun i j => decide (kf i > kf j)) n)
  | 0, i, h => by
    have : i = 0 := by omega
    subst this
    exact Int.le_refl _
  | n + 1, i, h => by
    have ih := argBest_max kf n
    unfold argBest
    split
    · rename_i c
      have c := of_decide_eq_true c
      by_cases e : i = n + 1
      · subst e
        exact Int.le_refl _
      · exact Int.le_trans (ih i (by omega)) (Int.le_of_lt c)
    · rename_i c
      by_cases e : i = n + 1
      · subst e
        have c : ¬ kf (n + 1) > kf (argBest (fun i j => decide (kf i > kf j)) n) := fun z => c (decide_eq_true z)
        omega
      · exact ih i (by omega)
section
variable {α : Type} {f g : DS → Out} {S S1 : DS} {u : α → D} {kf : α → Int}
theorem x_keys : ∀ L : List α, (∀ a ∈ L, g (S ++ [.fr (u a)]) = .ok (.v (.int (kf a))) (S ++ [.fr (u a)])) → keysD g S (L.map u) = some (L.map kf)
  | [], _ => rfl
  | a :: L, h => by
    have h1 := h a List.mem_cons_self
    have ih := x_keys L fun b hb => h b (List.mem_cons_of_mem _ hb)
    rw [List.map_cons]
    unfold keysD
    rw [h1]
    simp only [if_true, ih, List.map_cons]
theorem getD_at {L : List α} {i : Nat} {a : α} (h : L[i]? = some a) : (L.map kf).getD i 0 = kf a := by simp [List.getD, h]
theorem best_get {bt : Nat → Nat → Bool} {L : List α} (ne : L ≠ []) : ∃ a, L[argBest bt (L.length - 1)]? = some a := by
  have l : 0 < L.length := List.length_pos_iff.mpr ne
  have := argBest_le bt (L.length - 1)
  exact ⟨_, List.getElem?_eq_getElem (by omega)⟩
theorem x_minK {L : List α} (h0 : f S = .ok (.v (.lst (L.map u))) S1) (ne : L ≠ []) (hk : ∀ a ∈ L, g (S1 ++ [.fr (u a)]) = .ok (.v (.int (kf a))) (S1 ++ [.fr (u a)])) :
    ∃ a, a ∈ L ∧ (∀ b ∈ L, kf a ≤ kf b) ∧ bestK (fun a b => decide (a < b)) f g S = .ok (.v (u a)) S1 := by
  obtain ⟨a, ha⟩ := best_get (bt := fun i j => decide ((L.map kf).getD i 0 < (L.map kf).getD j 0)) ne
  have ia := (List.getElem?_eq_some_iff.mp ha).1
  refine ⟨a, List.mem_of_getElem? ha, fun b hb => ?_, ?_⟩
  · obtain ⟨i, hi⟩ := List.getElem?_of_mem hb
    have il := (List.getElem?_eq_some_iff.mp hi).1
    have z := argBest_min (fun i => (L.map kf).getD i 0) (L.length - 1) i (by omega)
    have e1 : (L.map kf).getD i 0 = kf b := by simp [List.getD, hi]
    have e2 := getD_at (kf := kf) ha
    rw [e1, e2] at z
    exact z
  · unfold bestK
    rw [h0]
    dsimp only
    rw [x_keys L hk]
    dsimp only
    rw [List.length_map, List.getElem?_map, ha]
    rfl
theorem x_maxK {L : List α} (h0 : f S = .ok (.v (.lst (L.map u))) S1) (ne : L ≠ []) (hk : ∀ a ∈ L, g (S1 ++ [.fr (u a)]) = .ok (.v (.int (kf a))) (S1 ++ [.fr (u a)])) :
    ∃ a, a ∈ L ∧ (∀ b ∈ L, kf b ≤ kf a) ∧ bestK (fun a b => decide (a > b)) f g S = .ok (.v (u a)) S1 := by
  obtain ⟨a, ha⟩ := best_get (bt := fun i j => decide ((L.map kf).getD i 0 > (L.map kf).getD j 0)) ne
  have ia := (List.getElem?_eq_some_iff.mp ha).1
  refine ⟨a, List.mem_of_getElem? ha, fun b hb => ?_, ?_⟩
  · obtain ⟨i, hi⟩ := List.getElem?_of_mem hb
    have il := (List.getElem?_eq_some_iff.mp hi).1
    have z := argBest_max (fun i => (L.map kf).getD i 0) (L.length - 1) i (by omega)
    have e1 : (L.map kf).getD i 0 = kf b := by simp [List.getD, hi]
    have e2 := getD_at (kf := kf) ha
    rw [e1, e2] at z
    exact z
  · unfold bestK
    rw [h0]
    dsimp only
    rw [x_keys L hk]
    dsimp only
    rw [List.length_map, List.getElem?_map, ha]
    rfl
/-- a list told with its indexes -/
theorem enumL_zip {v : α → D} (L : List α) : enumL (L.map v) = L.zipIdx.map fun p => D.tup [.int (p.2 : Int), v p.1] := by
  unfold enumL
  apply List.ext_getElem?
  intro i
  rw [List.getElem?_mapIdx, List.getElem?_map, List.getElem?_map, List.getElem?_zipIdx]
  cases L[i]? <;> simp
end
section
variable {S S1 S2 S3 : DS} {f g h : DS → Out} {r : R} {a b e : D} {o o' : D → D → Option R} {q : Bool}
theorem x_chain (h1 : f S = .ok (.v a) S1) (h2 : g S1 = .ok (.v b) S2) (h3 : o a b = some (.v (.bl q))) (e1 : q = true) (h4 : h S2 = .ok (.v e) S3) (h5 : o' b e = some r) : chainD o o' f g h S = .ok r S3 := by
  subst e1
  simp only [chainD, bnd, h1, h2, lift2, R.get, h3, h4, h5]
theorem x_free {i : Nat} {s : Sl} (h : S[i]? = some s) (h2 : s = .un ∨ ∃ e, s = .fr e) : freeSl S i = true := by
  rcases h2 with rfl | ⟨e, rfl⟩ <;> simp [freeSl, h]
end
section
variable {S S1 : DS} {f : DS → Out} {ga : DS → AOut} {ds : List D}
theorem x_iLst (h : f S = .ok (.v (.lst ds)) S1) : iLst f S = .ok ds S1 := by
  unfold iLst
  rw [h]
theorem x_iTpl (h : f S = .ok (.v (.tup ds)) S1) : iTpl f S = .ok ds S1 := by
  unfold iTpl
  rw [h]
theorem x_iEnL (h : f S = .ok (.v (.lst ds)) S1) : iEnL (aCons f aNil) S = .ok (enumL ds) S1 := by
  simp only [iEnL, aCons, aNil, h]
theorem x_iEnT (h : f S = .ok (.v (.tup ds)) S1) : iEnT (aCons f aNil) S = .ok (enumL ds) S1 := by
  simp only [iEnT, aCons, aNil, h]
theorem x_iR1 {k : Int} (h : f S = .ok (.v (.int k)) S1) (s : smallI k = true) : iR1 (aCons f aNil) S = .ok (rng 0 k.toNat) S1 := by
  simp only [iR1, aCons, aNil, h, s, if_true]
end
end DL
namespace DL
open PySem PySem.Spec PyProof.Rows L2 PySem.HandSPX
variable [Nm]

/-! ### own error classes: __init__ keeps one thing -/
/-- own classes, then a base's own chain -/
def chainB (tl : List Value) : List Value → Bool
  | .ref c :: r => (Value.ref c :: r == tl) || chainB tl r
  | l => l == tl
theorem chainB_cases {tl : List Value} : ∀ l : List Value, chainB tl l = true → l = tl ∨ ∃ c r, l = .ref c :: r ∧ chainB tl r = true
  | [], e => .inl (beq_iff_eq.mp e)
  | .ref c :: r, e => by
    rcases Bool.or_eq_true_iff.mp (show ((Value.ref c :: r == tl) || chainB tl r) = true from e) with h | h
    · exact .inl (beq_iff_eq.mp h)
    · exact .inr ⟨c, r, rfl, h⟩
  | .none :: _, e => .inl (beq_iff_eq.mp e)
  | .ellipsis :: _, e => .inl (beq_iff_eq.mp e)
  | .notImplemented :: _, e => .inl (beq_iff_eq.mp e)
  | .bool _ :: _, e => .inl (beq_iff_eq.mp e)
  | .int _ _ :: _, e => .inl (beq_iff_eq.mp e)
  | .float _ _ :: _, e => .inl (beq_iff_eq.mp e)
  | .str _ _ :: _, e => .inl (beq_iff_eq.mp e)
  | .bytes _ _ :: _, e => .inl (beq_iff_eq.mp e)
  | .type _ :: _, e => .inl (beq_iff_eq.mp e)
  | .builtin _ :: _, e => .inl (beq_iff_eq.mp e)
/-- what is asked of the base -/
structure BaseB (tl : List Value) (nw : String) : Prop where
  ex : ∃ B ini, ExcBaseFacts B nw ini tl
  pass : ∀ self, refuseLoop self "__setattr__" tl = pure ()
  ob : tl.contains (.type "object") = true
theorem chainB_has {tl : List Value} (y : String) : ∀ l : List Value, chainB tl l = true → l.contains (.type y) = tl.contains (.type y) := by
  intro l
  induction l with
  | nil =>
    intro h
    rcases chainB_cases _ h with e | ⟨_, _, e, _⟩
    · rw [e]
    · cases e
  | cons x r ih =>
    intro h
    rcases chainB_cases _ h with e | ⟨c, r', e, h'⟩
    · rw [e]
    · cases e
      rw [List.contains_cons, ih h']
      rfl
theorem chainB_pass {tl : List Value} {nw : String} (b : BaseB tl nw) (self : Value) : ∀ l : List Value, chainB tl l = true → refuseLoop self "__setattr__" l = pure () := by
  intro l
  induction l with
  | nil =>
    intro h
    rcases chainB_cases _ h with e | ⟨_, _, e, _⟩
    · rw [e]
      exact b.pass self
    · cases e
  | cons x r ih =>
    intro h
    rcases chainB_cases _ h with e | ⟨c, r', e, h'⟩
    · rw [e]
      exact b.pass self
    · cases e
      rw [refuseLoop_ref]
      exact ih h'
theorem chainB_ne {tl : List Value} {nw : String} (b : BaseB tl nw) {l : List Value} (h : chainB tl l = true) : l.isEmpty = false := by
  cases l with
  | nil =>
    rcases chainB_cases _ h with e | ⟨_, _, e, _⟩
    · have := b.ob
      rw [← e] at this
      cases this
    · cases e
  | cons _ _ => rfl
abbrev tlV : List Value := [.type "ValueError", .type "Exception", .type "BaseException", .type "object"]
abbrev tlL : List Value := [.type "LookupError", .type "Exception", .type "BaseException", .type "object"]
abbrev tlA : List Value := [.type "ArithmeticError", .type "Exception", .type "BaseException", .type "object"]
theorem baseV : BaseB tlV "ValueError.__new__" := ⟨⟨_, _, F.excBase_ValueError⟩, fun self => F.store_ValueError.passes self, by decide +kernel⟩
theorem baseL : BaseB tlL "LookupError.__new__" := ⟨⟨_, _, F.excBase_LookupError⟩, fun self => F.store_LookupError.passes self, by decide +kernel⟩
theorem baseA : BaseB tlA "ArithmeticError.__new__" := ⟨⟨_, _, F.excBase_ArithmeticError⟩, fun self => F.store_ArithmeticError.passes self, by decide +kernel⟩

section
open Builtin Builtin.ObjectAttr
variable {prog : Program} {w : World} {A : Around} {Er : Value → Shared → Prop} {Rs : Result → Shared → Prop} {hp : Heap} {gs : Array GenState} {dr : Drawn} {tk : Nat} {ost : OsState}
/-- self.y = v, the first thing that an error keeps, whatever its base -/
theorem err_store {K : Fr} {tl : List Value} {nw : String} (bb : BaseB tl nw) {y : Str} {ty : Tok} {v : Value} {x C : Addr} {vs : Array Value} {cd : ClassData} (kin : K.In hp) (at_ : hp.get? x = some { cls := .ref C, data := .fields vs })
    (hcd : W.clsIn K C = some cd) (chain : chainB tl cd.mro = true) (hd : cd.hasDict = true) (no : W.findIn K (.ref C) y = some none)
    (go : ∀ h1 t1 dx, (∀ b o, b ≠ x → hp.get? b = some o → h1.get? b = some o) → hp.objs.size ≤ dx → dx ≠ x → h1.get? x = some { cls := .ref C, dict := some dx, data := .fields vs } →
      h1.Ns1 dx (fun z => if z = y then some v else none) → Rs (.ok (.ret .none)) ⟨h1, gs, dr, t1, ost⟩) :
    codeAny (model prog w) A (.call (.builtin "object.__setattr__") ⟨[.ref x, .str y ty, v], []⟩) Rs ⟨hp, gs, dr, tk, ost⟩ := by
  have inst : W.InstAt hp x { cls := .ref C, data := .fields vs } C none := ⟨at_, rfl, rfl, trivial⟩
  have st := F.store_object
  have full := chainB_ne bb chain
  have obj : cd.mro.contains (.type "object") = true := (chainB_has "object" _ chain).trans bb.ob
  have old : x ≠ hp.objs.size := Nat.ne_of_lt (Heap.lt_size at_)
  have isO : W.Looks (model prog w) hp (isInstance (.ref x) (.type "object")) true :=
    inst.type.andThen (W.looks_mroIn kin (by unfold W.mroIn; rw [hcd, Option.bind_some, if_neg (by rw [full]; decide), obj]))
  have lmro : W.Looks (model prog w) hp (mroOf (.ref C)) cd.mro := (W.looks_clsIn kin hcd).andThen .now
  have lnone : W.Looks (model prog w) hp (storeTaker? none) none := .now
  have lcls : W.Looks (model prog w) hp (classData C) cd := W.looks_clsIn kin hcd
  apply codeAny_call_builtin st.slot.plain st.entry
  apply @W.check_slot (model prog w) _ _ ⟨hp, gs, dr, tk, ost⟩ "object.__setattr__" "object" "__setattr__" (.ref x) [.str y ty, v] [] _ st.kind st.split isO (st.args (.ref x) (.str y ty) v)
  rw [W.osa_eq, refuse_eq]
  apply wpAny_bind
  apply wpAny_bind
  apply inst.type.at
  apply wpAny_bind
  apply lmro.at
  rw [chainB_pass bb _ _ chain]
  apply wpAny_pure
  apply wpAny_bind
  apply inst.type.at
  apply wpAny_bind
  apply (W.looks_findIn kin no).at
  apply wpAny_bind
  apply lnone.at
  show wpAny _ _ (storeInOwnDict (.ref x) (.ref C) (.str y ty) y v false) _ _ _
  obtain ⟨c1, c2, c3, c4, c5, c6, c7, c8, c9, c10, c11⟩ := cd
  dsimp only at hd
  subst hd
  unfold storeInOwnDict ownDictForStores
  repeat (first | with_reducible refine store_in_new ?_ ?_ | with_reducible refine lcls.at ?_ | with_reducible refine wpAny_loadPart_at at_ ?_ | wp_step)
  · exact ⟨_, #[], _, (Heap.get?_update_ne _ _ _ _ old.symm).trans (Heap.get?_push_at rfl rfl), rfl, fun e he => absurd he (by simp), fun _ => rfl⟩
  · intro h1 t1 ns1 but
    have up : (hp.push { cls := .type "dict", data := .dict #[] }).get? x = some { cls := .ref C, data := .fields vs } := Heap.get?_push_of_some _ at_
    refine go h1 t1 hp.objs.size (fun b o hb ho => ?_) (Nat.le_refl _) old.symm ((but.2 x old).trans (Heap.get?_update_self _ up rfl)) ns1
    rw [but.2 b (Nat.ne_of_lt (Heap.lt_size ho)), Heap.get?_update_ne _ _ _ _ hb]
    exact Heap.get?_push_of_some _ ho
end
/-- the text of such an __init__ -/
def eArgs (fld : Str) (p1 p2 : Pos) : Arguments := { posonlyargs := [], args := [{ arg := "self", annotation := none, pos := p1 }, { arg := fld, annotation := none, pos := p2 }], vararg := none, kwonlyargs := [], kw_defaults := [], kwarg := none, defaults := [] }
def eBody (fld : Str) (q1 q2 q3 q4 : Pos) : List Stmt := [.Assign [.Attribute (.Name "self" q1) fld q2] (.Name fld q3) q4]
def eScope (fld : Str) : Scope := { kind := .function, names := [(PySem.Str.ofString "self", .local), (fld, .local)], isGenerator := false, isCoroutine := false, more := [] }
/-- what the written part says of the error class at C; its __init__ stands at fI -/
structure ErrC (K : Fr) (C : Addr) (fld : Str) : Prop where
  nf : fld = "given" ∨ fld = "index"
  cls : ∃ tl nw, BaseB tl nw ∧ ∃ nm q N bs bm sn sub ab col dd k0 k1 k2 k3 k5, K.lookup C = some (excClassObj nm q C N bs bm true sn sub ab col dd k0 k1 k2 k3 k5 nw) ∧ chainB tl bm = true
  sa : W.findIn K (.ref C) "__setattr__" = some (some (.builtin "object.__setattr__"))
  ga : W.findIn K (.ref C) "__getattribute__" = some (some (.builtin "BaseException.__getattribute__"))
  gg : W.findIn K (.ref C) "__getattr__" = some none
  noF : W.findIn K (.ref C) fld = some none
  ktr_rel : W.keepIn K (.ref C) = true
  exC : W.subIn K (.ref C) (.type "BaseException") = some true
  tyC : W.typeIn K (.ref C) = some (.type "type")
  hdC : W.hasDictIn K C = true
  ini : ∃ fI qn, W.findIn K (.ref C) "__init__" = some (some (.ref fI)) ∧ W.typeIn K (.ref fI) = some (.type "function") ∧ ∃ (oc : Value) (od : Option Addr) (doc pm : Value) (an : Option Addr) (cdv ct : Value) (osl : Array (Option Value)) (p1 p2 q1 q2 q3 q4 : Pos),
    K.lookup fI = some ⟨oc, od, .func (W.fnOf "__init__" qn (eArgs fld p1 p2) (eBody fld q1 q2 q3 q4) (eScope fld) .none .none doc pm an cdv ct), osl⟩ ∧ W.codeIn K cdv qn = true

theorem one_le (v : Value) : [v].length ≤ sizeLine := by
  rw [sizeLine_eq]
  exact (by decide : 1 ≤ 16777216)
theorem ld_own {M : Model} {s : Shared} {nm : Str} {sc : Scope} {L a : Addr} {cd : Value} {m : Str → Option Value} {x : Str} {pos : Pos} {v : Value} {Q E : Value → Shared → Prop} {A : Around} (ns : s.heap.Ns L m) (is : m x = some v) (q : Q v s)
    (hk : sc.kind = .function) (hl : (envOfC nm sc L a cd).kindOf x = some .local) (hd : (x == ("__debug__" : Str)) = false) :
    wpAny M A (eval (.Name x pos) (envOfC nm sc L a cd)) Q E s := wpAny_Name (wpAny_loadName_local hk hl ns is q) hd
section
variable {prog : Program} {w : World} {A : Around} {Rs : Result → Shared → Prop} {s : Shared} {K : Fr} {C : Addr} {fld : Str}
/-- C(v): the exception at e, its dict at d -/
structure Made (h h' : Heap) (e C d : Addr) (fld : Str) (v : Value) : Prop where
  keep : ∀ b o, h.get? b = some o → h'.get? b = some o
  new : h.objs.size ≤ e
  obj : ∃ oe vs, h'.get? e = some oe ∧ oe.cls = .ref C ∧ oe.dict = some d ∧ oe.data = .fields vs ∧ vs[1]? = some .none
  dnew : h.objs.size ≤ d
  dne : d ≠ e
  ns : h'.Ns1 d (fun y => if y = fld then some v else none)
theorem err_init (T : ErrC K C fld) {fI : Addr} {qn : Str} {x t0 : Addr} {v : Value} (kin : K.In s.heap) (lim : s.heap.NoLimit) (at_ : s.heap.get? x = some (excO C t0)) (hroom : A.depth < recursionLimit)
    (tx : ∃ (oc : Value) (od : Option Addr) (doc pm : Value) (an : Option Addr) (cdv ct : Value) (osl : Array (Option Value)) (p1 p2 q1 q2 q3 q4 : Pos),
      K.lookup fI = some ⟨oc, od, .func (W.fnOf "__init__" qn (eArgs fld p1 p2) (eBody fld q1 q2 q3 q4) (eScope fld) .none .none doc pm an cdv ct), osl⟩ ∧ W.codeIn K cdv qn = true)
    (go : ∀ h1 t1 dx, (∀ b o, b ≠ x → s.heap.get? b = some o → h1.get? b = some o) → h1.get? x = some { cls := .ref C, dict := some dx, data := .fields #[.ref t0, .none, .none, .none, .bool false, .none] } → s.heap.objs.size ≤ dx → dx ≠ x →
      h1.Ns1 dx (fun y => if y = fld then some v else none) → Rs (.ok (.ret .none)) { s with heap := h1, toks := t1 }) :
    codeAny (model prog w) A (.call (.ref fI) ⟨[.ref x, v], []⟩) Rs s := by
  obtain ⟨oc, od, doc, pm, an, cdv, ct, osl, p1, p2, q1, q2, q3, q4, ho, hcd⟩ := tx
  obtain ⟨tl, nw, bb, nm, q, N, bs, bm, sn, sub, ab, col, dd, k0, k1, k2, k3, k5, hC, hbm⟩ := T.cls
  have hcl : W.clsIn K C = some { name := nm, bases := bs, mro := .ref C :: bm, ns := N, qualname := q, hasDict := true, slotNames := sn, subclasses := sub, abstract := ab, collection := col, hasDel := false } := by unfold W.clsIn; rw [hC] <;> rfl
  have hch : chainB tl (.ref C :: bm) = true := by
    show ((Value.ref C :: bm == tl) || chainB tl bm) = true
    rw [hbm, Bool.or_true]
  have main : ∀ (hks : (envOfC qn (eScope fld) s.heap.objs.size fI cdv).kindOf "self" = some .local) (hkf : (envOfC qn (eScope fld) s.heap.objs.size fI cdv).kindOf fld = some .local) (hdf : (fld == ("__debug__" : Str)) = false)
      (hb : BindsTo s (W.fnOf "__init__" qn (eArgs fld p1 p2) (eBody fld q1 q2 q3 q4) (eScope fld) .none .none doc pm an cdv ct) ⟨[.ref x, v], []⟩ [("self", .ref x), (fld, v)])
      (hpl : (([("self", Value.ref x), (fld, v)] : List (Str × Value)).all fun y => (eScope fld).names.lookup y.1 == some .local || (eScope fld).names.lookup y.1 == some .cell) = true)
      (hs : bindL (envOfC qn (eScope fld) s.heap.objs.size fI cdv).kindOf ([("self", Value.ref x), (fld, v)] : List (Str × Value)) (fun _ => none) ("self" : Str) = some (Value.ref x))
      (hf : bindL (envOfC qn (eScope fld) s.heap.objs.size fI cdv).kindOf ([("self", Value.ref x), (fld, v)] : List (Str × Value)) (fun _ => none) fld = some v),
      codeAny (model prog w) A (.call (.ref fI) ⟨[.ref x, v], []⟩) Rs s := by
    intro hks hkf hdf hb hpl hs hf
    refine Att.call_fn (binds := [("self", .ref x), (fld, v)]) kin lim ho hcd hroom hb hpl (fun s₁ ic => ?_) rfl rfl rfl
    obtain ⟨h₁, tk₁, rfl⟩ := ic.toInCall.same
    have kp : ∀ b o, s.heap.get? b = some o → h₁.get? b = some o := ic.toInCall.keep
    have ns := ic.toInCall.ns
    have z : s.heap.objs.size < h₁.objs.size := ns.lt
    show wpAny _ _ (execs _ _) _ _ _
    refine wpAny_execs_cons (plainObj_wpAny_Assign_Attribute ?_)
    refine ld_own (v := v) ns hf (ld_own (v := .ref x) ns hs ?_ rfl hks (by decide)) rfl hkf hdf
    refine W.set_plain (kin.keeps kp) (ox := excO C t0) (od := none) ⟨kp _ _ at_, rfl, rfl, trivial⟩ T.sa ?_
    refine err_store bb (kin.keeps kp) (kp _ _ at_) hcl hch rfl T.noF (fun h₃ tk₃ dx k₃ dn dne hx₃ hn₃ => ?_)
    show wpAny _ _ (execs _ _) _ _ _
    exact wpAny_execs_nil (go h₃ tk₃ dx (fun b o hb e => k₃ b o hb (kp b o e)) hx₃ (Nat.le_of_lt (Nat.lt_of_lt_of_le z dn)) dne hn₃)
  rcases T.nf with rfl | rfl
  · exact main rfl rfl (by decide) (.of_eq rfl) (by first | rfl | with_unfolding_all rfl) (by first | rfl | with_unfolding_all rfl | kernel_rfl) (by first | rfl | with_unfolding_all rfl | kernel_rfl)
  · exact main rfl rfl (by decide) (.of_eq rfl) (by first | rfl | with_unfolding_all rfl) (by first | rfl | with_unfolding_all rfl | kernel_rfl) (by first | rfl | with_unfolding_all rfl | kernel_rfl)
end

section
variable {prog : Program} {w : World} {A : Around} {Rs : Result → Shared → Prop} {s : Shared} {K : Fr} {C : Addr} {fld : Str}
theorem err_made (T : ErrC K C fld) {v : Value} (kin : K.In s.heap) (lim : s.heap.NoLimit) (hroom : A.depth + 1 < recursionLimit)
    (go : ∀ h1 t1 e d, Made s.heap h1 e C d fld v → Rs (.ok (.ret (.ref e))) { s with heap := h1, toks := t1 }) :
    codeAny (model prog w) A (.call (.ref C) ⟨[v], []⟩) Rs s := by
  obtain ⟨tl, nw, bb, nm, q, N, bs, bm, sn, sub, ab, col, dd, k0, k1, k2, k3, k5, hC, hbm⟩ := T.cls
  obtain ⟨B, ini, base⟩ := bb.ex
  obtain ⟨fI, qn, hI, hT, tx⟩ := T.ini
  obtain ⟨hp, gs, dr, tk, ost⟩ := s
  have up : ∀ b o, hp.get? b = some o → ((hp.push (W.kdv_tup [v])).push (excO C hp.objs.size)).get? b = some o := fun b o e => Heap.get?_push_of_some _ (Heap.get?_push_of_some _ e)
  have at_ : ((hp.push (W.kdv_tup [v])).push (excO C hp.objs.size)).get? (hp.objs.size + 1) = some (excO C hp.objs.size) := by heap_get
  refine call_own base (fun y => chainB_has y bm hbm) (kin _ _ hC) (W.looks_findIn kin hI) (fun self => W.bind_fn kin self hT) (one_le v) ?_
  refine err_init (s := ⟨(hp.push (W.kdv_tup [v])).push (excO C hp.objs.size), gs, dr, tk, ost⟩) T (kin.keeps up) (lim.keeps up) at_ hroom tx fun h1 t1 dx kp hx dn dne ns => ?_
  refine ⟨rfl, go h1 t1 (hp.objs.size + 1) dx ⟨fun b o e => kp b o (Nat.ne_of_lt (Nat.lt_succ_of_lt (Heap.lt_size e))) (up b o e), Nat.le_succ _, ⟨_, _, hx, rfl, rfl, rfl, rfl⟩, ?_, dne, ns⟩⟩
  have z : hp.objs.size + 1 + 1 ≤ dx := by simpa only [Heap.size_push] using dn
  show hp.objs.size ≤ dx
  omega
end
theorem relO_one {fld : Str} {v : V} {u : Value} (r : RelV v u) (y : Str) : RelO (List.lookup y [(fld, v)]) (if y = fld then some u else none) := by
  by_cases h : y = fld
  · subst h
    rw [if_pos rfl]
    have e : List.lookup y [(y, v)] = some v := by simp [List.lookup]
    rw [e]
    exact r
  · rw [if_neg h]
    have e : List.lookup y [(fld, v)] = none := by
      have q : (y == fld) = false := by simpa using h
      simp [List.lookup, q]
    rw [e]
    trivial
section
variable {X : Cx} {W : WX} {C : Addr} {fld : Str} {ga : DS → AOut}
/-- C(e), a new error: its class, its dict -/
def tErr (C : Addr) (fld : Str) (ta : TA) : St → Hp → XK → Prop := fun σ H Q => ta σ H fun vs H1 => ∃ v, vs = [v] ∧ ∀ d, H1 d = none → Q (.ref C) (some d) (upd H1 d (.xd [(fld, v)]))
theorem pmk_err {x : Str} {a : Expr} {ta : TA} {p pos : Pos} {k : Nat} (T : ErrC X.K C fld) (hr : L2H.RoomH k X.A) (hx : X.mg x = some (.ref C)) (hg : Gl X x) (ha : PA X [a] ta) (hdb : (x == ("__debug__" : Str)) = false := by decide)
    (he : starEach (a :: []) X.env = (false, eval a X.env) :: starEach [] X.env := by rfl) (hpl : (backTo pos (starEach [] X.env)).any (·.1) = false := by rfl) :
    PMk X (.Call (.Name x p) [a] [] pos) (tErr C fld ta) := by
  intro pins s σ H Q I h
  refine wpAny_Call_Name_kw (ld_glob I hg hx ?_ hdb)
  refine W.callWith_K (h₀ := X.base) I.ok.mod.kin T.ktr_rel (thn (ha.run pos pins s σ H _ I h) fun us s1 ⟨vs, H1, I1, r1, v, ev, q1⟩ => ⟨I1.kIn, ?_⟩) he hpl
  subst ev
  cases r1 with
  | cons rv rn =>
    rename_i u us'
    cases rn
    have lim := I1.nolimit
    obtain ⟨hp, gs, dr, tk, ost⟩ := s1
    refine wpAny_call (err_made T I1.kIn lim (by have := hr.dp; omega) fun h1 t1 e d M => ?_)
    show MkP X pins σ Q (.ref e) ⟨h1, gs, dr, t1, ost⟩
    obtain ⟨oe, fv, hoe, hc, hd, hdat, h1n⟩ := M.obj
    obtain ⟨G, g1, g2⟩ := restrict h1 fun b => decide (b ≠ e)
    have gk : ∀ b, b ≠ e → G.get? b = h1.get? b := fun b hb => g1 b (decide_eq_true hb)
    have ge : G.get? e = none := g2 e (by simp)
    have old : ∀ b o, hp.get? b = some o → G.get? b = some o := fun b o q => (gk b (Nat.ne_of_lt (Nat.lt_of_lt_of_le (Heap.lt_size q) M.new))).trans (M.keep b o q)
    have ob : ObjOk X.prog X.w (upd H1 d (.xd [(fld, v)])) G d (.xd [(fld, v)]) := ⟨_, M.ns.at (fun o q => (gk d M.dne).trans q), fun f => relO_one rv f⟩
    have J : Inv X pins σ (upd H1 d (.xd [(fld, v)])) ⟨G, gs, dr, t1, ost⟩ := I1.laid (t' := t1) old M.dnew ob
    refine ⟨e, oe, fv, ⟨G, gs, dr, t1, ost⟩, _, .ref C, some d, rfl, J, fun b o q => ?_, ge, hoe, ⟨hc, hd⟩, hdat, h1n, ?_, rfl, I1.bare, raises_own T.exC T.tyC, q1 d (I1.hok.fresh M.dnew)⟩
    · by_cases hb : b = e
      · have q' : G.get? b = some o := q
        rw [hb, ge] at q'
        cases q'
      · exact (gk b hb).symm.trans q
    · rw [upd_ne (Ne.symm M.dne)]
      exact I1.hok.fresh M.new
/-- raise C(e) -/
def raiseS (C : Addr) (fld : Str) (ga : DS → AOut) : DS → Fl := fun S => match ga S with
  | .ok [.v d] S' => .exc C [(fld, d)] S'
  | .exc C fs S' => .exc C fs S'
  | _ => .stuck
theorem sv_raise {x : Str} {a : Expr} {p pos pos2 : Pos} {k : Nat} (T : ErrC X.K C fld) (hc : X.calm = true) (hr : Room k X.A) (tk : Takes X W) (hx : X.mg x = some (.ref C)) (hg : Gl X x) (ha : AV X W [a] ga) (hdb : (x == ("__debug__" : Str)) = false := by decide)
    (he : starEach (a :: []) X.env = (false, eval a X.env) :: starEach [] X.env := by rfl) (hpl : (backTo pos (starEach [] X.env)).any (·.1) = false := by rfl) :
    SV X W (.Raise (some (.Call (.Name x p) [a] [] pos)) none pos2) (raiseS C fld ga) := by
  refine ⟨PS.imp (L2.ps_raise hc tk (pmk_err T (L2H.roomH_of hr) hx hg ha.pa hdb he hpl)) fun E σ H ⟨B, F, S, rel, q⟩ => ?_⟩
  refine ⟨B, F, S, rel, ?_⟩
  unfold raiseS at q
  cases qa : ga S with
  | stuck => rw [qa] at q; exact q
  | exc C' fs S' => rw [qa] at q; exact fun dx fvs H1 F1 x1 r1 => q dx fvs σ H1 F1 x1.toExt r1
  | ok rs S1 =>
    rw [qa] at q
    intro vs H1 F1 x1 rel1 rv1
    match rs, rv1, q with
    | [.v d], .cons (x := v) h1 .nil, q =>
      refine ⟨v, rfl, fun dx hd => ?_⟩
      have at1 : At X.K F1 H1 v d := h1
      obtain ⟨x2, rel2⟩ := rel1.lay (o := .xd [(fld, v)]) hd
      exact q dx [(fld, v)] σ _ F1 (x1.toExt.trans x2.toExt) rel2 upd_same (rel1.h0 hd) (.cons (at1.ext x2.toExt) .nil)
end
end DL
namespace DL
open PySem PySem.Spec PyProof.Rows L2 PySem.HandSPX
variable [Nm]

/-! ### try: body, except t as n: suite -/
/-- t, in an except clause of X, tells of an error's class by cm -/
def Tests (X : Cx) (t : Expr) (cm : Value → Option Bool) : Prop :=
  ∀ (a : Addr) (q : Addr × Obj) (pn : List (Addr × Obj)) (σ : L2.St) (H : Hp) (s : Shared) (cls : Value) (b : Bool) (Q : Bool → Shared → Prop) (E1 E2 : Value → Shared → Prop),
    Inv (X.suite a (q :: pn)) [] σ H s → W.Looks (model X.prog X.w) s.heap (typeOf (.ref a)) cls → cm cls = some b →
    (∀ h' t', (∀ b o, s.heap.get? b = some o → h'.get? b = some o) → Q b { s with heap := h', toks := t' }) →
    wpAny (model X.prog X.w) (X.A.mark (some (.ref a))) (eval t X.env) (fun c s1 => wpAny (model X.prog X.w) (X.A.mark (some (.ref a))) (excMatches (.ref a) c) Q E1 s1) E2 s
theorem tests_name {X : Cx} {x : Str} {C : Addr} {p : Pos} (hx : X.mg x = some (.ref C)) (hg : Gl X x) (hd : (x == ("__debug__" : Str)) = false := by decide) : Tests X (.Name x p) (fun cls => W.exmOne X.K cls (.ref C)) := by
  intro a q pn σ H s cls b Q E1 E2 S ty hb k
  refine ld_glob (X := X.suite a (q :: pn)) S hg hx ?_ hd
  exact (W.exm_one (M := model X.prog X.w) S.kIn ty hb).here (by obtain ⟨hp, gs, dr, tk, os⟩ := s; exact k hp tk fun _ _ z => z)
theorem tests_tup3 {X : Cx} {x y z : Str} {C1 C2 C3 : Addr} {p1 p2 p3 tp : Pos} {k : Nat} (hx : X.mg x = some (.ref C1)) (hgx : Gl X x) (hy : X.mg y = some (.ref C2)) (hgy : Gl X y) (hz : X.mg z = some (.ref C3)) (hgz : Gl X z)
    (hdx : (x == ("__debug__" : Str)) = false := by decide) (hdy : (y == ("__debug__" : Str)) = false := by decide) (hdz : (z == ("__debug__" : Str)) = false := by decide) :
    Tests X (.Tuple [.Name x p1, .Name y p2, .Name z p3] k tp) (fun cls => W.exmAny X.K cls [.ref C1, .ref C2, .ref C3]) := by
  intro a q pn σ H s cls b Q E1 E2 S ty hb go
  refine wpAny_Tuple (wpAny_items_cons (ld_glob (X := X.suite a (q :: pn)) S hgx hx ?_ hdx))
  refine wpAny_items_cons (ld_glob (X := X.suite a (q :: pn)) S hgy hy ?_ hdy)
  refine wpAny_items_cons (ld_glob (X := X.suite a (q :: pn)) S hgz hz ?_ hdz)
  refine wpAny_items_nil ⟨by size_fits, ?_⟩
  have up : ∀ b o, s.heap.get? b = some o → (s.heap.push { cls := .type "tuple", data := .seq [Value.ref C1, .ref C2, .ref C3].toArray }).get? b = some o := fun _ _ e => Heap.get?_push_of_some _ e
  exact (W.exm_tup3 (S.kIn.keeps up) (ty.keeps up) (Heap.get?_push_size s.heap rfl) hb).here (by obtain ⟨hp, gs, dr, tk, os⟩ := s; exact go _ _ up)
theorem FlyingZ.kept {B h h' : Heap} {l : List Env} {e : Addr} {Z : Obj → Prop} (x : FlyingZ B l e Z h) (k : ∀ b o, h.get? b = some o → h'.get? b = some o) : FlyingZ B l e Z h' := by
  obtain ⟨f1, f2, f3, oe, vs, T, oT, ts, he, hz, hd, h1, n, ne, hT, hdT, h3⟩ := x
  exact ⟨fun b o q => k b o (f1 b o q), f2, f3.of_keeps fun b o q _ => ⟨o, k b o q, rfl⟩, oe, vs, T, oT, ts, k _ _ he, hz, hd, h1, n, ne, k _ _ hT, hdT, h3⟩
/-- what is wished of an error that the body lets out -/
def wTry (cm : Value → Option Bool) (i : Nat) (ts : Addr → Value → Option Addr → TS) (Wout : WX) (D : Ends) : WX := fun cls d σ H =>
  ∃ b, cm cls = some b ∧ (b = true → ∀ a, H a = none → ts a cls d { nx := fun σ' H' => D.nx (σ'.set i none) H', rt := D.rt, bk := fun σ' H' => D.bk (σ'.set i none) H', ct := fun σ' H' => D.ct (σ'.set i none) H' } (σ.set i (some (.ref a))) H) ∧ (b = false → Wout cls d σ H)
section
variable {X : Cx} {t : Expr} {n : Str} {cm : Value → Option Bool} {i : Nat} {body suite : List Stmt} {b₀ : Stmt} {pos pos' : Pos} {tb : WX → TS} {ts : Addr → Value → Option Addr → TS} {Wout : WX}
theorem ps_tryT (hst : X.stack = X.env :: X.outer) (hfr : X.env.frame = some X.env.locals) (hN : X.N.Nodup) (hi : X.N[i]? = some n) (hln : X.env.kindOf n = some .local) (ht : Tests X t cm) (tk : Takes X Wout)
    (hb : ∀ (W : WX) (pn : List (Addr × Obj)) (xe : Value → Shared → Prop), Takes (X.tr pn xe) W → PassesOwn (model X.prog X.w) X.A X.env xe → PSs (X.tr pn xe) body (tb W))
    (hsu : ∀ (a : Addr) (oe : Obj) (cls : Value) (d : Option Addr) (pn : List (Addr × Obj)), Zc cls d oe → (∃ vs, oe.data = .fields vs) → PSs (X.suite a ((a, oe) :: pn)) (b₀ :: suite) (ts a cls d)) :
    PS X (.Try body [.ExceptHandler (some t) (some n) (b₀ :: suite) pos'] [] [] pos) (fun D σ H => tb (wTry cm i ts Wout D) D σ H) := by
  refine ⟨fun pins s σ H D I want => ?_⟩
  have ok := I.ok
  have frames : X.A.frames = some (X.env :: X.outer) := by rw [ok.frames, hst]
  refine wpAny_Try_except (wpAny_mono ((hb (wTry cm i ts Wout D) (X.pn ++ pins) (fun e s₁ => wpAny (model X.prog X.w) X.A (noteFrame e X.env) (fun _ s₂ => wpAny (model X.prog X.w) X.A (setFlight e none)
    (fun _ s₃ => wpAny (model X.prog X.w) X.A (handleBy e X.env [.ExceptHandler (some t) (some n) (b₀ :: suite) pos']) (SP X pins D) X.xe s₃) X.xe s₂) X.xe s₁) (fun u s' xx => ?_) PassesOwn.looking).run [] s σ H D (I.toTry _) want) (fun f s1 sp => ?_) (fun e s1 he => he))
  · obtain ⟨a, B, sI, pn', σ', H', cls, d, rfl, J', ground, slots, sky, na, os, ag, b, hb1, yes, no⟩ := xx
    have J : Inv X pins σ' H' sI := J'.ofTry ok
    rw [show (X.tr (X.pn ++ pins) _).stack = X.env :: X.outer from hst] at sky
    show wpAny (model X.prog X.w) X.A (noteFrame (.ref a) X.env) _ _ _
    refine Sky.land Zc.steady frames hfr sky fun h3 fly slots3 => ?_
    have J3 : Inv X pins σ' H' { s' with heap := h3 } := J.landed ground fly.1 (slots.trans slots3) os ag
    obtain ⟨o3, v3, at3, z3, d3⟩ := fly.there
    have outside : a ∉ frs (X.env :: X.outer) := fun hm => by
      obtain ⟨_, o', e', hnf⟩ := fly.2.2.1.mem hm
      rw [at3] at e'
      cases e'
      exact hnf _ d3
    have nL : a ≠ X.env.locals := fun z => outside (List.mem_filterMap.mpr ⟨X.env, List.mem_cons_self, by rw [hfr, z]⟩)
    have nF : a ∉ X.fs := fun hm => by
      obtain ⟨e, he, q⟩ := List.mem_filterMap.mp hm
      exact outside (List.mem_filterMap.mpr ⟨e, List.mem_cons_of_mem _ he, q⟩)
    have typ : W.Looks (model X.prog X.w) h3 (typeOf (.ref a)) cls := fun A Q E s k q => wpAny_typeOf_ref (k _ _ at3) (by rw [z3.1]; exact q)
    refine wpAny_handleBy_cons (codeAny_handlers_test (ht a (a, o3) (X.pn ++ pins) σ' H' _ cls b _ _ _ (J3.suite at3 d3 na nL nF) typ hb1 fun h5 t5 k5 => ?_)) (by intro q; cases q)
    have fly5 := FlyingZ.kept fly k5
    have slots5 : sI.heap.UpToSlots h5 := (slots.trans slots3).trans (Heap.UpToSlots.of_keeps k5)
    cases b with
    | true =>
      refine codeAny_handlers_suite_as (lands_againZ (s := { s' with heap := h5, toks := t5 }) fly5 fun h4 fly4 slots4 => ?_)
      have J4 : Inv X pins σ' H' { s' with heap := h4, toks := t5 } := J.landed ground fly4.1 (slots5.trans slots4) os ag
      obtain ⟨o4, v4, at4, z4, d4⟩ := fly4.there
      refine store_ok (X := X.suite a ((a, o4) :: (X.pn ++ pins))) (v := .ref a) (J4.suite at4 d4 na nL nF) hN hi (.inl hln) rfl (fun s5 S5 => ?_) (.inr hln)
      refine wpAny_mono ((hsu a o4 cls d (X.pn ++ pins) z4 ⟨_, d4⟩).run [] s5 _ H' _ S5 (yes rfl a na)) (fun f s6 sp => ?_) (fun _ _ z => False.elim z)
      have away : ∀ {σ6 : L2.St} {H6 : Hp} {Q : Shared → Prop}, Inv (X.suite a ((a, o4) :: (X.pn ++ pins))) [] σ6 H6 s6 → (∀ s7, Inv X pins (σ6.set i none) H6 s7 → Q s7) →
          wpAny (model X.prog X.w) X.A (do bindName X.env n .none; unbindBehindTheSuite X.env n pos') (fun _ s7 => Q s7) X.xe s6 := fun {σ6 H6 Q} S6 q => gone_ok (S6.unsuite ok) hN hi hln q
      match f, sp with
      | .next, ⟨σ6, H6, S6, q6⟩ => exact away S6 fun s7 J7 => ⟨_, _, J7, q6⟩
      | .brk, ⟨σ6, H6, S6, q6⟩ => exact away S6 fun s7 J7 => ⟨_, _, J7, q6⟩
      | .cont, ⟨σ6, H6, S6, q6⟩ => exact away S6 fun s7 J7 => ⟨_, _, J7, q6⟩
      | .ret u, ⟨w6, σ6, H6, S6, r6, q6⟩ => exact away S6 fun s7 J7 => ⟨_, _, _, J7, r6, q6⟩
    | false =>
      show wpAny _ X.A (handleBy (.ref a) X.env []) _ _ _
      refine wpAny_handleBy_nil ?_
      obtain ⟨k1, k2, k3, oe, vs, T, oT, ts', he, hz, hd, h1, hr⟩ := id fly5
      unfold PySem.passOn
      refine wpAny_bind (wpAny_field (s := { s' with heap := h5, toks := t5 }) he hd h1 ?_)
      rw [if_neg (show ¬ ((Value.ref T == Value.none) = true) from by simp)]
      have leave : wpAny (model X.prog X.w) X.A (setFlight (.ref a) X.env.frame) (fun _ s4 => wpAny (model X.prog X.w) X.A (throw (.ref a) : Sem Flow) (SP X pins D) X.xe s4) X.xe { s' with heap := h5, toks := t5 } := by
        rw [hfr]
        refine setFlight_upZ (s := { s' with heap := h5, toks := t5 }) fly5 fun h4 held slots4 => wpAny_throw (tk _ _ ?_)
        exact ⟨a, B, sI, pins, σ', H', cls, d, rfl, J, ground, slots5.trans slots4, .inr (.inr (by rw [hst]; exact held)), na, os, ag, no rfl⟩
      first
        | exact wpAny_bind (wpAny_pure (wpAny_bind leave))
        | exact wpAny_bind leave
  · match f, sp with
    | .next, ⟨σ', H', J', q⟩ => exact wpAny_execs_nil ⟨σ', H', J'.ofTry ok, q⟩
    | .brk, ⟨σ', H', J', q⟩ => exact ⟨σ', H', J'.ofTry ok, q⟩
    | .cont, ⟨σ', H', J', q⟩ => exact ⟨σ', H', J'.ofTry ok, q⟩
    | .ret u, ⟨w, σ', H', J', r, q⟩ => exact ⟨w, σ', H', J'.ofTry ok, r, q⟩
end
end DL
namespace DL
open PySem PySem.Spec PyProof.Rows L2 PySem.HandSPX
variable [Nm]

/-! ### try, on trees -/
abbrev Bx := (Addr → Prop) → L2.Hp → Addr → Prop
/-- the error at a that is handled: its dict at dx keeps fs -/
def hxR (K : Fr) (a dx : Addr) (fs : List (Str × D)) : Bx := fun F H b => b = a ∧ F dx ∧ ∃ fvs, H dx = some (.xd fvs) ∧ Fts K F H fvs fs
/-- what comes out, whatever the box -/
noncomputable def oneFl (k : Bx → Fl) : Fl := open Classical in if h : ∃ r, ∀ R, k R = r then h.choose else .stuck
theorem oneFl_is {k : Bx → Fl} {r : Fl} (h : ∀ R, k R = r) : oneFl k = r := by
  have e : ∃ r, ∀ R, k R = r := ⟨r, h⟩
  unfold oneFl
  rw [dif_pos e]
  exact (e.choose_spec (fun _ _ _ => True)).symm.trans (h _)
theorem oneFl_at (k : Bx → Fl) (R : Bx) : oneFl k = .stuck ∨ oneFl k = k R := by
  by_cases e : ∃ r, ∀ R, k R = r
  · refine .inr ?_
    unfold oneFl
    rw [dif_pos e]
    exact (e.choose_spec R).symm
  · refine .inl ?_
    unfold oneFl
    rw [dif_neg e]
/-- behind the suite: the error's name is gone -/
def outF (i : Nat) : Fl → Fl
  | .nx S => if freeSl S i then .nx (S.set i .un) else .stuck
  | .bk S => if freeSl S i then .bk (S.set i .un) else .stuck
  | .ct S => if freeSl S i then .ct (S.set i .un) else .stuck
  | .rt (.v d) S => if freeSl S i then .rt (.v d) (S.set i .un) else .stuck
  | .rt (.ow d) S => if freeSl S i then .rt (.ow d) (S.set i .un) else .stuck
  | _ => .stuck
noncomputable def tryS (i : Nat) (cs : Addr → Option Bool) (g : DS → Fl) (h : Bx → Addr → List (Str × D) → DS → Fl) : DS → Fl := fun S => match g S with
  | .exc C fs S' => match cs C with
    | some true => if freeSl S' i then oneFl fun R => outF i (h R C fs (S'.set i (.fr (.box R)))) else .stuck
    | some false => .exc C fs S'
    | none => .stuck
  | o => o
section
variable {K : Fr} {W : WX} {B : Bs} {F : Addr → Prop} {H : Hp} {σ : L2.St} {S : DS} {E : Ends}
theorem Rel.frzX {dx : Addr} {fvs : List (Str × V)} (r : Rel K B F S σ H) (hx : H dx = some (.xd fvs)) (h0 : B.H0 dx = none) : Ext F H (fun b => F b ∨ b = dx) H ∧ Rel K B (fun b => F b ∨ b = dx) S σ H := by
  have e : Ext F H (fun b => F b ∨ b = dx) H := ⟨fun _ h => .inl h, fun _ _ _ h _ => h, fun _ _ h => h⟩
  refine ⟨e, r.len, fun i s hs => ?_, r.dis, fun b h => ?_, fun b h => .inl (r.f0 b h), fun b h => ?_, r.keep, r.own, r.par, r.onl, r.f0t, r.tabs⟩
  · obtain ⟨o, ho, hsl⟩ := r.sl i s hs
    refine ⟨o, ho, ?_⟩
    cases s with
    | un => trivial
    | fr d => obtain ⟨v, h1, h2⟩ := hsl; exact ⟨v, h1, h2.ext e⟩
    | ow p d =>
      obtain ⟨b, h1, h2, h3⟩ := hsl
      refine ⟨b, h1, fun z => ?_, h3.ext e fun _ h => h⟩
      rcases z with z | z
      · exact h2 z
      · rw [z] at h3
        cases d with
        | lst ds => obtain ⟨vs, h4, _⟩ := h3; rw [hx] at h4; cases h4
        | ins C fs => obtain ⟨d2, f2, h4, _⟩ := h3; rw [hx] at h4; cases h4
        | _ => exact h3.elim
  · rcases h with h | h
    · exact r.trk b h
    · rw [h]; exact ⟨_, hx⟩
  · rcases h with h | h
    · exact r.new b h
    · rw [h]; exact .inr h0
theorem Rel.gone {i : Nat} (r : Rel K B F S σ H) (fs : freeSl S i = true) : Rel K B F (S.set i .un) (σ.set i none) H := by
  have li : i < S.length := by
    refine Nat.lt_of_not_le fun z => ?_
    unfold freeSl at fs
    rw [List.getElem?_eq_none z] at fs
    cases fs
  have lσ : i < σ.length := by rw [r.len]; exact li
  have np : ∀ d, S[i]? ≠ some (.ow true d) := fun d z => by
    unfold freeSl at fs
    rw [z] at fs
    cases fs
  have old : ∀ {j : Nat} {p : Bool} {d : D}, (S.set i .un)[j]? = some (.ow p d) → i ≠ j ∧ S[j]? = some (.ow p d) := by
    intro j p d h
    by_cases z : i = j
    · subst z
      rw [List.getElem?_set_self li] at h
      cases h
    · rw [List.getElem?_set_ne z] at h
      exact ⟨z, h⟩
  refine ⟨by rw [List.length_set, List.length_set]; exact r.len, fun j t ht => ?_, fun j k a p q d e h1 h2 h3 h4 => ?_, r.trk, r.f0, r.new, r.keep, fun j a d h1 h2 => ?_, fun j a h => ?_, fun j a d h1 h2 => ?_, r.f0t, r.tabs⟩
  · by_cases z : i = j
    · subst z
      rw [List.getElem?_set_self li] at ht
      cases ht
      exact ⟨none, List.getElem?_set_self lσ, trivial⟩
    · rw [List.getElem?_set_ne z] at ht ⊢
      exact r.sl j t ht
  · obtain ⟨n1, g1⟩ := old h1
    obtain ⟨n2, g2⟩ := old h2
    rw [List.getElem?_set_ne n1] at h3
    rw [List.getElem?_set_ne n2] at h4
    exact r.dis j k a p q d e g1 g2 h3 h4
  · obtain ⟨n1, g1⟩ := old h1
    rw [List.getElem?_set_ne n1] at h2
    exact r.own j a d g1 h2
  · obtain ⟨g1, d, g2⟩ := r.par j a h
    have n1 : i ≠ j := fun z => by
      subst z
      exact np d g2
    rw [List.getElem?_set_ne n1, List.getElem?_set_ne n1]
    exact ⟨g1, d, g2⟩
  · obtain ⟨n1, g1⟩ := old h1
    rw [List.getElem?_set_ne n1] at h2
    exact r.onl j a d g1 h2
/-- the ends of the suite -/
def endsX (i : Nat) (E : Ends) : Ends := { nx := fun σ' H' => E.nx (σ'.set i none) H', rt := E.rt, bk := fun σ' H' => E.bk (σ'.set i none) H', ct := fun σ' H' => E.ct (σ'.set i none) H' }
theorem PoS.outF {i : Nat} {o : Fl} {W2 : WX} (p : PoS K W B F H E (outF i o)) : PoS K W2 B F H (endsX i E) o := by
  cases o with
  | stuck => exact p
  | exc C fs S' => exact p.elim
  | nx S' =>
    unfold DL.outF at p
    dsimp only at p
    split at p
    · rename_i c
      exact fun σ' H' F' x r => p _ H' F' x (r.gone c)
    · exact p.elim
  | bk S' =>
    unfold DL.outF at p
    dsimp only at p
    split at p
    · rename_i c
      exact fun σ' H' F' x r => p _ H' F' x (r.gone c)
    · exact p.elim
  | ct S' =>
    unfold DL.outF at p
    dsimp only at p
    split at p
    · rename_i c
      exact fun σ' H' F' x r => p _ H' F' x (r.gone c)
    · exact p.elim
  | rt r S' =>
    unfold DL.outF at p
    cases r with
    | bw j => exact p.elim
    | v d =>
      dsimp only at p
      split at p
      · rename_i c
        exact fun x σ' H' F' e rl v => p x _ H' F' e (rl.gone c) v
      · exact p.elim
    | ow d =>
      dsimp only at p
      split at p
      · rename_i c
        refine fun x σ' H' F' e rl v => p x _ H' F' e (rl.gone c) ?_
        obtain ⟨a, h1, h2, h3, h4, h5, h6⟩ := v
        refine ⟨a, h1, h2, h3, h4, h5, fun j pp e2 h z => ?_⟩
        by_cases y : i = j
        · subst y
          rw [List.getElem?_set_self (by
            have := (List.getElem?_eq_some_iff.mp h).1
            rw [List.length_set] at this
            exact this)] at h
          cases h
        · rw [List.getElem?_set_ne y] at h z
          exact h6 j pp e2 h z
      · exact p.elim
end
section
variable {X : Cx} {W : WX}
theorem sv_try {t : Expr} {n : Str} {cm : Value → Option Bool} {cs : Addr → Option Bool} {i : Nat} {body suite : List Stmt} {b₀ : Stmt} {pos pos' : Pos} {g : DS → Fl} {h : Bx → Addr → List (Str × D) → DS → Fl}
    (hst : X.stack = X.env :: X.outer) (hfr : X.env.frame = some X.env.locals) (hN : X.N.Nodup) (hi : X.N[i]? = some n) (hln : X.env.kindOf n = some .local) (ht : Tests X t cm) (hcs : ∀ C b, cs C = some b → cm (.ref C) = some b) (tk : Takes X W)
    (hb : ∀ (W2 : WX) (pn : List (Addr × Obj)) (xe : Value → Shared → Prop), Takes (X.tr pn xe) W2 → PassesOwn (model X.prog X.w) X.A X.env xe → SVs (X.tr pn xe) W2 body g)
    (hsu : ∀ (a : Addr) (oe : Obj) (C dx : Addr) (fs : List (Str × D)) (pn : List (Addr × Obj)), cs C = some true → Zc (.ref C) (some dx) oe → (∃ vs, oe.data = .fields vs) → SVs (X.suite a ((a, oe) :: pn)) (fun _ _ _ _ => False) (b₀ :: suite) (h (hxR X.K a dx fs) C fs)) :
    SV X W (.Try body [.ExceptHandler (some t) (some n) (b₀ :: suite) pos'] [] [] pos) (tryS i cs g h) := by
  have key := ps_tryT (cm := cm) (tb := fun W2 => tS X.K W2 g) (pos := pos) (pos' := pos')
    (ts := fun a cls d => fun D σ H => ∃ C dx fs, cls = .ref C ∧ d = some dx ∧ cs C = some true ∧ tS X.K (fun _ _ _ _ => False) (h (hxR X.K a dx fs) C fs) D σ H)
    hst hfr hN hi hln ht tk (fun W2 pn xe tk2 ps => (hb W2 pn xe tk2 ps).ps) (b₀ := b₀) (suite := suite) (fun a oe cls d pn hz hf => by
      refine ⟨fun pins s σ H D I ⟨C, dx, fs, e1, e2, h1, h2⟩ => ?_⟩
      subst e1 e2
      exact (hsu a oe C dx fs pn h1 hz hf).ps.run pins s σ H D I h2)
  refine ⟨PS.imp key fun E σ H ⟨B, F, S, rel, q⟩ => ⟨B, F, S, rel, ?_⟩⟩
  unfold tryS at q
  cases e : g S with
  | nx S' => rw [e] at q; exact q
  | rt r S' => rw [e] at q; exact q
  | bk S' => rw [e] at q; exact q
  | ct S' => rw [e] at q; exact q
  | stuck => rw [e] at q; exact q
  | exc C fs S' =>
    rw [e] at q
    dsimp only at q
    intro dx fvs σ' H' F' x r hx h0 ft
    cases hc : cs C with
    | none => rw [hc] at q; exact q.elim
    | some b =>
      rw [hc] at q
      refine ⟨b, hcs C b hc, fun hb a na => ?_, fun hb => ?_⟩
      · subst hb
        dsimp only at q
        split at q
        · rename_i fr
          refine ⟨C, dx, fs, rfl, rfl, hc, ?_⟩
          obtain ⟨x2, r2⟩ := r.frzX hx h0
          have bx : At X.K (fun b => F' b ∨ b = dx) H' (.ref a) (.box (hxR X.K a dx fs)) := .box fun F2 H2 x3 =>
            ⟨rfl, x3.sub _ (.inr rfl), fvs, x3.kp (.inr rfl) hx, (ft.ext x2).ext x3⟩
          refine ⟨B, _, _, r2.setV (s := .fr (.box (hxR X.K a dx fs))) fr bx, ?_⟩
          rcases oneFl_at (fun R => outF i (h R C fs (S'.set i (.fr (.box R))))) (hxR X.K a dx fs) with z | z
          · rw [z] at q
            exact q.elim
          · rw [z] at q
            exact (PoS.ext (x.trans x2) q).outF
        · exact q.elim
      · subst hb
        exact q dx fvs σ' H' F' x r hx h0 ft
end
end DL
namespace DL
open PySem PySem.Spec PyProof.Rows L2 PySem.HandSPX
variable [Nm]

/-! ### isinstance of the error that is handled -/
theorem findObj_cl {K : Fr} {C : Addr} {y : Str} {a g : Value} {od : Option Obj} (hc : (W.clsIn K C).isSome = true) (ha : W.findIn K (.ref C) y = some (some a)) (hg : W.specialIn K a "__get__" = some (some g)) (ht : W.takesIn K a = some true) : W.findObj K C od y = some (.bind g a) := by
  obtain ⟨cd, hc⟩ := Option.isSome_iff_exists.mp hc
  unfold W.findObj
  rw [hc, Option.bind_some, ha, Option.bind_some]
  simp [hg, ht]
section
variable {prog : Program} {w : World} {A : Around} {E : Value → Shared → Prop} {s : Shared} {K : Fr} {x D : Addr} {ox : Obj} {od : Option Obj}
open W Calls in
theorem err_class {Q : Option Value → Shared → Prop} (c : L2.ExcC K D) (kin : K.In s.heap) (inst : InstAt s.heap x ox D od) (go : Q (some (.ref D)) { s with toks := s.toks + 1 }) : wpAny (model prog w) A (getAttr? (.ref x) "__class__") Q E s := by
  have found : findObj K D od "__class__" = some (.bind (.builtin "getset_descriptor.__get__") (.builtin "object.__class__")) := findObj_cl (by obtain ⟨cd, hc, _⟩ := any_some c.hd; rw [hc]; rfl) c.ha c.hn c.ht
  obtain ⟨hp, gs, dr, tk, ost⟩ := s
  have lt := inst.type (M := model prog w)
  have lga := looks_findIn (M := model prog w) kin c.hg
  have lgt := looks_findIn (M := model prog w) kin c.hk
  have lf := looks_find (M := model prog w) kin inst found
  have isE : Looks (model prog w) hp (isInstance (.ref x) (.type "BaseException")) true := lt.andThen (looks_subIn kin c.hs)
  have n1 : (Value.builtin "BaseException.__getattribute__" == Value.builtin "object.__getattribute__") = false := by decide +kernel
  have n2 : (onTheHeap (Value.ref D) && Value.builtin "BaseException.__getattribute__" == Value.builtin "object.__getattribute__") = false := by rw [n1]; rfl
  have n3 : (false && onTheHeap (Value.builtin "BaseException.__getattribute__")) = false := rfl
  unfold getAttr? getAttrBy? getAttrBy
  apply wpAny_bind
  apply wpAny_mkText
  apply wpAny_bind
  refine wpAny_attempt (wpAny_holding (wpAny_bind (lt.at (wpAny_bind (lga.at ?_)))))
  show wpAny _ _ (if (onTheHeap (Value.ref D) && Value.builtin "BaseException.__getattribute__" == Value.builtin "object.__getattribute__") = true then _ else _) _ _ _
  rw [n2, if_neg Bool.false_ne_true]
  unfold getAttrByItsOwn hookBefore
  apply wpAny_bind
  rw [if_pos (show onTheHeap (Value.ref D) = true from rfl)]
  apply lgt.at
  apply wpAny_bind
  refine wpAny_attempt (wpAny_holding ?_)
  unfold callGetattribute
  rw [n3, if_neg Bool.false_ne_true]
  unfold boundAndCalled
  rw [PySem.F.excAttr_ValueError.ga.bind (.ref x)]
  apply wpAny_bind
  apply wpAny_pure
  show wpAny _ _ (call (.builtin "BaseException.__getattribute__") [.ref x, .str "__class__" tk]) _ _ _
  apply wpAny_call
  apply codeAny_call_builtin PySem.F.excAttr_ValueError.ga.plain PySem.F.entry_bexc_ga
  refine @check_slot (model prog w) _ _ ⟨hp, gs, dr, tk + 1, ost⟩ "BaseException.__getattribute__" "BaseException" "__getattribute__" (.ref x) [.str "__class__" tk] [] _ (by decide +kernel) (by decide +kernel) isE (PySem.F.args_bexc_ga (.ref x) (.str "__class__" tk)) ?_
  unfold Builtin.«object.__getattribute__»
  apply wpAny_bind
  refine wpAny_of_eq (a := ((Value.ref x : Value), [Value.str "__class__" tk])) (by first | rfl | (simp only [slotArgs]; rfl)) ?_
  refine wpAny_bind (wpAny_pure (wpAny_bind (lt.at (wpAny_bind (lf.at ?_)))))
  show wpAny _ _ (holding [Value.builtin "object.__class__"] (call (.builtin "getset_descriptor.__get__") [.builtin "object.__class__", .ref x, .ref D]) >>= ret) _ _ _
  apply wpAny_bind
  refine wpAny_holding (wpAny_call (class_get (s := ⟨hp, gs, dr, tk + 1, ost⟩) (ox := ox) (od := od) kin inst c.hm ?_))
  apply wpAny_pure
  show wpAny _ _ (handedOut (.ref D)) _ _ _
  rw [handedOut_of (v := .ref D) rfl]
  first
    | exact wpAny_pure (wpAny_pure go)
    | exact wpAny_pure go
    | exact wpAny_pure (wpAny_bind (wpAny_pure (wpAny_pure go)))
open W in
theorem err_kit (c : L2.ExcC K D) : KitX K (.ref x) (.ref D) (fun h => InstAt h x ox D od) where
  ty := fun _ _ _ I => I.type
  ca := fun kin I k => err_class c kin I k
  it := fun _ _ kin _ => by
    obtain ⟨cd, hc, _⟩ := any_some c.hd
    unfold clsIn at hc
    split at hc
    · rename_i c1 d1 cd1 sl1 ho
      intro A1 Q1 E1 s1 k q
      unfold isType loadHead
      exact wpAny_bind (wpAny_loadPart (k _ _ (kin _ _ ho)) (wpAny_pure q))
    · cases hc
  ne := fun h tp dd its n sl kin at_ => by
    refine Bool.eq_false_iff.mpr fun q => ?_
    have e : D = tp := Value.ref.inj (beq_iff_eq.mp q)
    subst e
    obtain ⟨cd, hc, _⟩ := any_some c.hd
    unfold clsIn at hc
    split at hc
    · rename_i c1 d1 cd1 sl1 ho
      have z := (kin _ _ ho).symm.trans at_
      cases z
    · cases hc
end

/-- isinstance(e, c), e the error at a that is handled -/
def rIsX (K : Fr) (D a dx : Addr) : List V → Hp → VK → Prop := fun xs H Q => ∃ (c : V) (cv : Value) (b : Bool) (fvs : List (Str × V)), xs = [.ref a, c] ∧ H dx = some (.xd fvs) ∧ (∀ u, RelV c u → u = cv) ∧ W.kitOne K (.ref D) cv = some b ∧ Q (.bl b) H
theorem call_isX {X : Cx} {a D dx : Addr} {oe : Obj} (c : L2.ExcC X.K D) (hm : (a, oe) ∈ X.pn) (hz : Zc (.ref D) (some dx) oe) (hf : ∃ vs, oe.data = .fields vs) : CallR X (.builtin "isinstance") (rIsX X.K D a dx) := by
  intro pins s σ H xs us Q I r h
  obtain ⟨y, cv, b, fvs, rfl, hx, hcv, e, q⟩ := h
  cases r with
  | cons rx rr =>
    cases rr with
    | cons rt rr =>
      cases rr
      cases rx
      have ec := hcv _ rt
      subst ec
      obtain ⟨hget, _⟩ := I.pin (a, oe) (List.mem_append_left _ hm)
      obtain ⟨vs, hv⟩ := hf
      have hob : ObjOk X.prog X.w H s.heap dx (.xd fvs) := I.hok dx _ hx
      obtain ⟨mA, hns, _⟩ := hob
      obtain ⟨od, ho, _⟩ := lookIn_ns hns
      have J : W.InstAt s.heap a oe D (some od) := ⟨hget, hz.1, by unfold W.notCls; rw [hv] <;> rfl, by rw [hz.2]; exact ho⟩
      exact W.kia_one (err_kit c) I.kIn J e (fun z => nomatch z) fun tk => ⟨.bl b, H, I.kept (t' := tk) fun _ _ z => z, rfl, q⟩
open Classical in
noncomputable def isX (R : Bx) (T : D → Option Bool) : List D → Option DL.R
  | [.box R', c] => if R' = R then (match T c with
    | some b => some (.v (.bl b))
    | none => none) else none
  | _ => none
/-- T tells, of errors of the class at C, what isinstance says -/
def KitT (K : Fr) (C : Addr) (T : D → Option Bool) : Prop := ∀ d b, T d = some b → (∃ n, d = .ty n ∧ W.kitOne K (.ref C) (.type n) = some b) ∨ (∃ a', d = .cls a' ∧ W.kitOne K (.ref C) (.ref a') = some b)
theorem isX_ok {K : Fr} {a C dx : Addr} {fs : List (Str × D)} {T : D → Option Bool} (hT : KitT K C T) : CaD K (rIsX K C a dx) (isX (hxR K a dx fs) T) := by
  intro B F S σ H xs ds rr Q rel hx e p
  unfold isX at e
  split at e
  · rename_i R' d
    split at e
    · rename_i eR
      subst eR
      cases ht : T d with
      | none => rw [ht] at e; cases e
      | some b =>
        rw [ht] at e
        cases e
        match hx with
        | .cons h1 (.cons h2 .nil) =>
          rcases h1 with h1 | ⟨_, _, h1⟩
          · cases h1 with
            | box h1 =>
              obtain ⟨rfl, _, fvs, hxd, _⟩ := h1 F H (Ext.refl F H)
              rcases hT d b ht with ⟨n, rfl, k⟩ | ⟨c, rfl, k⟩
              · refine ⟨_, .type n, b, fvs, rfl, hxd, fun u r => ?_, k, PoOk.val p rel (.bl b)⟩
                rw [h2.ty] at r
                exact r
              · refine ⟨_, .ref c, b, fvs, rfl, hxd, fun u r => ?_, k, PoOk.val p rel (.bl b)⟩
                rw [h2.cls] at r
                exact r
          · exact h1.elim
    · cases e
  · cases e
section
variable {X : Cx} {W : WX} {e o : Expr} {es : List Expr} {f : DS → Out} {ga : DS → AOut} {pos p : Pos}
theorem ev_isX {a C dx : Addr} {oe : Obj} {fs : List (Str × D)} {T : D → Option Bool} (c : L2.ExcC X.K C) (hT : KitT X.K C T) (hmem : (a, oe) ∈ X.pn) (hz : Zc (.ref C) (some dx) oe) (hf : ∃ vs, oe.data = .fields vs) (hg : Gl X "isinstance") (hm : X.mg "isinstance" = none) (ha : AV X W (e :: es) ga)
    (he : starEach (e :: es) X.env = (false, eval e X.env) :: starEach es X.env := by rfl) (hpl : (backTo pos (starEach es X.env)).any (·.1) = false := by rfl) : EV X W (.Call (.Name "isinstance" p) (e :: es) [] pos) (liftL (isX (hxR X.K a dx fs) T) ga) :=
  ev_cb (call_isX c hmem hz hf) (isX_ok hT) hg hm boot_isinstance ha (by decide) (by decide) he hpl

/-! ### what the handled error keeps -/
open Classical in
noncomputable def getX (R : Bx) (fs : List (Str × D)) (y : Str) (f : DS → Out) : DS → Out := bnd f fun r S => match r with
  | .v (.box R') => if R' = R then (match fs.lookup y with
    | some d => .ok (.v d) S
    | none => .stuck) else .stuck
  | _ => .stuck
open Classical in
theorem ev_getX {a C dx : Addr} {fld y : Str} {oe : Obj} {fs : List (Str × D)} (T : ErrC X.K C fld) (hno : PySem.W.findIn X.K (.ref C) y = some none) (hmem : (a, oe) ∈ X.pn) (hz : Zc (.ref C) (some dx) oe) (hf : ∃ vs, oe.data = .fields vs) (he : EV X W e f)
    (hb : attributeBase e y X.env (eval e X.env) = eval e X.env := by rfl) : EV X W (.Attribute e y pos) (getX (hxR X.K a dx fs) fs y f) := by
  refine ⟨⟨fun pins s σ H Q I ⟨B, F0, S, rel, q⟩ => ?_⟩⟩
  obtain ⟨B1, F1, S1, rel1, p1⟩ := tE_bnd rel q
  refine attr_of hb (thn (he.pe.run pins s σ H _ I ⟨B1, F1, S1, rel1, p1⟩) fun u s1 ⟨x1, H1, I1, rx, F2, S2, r, x2, rel2, rv2, p2⟩ => ?_)
  have key : ∃ d, r = .v (.box (hxR X.K a dx fs)) ∧ fs.lookup y = some d ∧ Po X.K W B S2 F2 H1 σ Q (.ok (.v d) S2) := by
    cases r with
    | ow d => exact p2.elim
    | bw i => exact p2.elim
    | v d =>
      cases d with
      | box R' =>
        by_cases eR : R' = hxR X.K a dx fs
        · cases hl : fs.lookup y with
          | none =>
            have z : Po X.K W B S2 F2 H1 σ Q (if R' = hxR X.K a dx fs then (match fs.lookup y with
              | some d => .ok (.v d) S2
              | none => .stuck) else .stuck) := p2
            rw [if_pos eR, hl] at z
            exact z.elim
          | some d =>
            have z : Po X.K W B S2 F2 H1 σ Q (if R' = hxR X.K a dx fs then (match fs.lookup y with
              | some d => .ok (.v d) S2
              | none => .stuck) else .stuck) := p2
            rw [if_pos eR, hl] at z
            exact ⟨d, by rw [eR], rfl, z⟩
        · have z : Po X.K W B S2 F2 H1 σ Q (if R' = hxR X.K a dx fs then (match fs.lookup y with
              | some d => .ok (.v d) S2
              | none => .stuck) else .stuck) := p2
          rw [if_neg eR] at z
          exact z.elim
      | _ => exact p2.elim
  obtain ⟨d, rfl, hl, p3⟩ := key
  have h1 : At X.K F2 H1 x1 (.box (hxR X.K a dx fs)) := rv2
  cases h1 with
  | box h1 =>
    obtain ⟨rfl, _, fvs, hxd, ft⟩ := h1 F2 H1 (Ext.refl F2 H1)
    obtain rfl : u = Value.ref _ := rx
    obtain ⟨v, hv, hat⟩ := ft.look hl
    obtain ⟨ha, _⟩ := I1.pin (_, oe) (List.mem_append_left _ hmem)
    obtain ⟨vs, hd⟩ := hf
    have hob : ObjOk X.prog X.w H1 s1.heap dx (.xd fvs) := I1.hok dx _ hxd
    obtain ⟨mA, hns, hr⟩ := hob
    obtain ⟨od, ho, look⟩ := lookIn_ns hns
    obtain ⟨w, hw, rw_⟩ := RelO.some_of (v := v) (o := mA y) (by rw [← hv]; exact hr y)
    have J : PySem.W.InstAt s1.heap _ oe C (some od) := ⟨ha, hz.1, by unfold PySem.W.notCls; rw [hd] <;> rfl, by rw [hz.2]; exact ho⟩
    exact HandSPX.exc_get I1.kIn J T.ga T.gg T.exC (PySem.W.findObj_own T.hdC hno rfl (by rw [look, hw])) (handed_of rw_) ⟨v, H1, I1.tok _, rw_, PoOk.val p3 rel2 hat⟩
end
end DL
namespace DL
open PySem PySem.Spec PyProof.Rows L2 PySem.HandSPX
variable [Nm]

/-! ### l.count(x) of flat values -/
def rCnt (K : Fr) : V → List V → Hp → VK → Prop := fun x xs H Q => ∃ (a : Addr) (ys : List V) (y : V), x = .ref a ∧ xs = [y] ∧ SqL K H a ys ∧ flatV y = true ∧ ys.all flatV = true ∧ Q (.int ((ys.countP fun z => eqV z y : Nat) : Int)) H
theorem count_vals {y : V} : ∀ {xs : List V} {us : List Value}, Vals xs us → xs.all flatV = true → us.countP (eqU y) = xs.countP fun z => eqV z y
  | _, _, .nil, _ => rfl
  | x :: xs, u :: us, .cons r t, f => by
    rw [List.all_cons, Bool.and_eq_true] at f
    rw [List.countP_cons, List.countP_cons, count_vals t f.2, eqU_of r f.1]
theorem mt_cnt {X : Cx} : MtR X "list.count" (rCnt X.K) := by
  intro pins s σ H x xs v us Q I rx rxs h
  obtain ⟨a, ys, y, rfl, rfl, hs, fy, fys, q⟩ := h
  cases rx
  cases rxs with
  | cons ry rt =>
    rename_i uy ut
    cases rt
    obtain ⟨its, rv, ⟨⟨cls, dd, data, sl⟩, n, ho, hc, hdn, hd⟩, hlen⟩ := I.list hs
    simp only at hc hd
    subst hc hd
    refine call_meets PySem.F.slot_list_count ⟨_, ho, rfl⟩ PySem.F.entry_list_count (PySem.F.args_list_count_2 _ _) (SeqAt.list_countAt a its.toArray n dd sl uy (eqU y)) ⟨ho, fun u hu => mem_eqAt ry fy rv fys u (by simpa using hu), ?_⟩
    refine ⟨.int ((ys.countP fun z => eqV z y : Nat) : Int), H, I.tok _, ⟨s.toks, ?_⟩, q⟩
    rw [show its.toArray.toList = its from rfl, count_vals rv fys]
def cntD : D → List D → Option R
  | .lst ds, [d] => match flsD ds, flD d with
    | some vs, some v => some (.v (.int ((vs.countP fun z => eqV z v : Nat) : Int)))
    | _, _ => none
  | _, _ => none
theorem cntD_ok {K : Fr} : MeD K (rCnt K) cntD := by
  intro B F S σ H x xs a ds rr Q rel hx hxs e p
  unfold cntD at e
  split at e
  · rename_i es d
    split at e
    · rename_i vs v e1 e2
      cases e
      obtain ⟨b, ws, rfl, h1, t⟩ := hx.lst
      match hxs with
      | .cons h2 .nil =>
        obtain ⟨rfl, fv⟩ := At.fl (h2.elim (fun z => z) fun ⟨a', _, o⟩ => by
          cases d with
          | lst _ => cases e2
          | ins _ _ => cases e2
          | _ => exact o.elim) e2
        obtain ⟨rfl, fvs⟩ := t.fl e1
        exact ⟨b, ws, _, rfl, rfl, .inl (.inl h1), fv, fvs, p.val rel (.int _)⟩
    · cases e
  · cases e
section
variable {X : Cx} {W : WX} {f g : DS → Out} {ga : DS → AOut} {e : Expr} {es : List Expr} {p pos : Pos}
theorem ev_cnt {o : Expr} {apos cpos : Pos} (ho : EV X W o f) (ha : AV X W (e :: es) ga) (hbase : attributeBase o "count" X.env (eval o X.env) = eval o X.env := by rfl)
    (few : ((backTo cpos (starEach (e :: es) X.env)).all (fun z => !z.1) && (backToKw cpos (keywordEach [] X.env)).all (fun z => z.1.isSome) && decide ((e :: es).length + ([] : List Keyword).length + (if ([] : List Keyword).isEmpty then 0 else 1) < 30)) = true := by rfl) (hline : (apos.endLine == cpos.line) = true := by rfl)
    (hs : starEach (e :: es) X.env = (false, eval e X.env) :: starEach es X.env := by rfl) (hplain : (backTo cpos (starEach es X.env)).any (·.1) = false := by rfl) :
    EV X W (.Call (.Attribute o "count" apos) (e :: es) [] cpos) (bmD "list" cntD f ga) := ev_bm PySem.F.plainAttrs_list PySem.F.slot_list_count PySem.F.type_list_count mt_cnt cntD_ok ho ha hbase few hline hs hplain

/-! ### repr, == where an error is handled -/
theorem roomH_units {k : Nat} {A : Around} (r : L2H.RoomH k A) : A.units + 64 < cLine := by have := r.un; omega
theorem ev_reprU (hu : X.A.units + 64 < cLine) (hgd : X.A.guards = some []) (hg : Gl X "repr") (hm : X.mg "repr" = none) (a : AV X W [e] ga) (he : starEach [e] X.env = (false, eval e X.env) :: starEach [] X.env := by rfl) : EV X W (.Call (.Name "repr" p) [e] [] pos) (liftL reprC ga) :=
  ev_cb (call_show hu hgd) reprC_ok hg hm (by decide +kernel) a (by decide) (by decide) he (by rfl)

/-! ### {} and {'a': 1}, never changed -/
theorem ev_dict0 : EV X W (.Dict [] [] pos) (cst (.dct [])) := by
  refine ⟨PE.imp pe_dnewK fun σ H Q ⟨B, F, S, rel, q⟩ => fun p hp => ?_⟩
  obtain ⟨x, r⟩ := rel.layF (o := .dK []) hp
  exact q _ _ _ x r (.dct (.inr rfl) (.inl upd_same) .nil)
theorem ev_dict1 {x : Str} {i : Int} {j1 j2 p1 p2} : EV X W (.Dict [some (.Constant (.str x) j1 p1)] [.Constant (.int i) j2 p2] pos) (cst (.dct [(.inr x, .int i)])) := by
  refine ⟨PE.imp (pe_disp (pps_cons pe_str pe_int pps_nil) rfl rfl (by simp) (by show (1 : Nat) ≤ 15; decide)) fun σ H Q ⟨B, F, S, rel, q⟩ => fun p hp => ?_⟩
  show (fun ps H2 => H2 p = some (.dK []) ∧ ∃ kvs : List (Key × V), ps = kvs.map (fun kv => (kV kv.1, kv.2)) ∧ kvs.length ≤ 15 ∧ Q (.ref p) (upd H2 p (.dK (mergeK [] kvs)))) [(V.str x, V.int i)] (upd H p (.dK []))
  refine ⟨upd_same, [(.inr x, .int i)], rfl, by show (1 : Nat) ≤ 15; decide, ?_⟩
  have e : upd (upd H p (.dK [])) p (.dK (mergeK [] [(Sum.inr x, V.int i)])) = upd H p (.dK [(.inr x, .int i)]) := by
    funext b
    by_cases h : b = p
    · rw [h, upd_same, upd_same]
      rfl
    · rw [upd_ne h, upd_ne h, upd_ne h]
  rw [e]
  obtain ⟨y, r⟩ := rel.layF (o := .dK [(.inr x, .int i)]) hp
  exact q _ _ _ y r (.dct (.inr rfl) (.inl upd_same) (.cons (.int i) .nil))
end

/-! ### defs that are called where an error is handled -/
/-- the error at a, of the class at C, its dict at dx -/
structure FnX (P : Program) (w : World) (K : Fr) (mg : Str → Option Value) (base : Heap) (k : Nat) (f : Addr) (fd : FuncData) (ps : List Str) (a C dx : Addr) (sp : Sp) : Prop where
  len : ∀ vs H Q E, sp vs H Q E → vs.length = ps.length
  run : ∀ (A : Around) (outer : List Env) (s : Shared) (H : Hp) (args : Args) (us : List Value) (vs : List V) (Q : VK) (oe : Obj),
    L2H.RoomH k A → Zc (.ref C) (some dx) oe → (∃ z, oe.data = .fields z) → L2H.PinOk outer H s (a, oe) → Env0 P w K mg base A outer s H → BindsTo s fd args (ps.zip us) → Vals vs us → sp vs H Q (fun _ _ _ => False) →
    codeAny (model P w) A (.call (.ref f) args) (CR (L2.CX P w) outer P w H s Q fun _ _ _ => False) s
section
variable {P : Program} {w : World} {K : Fr} {mg : Str → Option Value} {base : Heap}
theorem fn_X {x qual : Str} {st : Stmt} {f : Addr} {fd : FuncData} {N ps : List Str} {k : Nat} {g : DS → Fl} {a C dx : Addr} (D : Fun K x qual st f fd) (S : FnScope N ps (defScope st))
    (body : ∀ (cdv : Value) (A : Around) (outer : List Env) (s : Shared) (H : Hp) (oe : Obj), L2H.RoomH k (A.deeper (envOfC qual (defScope st) s.heap.objs.size f cdv)) → Zc (.ref C) (some dx) oe → (∃ z, oe.data = .fields z) →
      SVs (L2H.cxH (L2.CX P w) P w K mg base N qual (defScope st) f cdv A outer s H (fun _ _ _ => False) (a, oe)) (fun _ _ _ _ => False) (defBody st) g)
    (hl : ps.length ≤ N.length := by decide) : FnX P w K mg base (k + 1) f fd ps a C dx (spD K ps.length (runD ps.length N.length g)) := by
  obtain ⟨oc, od, kV, doc, pm, an, cdv, ct, osl, rfl, lk, code⟩ := D.ex
  constructor
  · exact fun vs H Q E ⟨F, args, h1, A, _⟩ => by rw [A.len, h1]
  intro A outer s H args us vs Q oe room hz hf pin env0 binds rel ⟨F, as, hn, Ar, want⟩
  have nargs : vs.length = ps.length := by rw [Ar.len, hn]
  have KX : K.In s.heap := env0.mod.kin.keeps (fun b o q => (env0.bs b o q).1)
  have NL : s.heap.NoLimit := env0.mod.nolimit.keeps (fun b o q => (env0.bs b o q).1)
  have kinds : ∀ y ∈ ps.zip us, (defScope st).names.lookup y.1 = some .local ∨
      ((defScope st).names.lookup y.1 = some .cell ∧ ((cellsFrom (s.heap.objs.size + 1) (defScope st).names []).lookup y.1).isSome = true) := by
    rintro ⟨n, v⟩ hy
    cases S.par n (List.of_mem_zip hy).1 with
    | inl q => exact .inl q
    | inr q => exact .inr ⟨q, PySem.W.cellsFrom_some _ _ _ (.inl q)⟩
  apply codeAny_call_function room.depth (KX _ _ lk) rfl S.co S.gen rfl (PySem.W.codeRec_of KX code)
  apply binds
  apply wpAny_newFunctionEnv_cells S.kind kinds
  intro env he s1 ic
  subst he
  refine ⟨NL.keeps ic.toInCall.keep, codeAny_func ?_⟩
  have key := body cdv A outer s H oe (room.deeper _) hz hf
  have inv := L2H.inv_startH (CX := L2.CX P w) (E := fun _ _ _ => False) (N := N) S pin env0 nargs rel ic
  apply wpAny_mono (key.ps.run [] s1 _ H { nx := fun _ H' => Q .non H', rt := Q } inv (body_end hl hn Ar want))
  · intro fl s' sp'
    cases fl with
    | brk =>
      obtain ⟨_, _, _, z⟩ := sp'
      exact z.elim
    | cont =>
      obtain ⟨_, _, _, z⟩ := sp'
      exact z.elim
    | next =>
      obtain ⟨_, H', J, z⟩ := sp'
      exact ⟨V.non, H', J.os, J.bare, J.base, J.hok, rfl, z⟩
    | ret u =>
      obtain ⟨v, _, H', J, rv, z⟩ := sp'
      exact ⟨v, H', J.os, J.bare, J.base, J.hok, rv, z⟩
  · exact fun _ _ z => z
/-- the def x of the text stands under its name; its mirror where the error is handled -/
def DefX (P : Program) (w : World) (K : Fr) (mg : Str → Option Value) (base : Heap) (x : Str) (k : Nat) (ps : List Str) (ok : Addr → Prop) (m : Bx → Addr → List (Str × D) → List Sl → Fo) : Prop :=
  ∃ f fd, (∀ (a C dx : Addr) (fs : List (Str × D)), ok C → FnX P w K mg base k f fd ps a C dx (spD K ps.length (m (hxR K a dx fs) C fs))) ∧ mg x = some (.ref f) ∧ PySem.W.keepIn K (.ref f) = true ∧ Binds K fd ps []
theorem DefIn.x {x : Str} {st : Stmt} {ps : List Str} {k : Nat} {ok : Addr → Prop} {m : Bx → Addr → List (Str × D) → List Sl → Fo} (Df : DefIn K mg x st ps)
    (h : ∀ f fd, Fun K x x st f fd → ∀ (a C dx : Addr) (fs : List (Str × D)), ok C → FnX P w K mg base k f fd ps a C dx (spD K ps.length (m (hxR K a dx fs) C fs))) : DefX P w K mg base x k ps ok m := by
  obtain ⟨f, fd, F, h1, h2⟩ := Df
  exact ⟨f, fd, h f fd F, h1, F.kp, h2⟩
end
section
variable {X : Cx} {W : WX}
theorem run_fnX {k : Nat} {f : Addr} {fd : FuncData} {ps : List Str} {sp : Sp} {a C dx : Addr} {oe : Obj} {pins : List (Addr × Obj)} {σ : L2.St} {H : Hp} {s : Shared} {Q : VK} {us : List Value} {vs : List V} (F : FnX X.prog X.w X.K X.mg X.base k f fd ps a C dx sp) (hr : L2H.RoomH k X.A) (hz : Zc (.ref C) (some dx) oe)
    (hf : ∃ z, oe.data = .fields z) (hmem : (a, oe) ∈ X.pn) (hb : Binds X.K fd ps []) (I : Inv X pins σ H s) (r : Vals vs us) (h : sp vs H Q fun _ _ _ => False) : wpAny (model X.prog X.w) X.A (call (.ref f) us) (EP X pins σ Q) X.xe s := by
  have cnt : us.length = ps.length := r.length.symm.trans (F.len _ _ _ _ h)
  have b := hb s us I.kIn (by simpa using cnt)
  rw [List.append_nil] at b
  obtain ⟨h1, h2, h3, h4, h5⟩ := I.pin (a, oe) (List.mem_append_left _ hmem)
  have pin : L2H.PinOk X.stack H s (a, oe) := ⟨h1, h2, fun hm => (List.mem_cons.mp (I.stkSub a hm)).elim h3 h4, h5⟩
  apply wpAny_call
  apply codeAny_mono (F.run X.A X.stack s H ⟨us, []⟩ us vs Q oe hr hz hf pin I.env0 b r h)
  intro r s' q
  match r, q with
  | .error e, q =>
    obtain ⟨_, _, _, _, _, _, _, _, _, _, _, _, z⟩ := (show L2.CX X.prog X.w X.stack H s (fun _ _ _ => False) e s' from q)
    exact z.elim
  | .ok (.ret u), q => exact I.after q
  | .ok .next, q => exact q.elim
  | .ok .brk, q => exact q.elim
  | .ok .cont, q => exact q.elim
theorem ev_callX {k n : Nat} {ps : List Str} {ok : Addr → Prop} {m : Bx → Addr → List (Str × D) → List Sl → Fo} {x : Str} {p pos : Pos} {e : Expr} {es : List Expr} {ga : DS → AOut} {a C dx : Addr} {oe : Obj} {fs : List (Str × D)}
    (Df : DefX X.prog X.w X.K X.mg X.base x k ps ok m) (hn : ps.length = n) (hC : ok C) (hr : L2H.RoomH k X.A) (hz : Zc (.ref C) (some dx) oe) (hf : ∃ z, oe.data = .fields z) (hmem : (a, oe) ∈ X.pn) (hg : Gl X x) (ha : AV X (fun _ _ _ _ => False) (e :: es) ga)
    (hdb : (x == ("__debug__" : Str)) = false := by decide) (he : starEach (e :: es) X.env = (false, eval e X.env) :: starEach es X.env := by rfl) (hpl : (backTo pos (starEach es X.env)).any (·.1) = false := by rfl) :
    EV X (fun _ _ _ _ => False) (.Call (.Name x p) (e :: es) [] pos) (callD n (m (hxR X.K a dx fs) C fs) ga) := by
  subst hn
  obtain ⟨f, fd, F, hm, hk, hb⟩ := Df
  refine ⟨⟨fun pins s σ H Q I ⟨B, F0, S, rel, q⟩ => ?_⟩⟩
  refine wpAny_Call_Name_kw (ld_glob I hg hm ?_ hdb)
  refine PySem.W.callWith_K (h₀ := X.base) I.ok.mod.kin hk (thn (ha.pa.run pos pins s σ H
    (fun vs H1 => spD X.K ps.length (m (hxR X.K a dx fs) C fs) vs H1 Q fun _ _ _ => False) I ⟨B, F0, S, rel, ?_⟩) fun us s1 ⟨vs, H1, I1, r, q⟩ => ⟨I1.kIn, ?_⟩) he hpl
  · unfold callD at q
    cases qa : ga S with
    | stuck => rw [qa] at q; exact q
    | exc C fs S' => rw [qa] at q; exact q
    | ok rs S1 =>
      rw [qa] at q
      intro xs H1 F1 xt rel1 rv1
      exact callS_sp rel1 rv1 (Po.ext xt q)
  · exact run_fnX (F a C dx fs hC) hr hz hf hmem hb I1 r q
end
end DL
namespace DL
open PySem PySem.Spec PyProof.Rows L2 LamX PySem.HandSPX
variable [Nm]

/-! ### a def that calls the lambda it got -/
/-- what the lambda sees of its maker's slots -/
def hideS (S : DS) : DS := S.map fun s => match s with
  | .fr d => .fr d
  | _ => .un
/-- the lambda at f, its code at c', its maker's slots -/
def lamR (K : Fr) (f c' : Addr) (q : Str) (σ : L2.St) (S : DS) : Bx := fun F H b => b = f ∧ H c' = some (CodeO c' q) ∧ ∀ (i : Nat) (d : D), S[i]? = some (.fr d) → ∃ v, σ[i]? = some (some v) ∧ At K F H v d
/-- what the lambda does -/
def lamO (fb : DS → Out) (S : DS) : Fo := match fb (hideS S) with
  | .ok (.v d) _ => .ret (.v d) []
  | .exc C fs _ => .exc C fs []
  | _ => .stuck
open Classical in
noncomputable def actD (R : Bx) (o : Fo) : DS → Out := fun S => if S[0]? = some (.fr (.box R)) then (match o with
  | .ret (.v d) _ => .ok (.v d) S
  | .exc C fs _ => .exc C fs S
  | _ => .stuck) else .stuck
section
variable {K : Fr} {W : WX} {B : Bs} {F F' : Addr → Prop} {H H' : Hp} {σ : L2.St} {S : DS}
theorem hideS_get {i : Nat} {s : Sl} (h : (hideS S)[i]? = some s) : ∃ t, S[i]? = some t ∧ ((∃ d, t = .fr d ∧ s = .fr d) ∨ s = .un) := by
  unfold hideS at h
  rw [List.getElem?_map] at h
  cases e : S[i]? with
  | none => rw [e] at h; cases h
  | some t =>
    rw [e] at h
    have h := Option.some.inj h
    refine ⟨t, rfl, ?_⟩
    cases t with
    | un => exact .inr h.symm
    | fr d => exact .inl ⟨d, rfl, h.symm⟩
    | ow p d => exact .inr h.symm
/-- the maker's slots, seen from within -/
theorem rel_hide (len : σ.length = S.length) (sl : ∀ (i : Nat) (d : D), S[i]? = some (.fr d) → ∃ v, σ[i]? = some (some v) ∧ At K F H v d) (trk : ∀ a, F a → ∃ o, H a = some o) (tabs : AllTabs H) : Rel K ⟨H, F, []⟩ F (hideS S) σ H := by
  have now : ∀ {i : Nat} {p : Bool} {d : D}, (hideS S)[i]? ≠ some (.ow p d) := fun {i p d} h => by
    obtain ⟨t, _, ⟨e, _, z⟩ | z⟩ := hideS_get h <;> cases z
  refine ⟨by rw [len]; simp [hideS], fun i s hs => ?_, fun i j a p q d e h1 h2 h3 h4 => absurd h1 now, trk, fun _ h => h, fun _ h => .inl h, fun b o h _ => .inl h, fun i a d h => absurd h now, fun i a h => absurd h (by simp), fun i a d h => absurd h now, trk, tabs⟩
  obtain ⟨t, ht, ⟨d, z1, z2⟩ | z⟩ := hideS_get hs
  · subst z1 z2
    obtain ⟨v, h1, h2⟩ := sl i d ht
    exact ⟨some v, h1, v, rfl, h2⟩
  · subst z
    have l : i < σ.length := by rw [len]; exact (List.getElem?_eq_some_iff.mp ht).1
    exact ⟨σ[i], List.getElem?_eq_getElem l, trivial⟩
/-- all stays as it is -/
theorem Rel.thru (r : Rel K B F S σ H) (e : Ext F H F' H') (nw : ∀ b, F' b → F b ∨ H b = none) (tk : ∀ b, F' b → ∃ o, H' b = some o) (k : ∀ b o, H b = some o → Still H' b o) (tb : AllTabs H') : Xt σ S F H S F' H' ∧ Rel K B F' S σ H' := by
  have th : ∀ b o, H b = some o → ∃ o', H' b = some o' := fun b o h => by
    rcases k b o h with z | ⟨_, ps', _, z⟩
    · exact ⟨_, z⟩
    · exact ⟨_, z⟩
  have st : ∀ {b : Addr} {o : HO}, H b = some o → (∀ ps, o ≠ .tbl ps) → H' b = some o := fun {b o} h z => by
    rcases k b o h with y | ⟨ps, ps', y, _⟩
    · exact y
    · exact (z ps y).elim
  refine ⟨⟨e, fun b o h _ => k b o h, fun _ h => h, nw, th⟩, r.len, fun j s hs => ?_, r.dis, tk, fun b h => e.sub b (r.f0 b h), fun b h => ?_, fun b o hb hm => ?_, r.own, r.par, r.onl, r.f0t, tb⟩
  · obtain ⟨o, ho, hsl⟩ := r.sl j s hs
    refine ⟨o, ho, ?_⟩
    cases s with
    | un => trivial
    | fr d => obtain ⟨v, h1, h2⟩ := hsl; exact ⟨v, h1, h2.ext e⟩
    | ow p d =>
      obtain ⟨b, h1, h2, h3⟩ := hsl
      refine ⟨b, h1, fun z => ?_, h3.ext e ?_⟩
      · rcases nw b z with z | z
        · exact h2 z
        · obtain ⟨u, hu⟩ := h3.there
          rw [z] at hu
          cases hu
      · obtain ⟨u, hu, hn⟩ := h3.nt
        exact fun o ho => st ho fun ps z => by rw [hu] at ho; cases ho; exact hn ps z
  · rcases nw b h with h | h
    · exact r.new b h
    · exact .inr (r.h0 h)
  · rcases r.keep b o hb hm with h | ⟨ps, ps', h1, h2⟩
    · exact k b o h
    · rcases k b _ h2 with y | ⟨qs, qs', _, y⟩
      · exact .inr ⟨ps, ps', h1, y⟩
      · exact .inr ⟨ps, qs', h1, y⟩
end
section
variable {X : Cx} {pins : List (Addr × Obj)} {σ : L2.St} {H : Hp} {s : Shared}
theorem ev_act {CXg : CXT} {Eg : XK} {Ng : List Str} {qg : Str} {sg : Scope} {g f c' : Addr} {cdg pm ctv : Value} {params : Arguments} {body : Expr} {scope : Scope} {k : Nat} {a : Str} {pn : List (Addr × Obj)} {xe : Value → Shared → Prop} {W : WX} {fb : DS → Out} {S : DS} {p1 p2 : Pos}
    (I : Inv X pins σ H s) (len : σ.length = S.length) (L : LamS X.env.scope scope) (hf : s.heap.get? f = some (PySem.W.kla_obj "<lambda>" (X.env.qual ++ "<lambda>") params body scope (cloFrom X.env.cells scope.names []) pm c' ctv)) (hfn : H f = none) (hfr : f ∉ frs X.stack)
    (hbind : bindArgs (PySem.W.kla_fn "<lambda>" (X.env.qual ++ "<lambda>") params body scope (cloFrom X.env.cells scope.names []) pm (.ref c') ctv) ⟨[], []⟩ = pure [])
    (tk : Takes ((cxOf CXg X.prog X.w X.K X.mg X.base Ng qg sg g cdg X.A X.stack s H Eg).tr pn xe) W) (hr : Room (k + 1) (X.A.deeper (envOfC qg sg s.heap.objs.size g cdg))) (hgd : X.A.guards = some [])
    (hbody : ∀ (A : Around) (outer : List Env) (s : Shared) (H : Hp) (E : XK), Room k (A.deeper (lamEnv X scope s.heap.objs.size f c')) → A.guards = some [] → EV (lamCx X A outer s H E scope f c') (fun cls d _ H' => E cls d H') body fb)
    (hN : Ng[0]? = some a) (hv : Vis sg a) (hd : (a == ("__debug__" : Str)) = false := by decide) (hcd : (a == ("__classdict__" : Str)) = false := by decide) :
    EV ((cxOf CXg X.prog X.w X.K X.mg X.base Ng qg sg g cdg X.A X.stack s H Eg).tr pn xe) W (.Call (.Name a p1) [] [] p2) (actD (lamR X.K f c' (X.env.qual ++ "<lambda>") σ S) (lamO fb S)) := by
  refine ⟨⟨fun pinsZ sZ σZ HZ Q IZ ⟨BZ, FZ, SZ, relZ, want⟩ => ?_⟩⟩
  unfold actD at want
  by_cases h0 : SZ[0]? = some (.fr (.box (lamR X.K f c' (X.env.qual ++ "<lambda>") σ S)))
  · rw [if_pos h0] at want
    obtain ⟨o0, hs, v0, rfl, at0⟩ := relZ.sl 0 _ h0
    cases at0 with
    | @box fA _ hb =>
      obtain ⟨rfl, hc, sl⟩ := hb FZ HZ (Ext.refl FZ HZ)
      have inner : tE X.K (fun cls d _ H' => W cls d σZ H') fb σ HZ Q := by
        refine ⟨⟨HZ, FZ, []⟩, FZ, hideS S, rel_hide len sl relZ.trk relZ.tabs, ?_⟩
        unfold lamO at want
        cases e : fb (hideS S) with
        | stuck => rw [e] at want; exact want.elim
        | exc C fs S1 =>
          rw [e] at want
          intro dx fvs H' F' x r h1 h2 h3
          obtain ⟨x2, r2⟩ := relZ.thru x.toExt x.new r.trk (fun b o h => r.keep b o h fun i hi => absurd hi (by simp)) r.tabs
          exact want dx fvs H' F' x2 r2 h1 (relZ.h0 h2) h3
        | ok rr S1 =>
          rw [e] at want
          cases rr with
          | ow d => exact want.elim
          | bw i => exact want.elim
          | v d =>
            intro y H' F' x r rv
            obtain ⟨x2, r2⟩ := relZ.thru x.toExt x.new r.trk (fun b o h => r.keep b o h fun i hi => absurd hi (by simp)) r.tabs
            exact want y H' F' x2 r2 rv
      refine wpAny_Call_Name_kw (thn ((pe_var (pos := p1) (i := 0) hN hv hd hcd).run pinsZ sZ σZ HZ (fun v H1 => v = V.ref _ ∧ H1 = HZ) IZ ⟨_, hs, rfl, rfl⟩) fun u s1 ⟨v, H1, I1, r1, ev, eH⟩ => ?_)
      subst ev
      rw [eH] at I1
      obtain rfl : u = Value.ref _ := r1
      have there := I1.base.keep _ _ hf hfn hfr (fun z => nomatch (show _ ∈ ([] : List Addr) from z))
      refine PySem.W.callWith_F0 ⟨_, _, _, _, there⟩ ?_
      have un : Un (frs X.stack) [] H HZ s.heap s1.heap := I1.base
      obtain ⟨⟨oc, vs, t, hoc, hdc, hvc⟩, _, _⟩ := I1.hok c' _ hc
      have ran : codeAny (model X.prog X.w) (X.A.deeper (envOfC qg sg s.heap.objs.size g cdg)) (.call (.ref fA) ⟨[], []⟩) (CR (L2.CX X.prog X.w) (envOfC qg sg s.heap.objs.size g cdg :: X.stack) X.prog X.w HZ s1 Q fun cls d H2 => W cls d σZ H2) s1 := by
        refine PySem.W.kla_callFunE hr.depth there rfl L.co L.gen rfl ⟨c', oc, vs, t, rfl, hoc, hdc, hvc⟩ ?_
        rw [hbind]
        refine wpAny_pure (wpAny_newFunctionEnv (fun y hy => (L.own y hy).2) (fun y hy => absurd hy (by simp)) (fun h₁ hns hsb => ⟨I1.nolimit.fresh _ hsb, ?_⟩) L.kind)
        have kp : ∀ b o, s1.heap.get? b = some o → h₁.get? b = some o := fun b o e => hsb.extBut b o (Nat.ne_of_lt (Heap.lt_size e)) (Heap.get?_push_of_some _ e)
        have J := lam_start2 (E := fun cls d H2 => W cls d σZ H2) (f := fA) (c' := c') (h₁ := h₁) (tk := s1.toks + ([] : List (Str × Value)).length) I L I1.env0 hr.hd un hns kp
        refine PySem.W.kla_codeExpr (wpAny_mono ((hbody (X.A.deeper (envOfC qg sg s.heap.objs.size g cdg)) (envOfC qg sg s.heap.objs.size g cdg :: X.stack) s1 HZ _ (hr.deeper _) hgd).pe.run [] _ _ HZ Q J inner) (fun v s' ⟨w', H', J', rv, q⟩ => ?_) fun e s' hq => hq)
        exact ⟨w', H', J'.os, J'.bare, J'.base, J'.hok, rv, q⟩
      refine wpAny_call (codeAny_mono ran fun r s' q => ?_)
      match r, q with
      | .error e, q => exact tk e s' (XE.of_call I1 (fun cls d H' h => h) q)
      | .ok (.ret u), q => exact I1.after q
      | .ok .next, q => exact q.elim
      | .ok .brk, q => exact q.elim
      | .ok .cont, q => exact q.elim
  · rw [if_neg h0] at want
    exact want.elim
end
/-- told's text stands under x; b: its body's mirror, by the box of what it got and by what that does -/
def ToldOk (P : Program) (w : World) (K : Fr) (mg : Str → Option Value) (base : Heap) (x a : Str) (k : Nat) (m : Bx → Fo → List Sl → Fo) : Prop :=
  ∃ (st : Stmt) (f : Addr) (fd : FuncData) (N : List Str) (b : Bx → Fo → DS → Fl), Fun K x x st f fd ∧ mg x = some (.ref f) ∧ Binds K fd [a] [] ∧ FnScope N [a] (defScope st) ∧ N[0]? = some a ∧ Vis (defScope st) a ∧ (∀ R o, m R o = runD 1 N.length (b R o)) ∧
    ∀ (R : Bx) (o : Fo) (cdv : Value) (A : Around) (outer : List Env) (s : Shared) (H : Hp), Room k (A.deeper (envOfC x (defScope st) s.heap.objs.size f cdv)) → A.guards = some [] →
      (∀ (W : WX) (pn : List (Addr × Obj)) (xe : Value → Shared → Prop) (p1 p2 : Pos), Takes ((cxOf (L2.CX P w) P w K mg base N x (defScope st) f cdv A outer s H fun _ _ _ => False).tr pn xe) W →
        EV ((cxOf (L2.CX P w) P w K mg base N x (defScope st) f cdv A outer s H fun _ _ _ => False).tr pn xe) W (.Call (.Name a p1) [] [] p2) (actD R o)) →
      SVs (cxOf (L2.CX P w) P w K mg base N x (defScope st) f cdv A outer s H fun _ _ _ => False) (fun _ _ _ _ => False) (defBody st) (b R o)
/-- x(lambda: body) -/
noncomputable def toldD (m : Bx → Fo → List Sl → Fo) (fb : DS → Out) : DS → Out := fun S => open Classical in if h : ∃ r, ∀ R, ∃ as, m R (lamO fb S) [.fr (.box R)] = .ret r as then (match h.choose with
  | .v d => .ok (.v d) S
  | .ow d => .ok (.ow d) S
  | .bw _ => .stuck) else .stuck
theorem toldD_v {m : Bx → Fo → List Sl → Fo} {fb : DS → Out} {S : DS} {d : D} (h : ∀ R, ∃ as, m R (lamO fb S) [.fr (.box R)] = .ret (.v d) as) : toldD m fb S = .ok (.v d) S := by
  have e : ∃ r, ∀ R, ∃ as, m R (lamO fb S) [.fr (.box R)] = .ret r as := ⟨_, h⟩
  unfold toldD
  rw [dif_pos e]
  obtain ⟨as, h1⟩ := h fun _ _ _ => True
  obtain ⟨as2, h2⟩ := e.choose_spec fun _ _ _ => True
  rw [h1] at h2
  have z : e.choose = .v d := by injection h2 with z _; exact z.symm
  rw [z]
theorem toldD_ow {m : Bx → Fo → List Sl → Fo} {fb : DS → Out} {S : DS} {d : D} (h : ∀ R, ∃ as, m R (lamO fb S) [.fr (.box R)] = .ret (.ow d) as) : toldD m fb S = .ok (.ow d) S := by
  have e : ∃ r, ∀ R, ∃ as, m R (lamO fb S) [.fr (.box R)] = .ret r as := ⟨_, h⟩
  unfold toldD
  rw [dif_pos e]
  obtain ⟨as, h1⟩ := h fun _ _ _ => True
  obtain ⟨as2, h2⟩ := e.choose_spec fun _ _ _ => True
  rw [h1] at h2
  have z : e.choose = .ow d := by injection h2 with z _; exact z.symm
  rw [z]
section
variable {X : Cx} {W : WX}
theorem ev_told {x a : Str} {c P : Addr} {k kt : Nat} {m : Bx → Fo → List Sl → Fo} {params : Arguments} {body : Expr} {scope : Scope} {fb : DS → Out} {p lpos pos : Pos} (Dt : ToldOk X.prog X.w X.K X.mg X.base x a kt m) (hg : Gl X x)
    (TB : TabB X.base X.mg c P) (hcode : X.env.code = .ref c) (hin : P ∈ Nm.ts) (enm : Nm.nm P = X.env.qual ++ "<lambda>") (hr : Room (k + 2) X.A) (hkt : kt ≤ k + 1) (hgd : X.A.guards = some []) (L : LamS X.env.scope scope)
    (hbody : ∀ (A : Around) (outer : List Env) (s : Shared) (H : Hp) (E : XK) (f c' : Addr), Room k (A.deeper (lamEnv X scope s.heap.objs.size f c')) → A.guards = some [] → EV (lamCx X A outer s H E scope f c') (fun cls d _ H' => E cls d H') body fb)
    (hdef : defaultsOf params X.env = ([], []) := by rfl)
    (hbind : ∀ (q : Str) (cl : List (Str × Addr)) (pm cv ctv : Value), bindArgs (PySem.W.kla_fn "<lambda>" q params body scope cl pm cv ctv) ⟨[], []⟩ = pure [] := by exact fun _ _ _ _ _ => rfl)
    (hdb : (x == ("__debug__" : Str)) = false := by decide) (hd : (a == ("__debug__" : Str)) = false := by decide) (hcd : (a == ("__classdict__" : Str)) = false := by decide) :
    EV X W (.Call (.Name x p) [.Lambda params body scope lpos] [] pos) (toldD m fb) := by
  refine ⟨⟨fun pins s σ H Q I ⟨B, F, S, rel, want⟩ => ?_⟩⟩
  unfold toldD at want
  split at want
  · rename_i hh
    have spec := hh.choose_spec
    generalize hh.choose = r at want spec
    obtain ⟨st, g, fd, N, b, Fu, hm, hb, Sg, hN0, hva, hmb, der⟩ := Dt
    obtain ⟨oc, od, kV, doc, pmv, an, cdv, ct, osl, efd, lk, code⟩ := Fu.ex
    subst efd
    refine wpAny_Call_Name_kw (ld_glob I hg hm ?_ hdb)
    refine PySem.W.callWith_K (h₀ := X.base) I.ok.mod.kin Fu.kp ?_ (by rfl) (by rfl)
    show wpAny _ _ (spliced ((false, eval (.Lambda params body scope lpos) X.env) :: backTo pos (starEach [] X.env))) _ _ s
    refine Calls.spliced_cons (lam_mk I TB hcode hin enm rel.tabs hdef (L.has I.ok) fun fa c' pm' ctv H1 s1 I1 gr T1 hf hfn hfr hco => ?_)
    refine Calls.spliced_nil ⟨I1.kIn, ?_⟩
    obtain ⟨x1, rel1⟩ := rel.grew gr T1
    obtain ⟨as, ms⟩ := spec (lamR X.K fa c' (X.env.qual ++ "<lambda>") σ S)
    have bx : At X.K F H1 (.ref fa) (.box (lamR X.K fa c' (X.env.qual ++ "<lambda>") σ S)) := .box fun F2 H2 e => ⟨rfl, e.cod _ _ hco, fun i d hi => by
      obtain ⟨o, ho, v, rfl, hat⟩ := rel1.sl i _ hi
      exact ⟨v, ho, hat.ext e⟩⟩
    have Ar : ArgsAt X.K F H1 [.ref fa] [.fr (.box (lamR X.K fa c' (X.env.qual ++ "<lambda>") σ S))] := by
      refine ⟨rfl, fun i t hi => ?_, fun i t hi => ?_, fun i j b d e h1 _ _ _ => ?_, rel1.trk, T1⟩
      · match i, hi with
        | 0, hi =>
          cases hi
          exact ⟨_, rfl, _, rfl, bx⟩
      · match i, hi with
        | 0, hi =>
          cases hi
          exact .inl ⟨_, rfl⟩
      · match i, h1 with
        | 0, h1 => cases h1
    have noArg : ∀ b, NotArg [V.ref fa] [Sl.fr (.box (lamR X.K fa c' (X.env.qual ++ "<lambda>") σ S))] b := fun b i d h => by
      match i, h with
      | 0, h => cases h
    have back : PoF X.K F H1 [.ref fa] [.fr (.box (lamR X.K fa c' (X.env.qual ++ "<lambda>") σ S))] Q (fun _ _ _ => False) (m (lamR X.K fa c' (X.env.qual ++ "<lambda>") σ S) (lamO fb S) [.fr (.box (lamR X.K fa c' (X.env.qual ++ "<lambda>") σ S))]) := by
      rw [ms]
      intro y H' F' cl rv
      obtain ⟨x2, r2⟩ := rel1.thru cl.ext cl.new cl.trk (fun b o h => cl.keep b o h (noArg b)) cl.tabs
      cases r with
      | bw i => exact want.elim
      | v d => exact want y H' F' (x1.trans x2) r2 rv
      | ow d =>
        obtain ⟨q, rfl, h1, h2, h3⟩ := rv
        exact want _ H' F' (x1.trans x2) r2 ⟨q, rfl, h1, h2, rel1.h0 h3, x1.back h3, fun i pp e hi => rel1.nSl h3 i pp e hi⟩
    rw [hmb] at back
    have ran : codeAny (model X.prog X.w) X.A (.call (.ref g) ⟨[.ref fa], []⟩) (CR (L2.CX X.prog X.w) X.stack X.prog X.w H1 s1 Q fun _ _ _ => False) s1 := by
      refine run_ofS (N := N) (ps := [a]) (us := [.ref fa]) (vs := [.ref fa]) lk code Sg hr I1.env0 (hb s1 [.ref fa] I1.kIn rfl) (.cons rfl .nil) rfl fun hr' => ?_
      refine ⟨_, (der (lamR X.K fa c' (X.env.qual ++ "<lambda>") σ S) (lamO fb S) cdv X.A X.stack s1 H1 (hr'.mono hkt) hgd fun W2 pn xe p1 p2 tk => ?_).ps, body_end (ps := [a]) ?_ rfl Ar back⟩
      · exact ev_act I1 rel1.len L hf hfn hfr (hbind _ _ _ _ _) tk hr' hgd (fun A outer s H E hr2 g2 => hbody A outer s H E fa c' hr2 g2) hN0 hva hd hcd
      · have := congrArg List.length Sg.pre
        rw [List.length_take] at this
        omega
    refine wpAny_call (codeAny_mono ran fun r2 s2 q => ?_)
    match r2, q with
    | .error e, q =>
      obtain ⟨_, _, _, _, _, _, _, _, _, _, _, _, z⟩ := (show L2.CX X.prog X.w X.stack H1 s1 (fun _ _ _ => False) e s2 from q)
      exact z.elim
    | .ok (.ret u), q => exact I1.after q
    | .ok .next, q => exact q.elim
    | .ok .brk, q => exact q.elim
    | .ok .cont, q => exact q.elim
  · exact want.elim
end
end DL
namespace DL
open PySem PySem.Spec PyProof.Rows L2 LamX PySem.HandSPX
variable [Nm]
theorem _root_.L2H.RoomH.units {k : Nat} {A : Around} (r : L2H.RoomH k A) : A.units + 64 < cLine := by have := r.un; omega
theorem bootVE : bootBuiltins "ValueError" = some (.type "ValueError") := by decide +kernel
theorem bootLE : bootBuiltins "LookupError" = some (.type "LookupError") := by decide +kernel
theorem bootAE : bootBuiltins "ArithmeticError" = some (.type "ArithmeticError") := by decide +kernel

/-! ### C(k=e, ..) -/
def MakeKIn (P : Program) (w : World) (K : Fr) (mg : Str → Option Value) (base : Heap) (C : Addr) (ks : List Str) (k n : Nat) (m : List Sl → Fo) : Prop :=
  ∃ fa fd ps, FnOk P w K mg base (L2.CX P w) k fa fd ps (spD K n m) ∧ KBn K fd ps 1 ks (fun us ws => us ++ ws) (fun vs zs => vs ++ zs) ∧ ps.length = 1 + ks.length ∧ Mk K C fa
theorem MakeF.makeK {P : Program} {w : World} {K : Fr} {mg : Str → Option Value} {base : Heap} {C : Addr} {qual : Str} {st : Stmt} {ps ks : List Str} {k n : Nat} {m : List Sl → Fo} (M : MakeF K C qual st ps) (hl : ps.length = 1 + ks.length)
    (b : ∀ (kV doc pm : Value) (an : Option Addr) (cdv ct : Value) (us ws : List Value), us.length = 1 → ws.length = ks.length → bindArgs (PySem.W.fnOf "__init__" qual (defArgs st) (defBody st) (defScope st) .none kV doc pm an cdv ct) ⟨us, ks.zip ws⟩ = pure (ps.zip (us ++ ws)))
    (h : ∀ f fd, Fun K "__init__" qual st f fd → FnOk P w K mg base (L2.CX P w) k f fd ps (spD K n m)) : MakeKIn P w K mg base C ks k n m := by
  obtain ⟨⟨fa, fd, F, _, a, i⟩, mk, kp⟩ := M
  exact ⟨fa, fd, ps, h fa fd F, fun_kbn F b, hl, mk, a, i, kp⟩
section
variable {X : Cx} {W : WX} {ga : DS → AOut} {p pos : Pos}
theorem ev_makeK {C : Addr} {k n : Nat} {m : List Sl → Fo} {ks : List Str} {x : Str} {kws : List Keyword} (M : MakeKIn X.prog X.w X.K X.mg X.base C ks k n m) (hr : Room (k + 1) X.A) (tk : Takes X W) (hg : Gl X x) (hm : X.mg x = some (.ref C)) (ha : KV X W kws ga)
    (hall : (backToKw pos (keywordEach kws X.env)).all (·.1.isSome) = true := by rfl) (hks : (backToKw pos (keywordEach kws X.env)).filterMap (·.1) = ks := by rfl) (hdb : (x == ("__debug__" : Str)) = false := by decide)
    (hpl : ((backTo pos (starEach [] X.env)).any (·.1) || (backToKw pos (keywordEach kws X.env)).any (·.1.isNone)) = false := by rfl) :
    EV X W (.Call (.Name x p) [] kws pos) (makeD C n m ga) := by
  obtain ⟨fa, fd, ps, F, hb, hl, Mk⟩ := M
  refine ⟨⟨fun pins s σ H Q I ⟨B, F0, S, rel, q⟩ => ?_⟩⟩
  refine wpAny_Call_Name_kw (ld_glob I hg hm ?_ hdb)
  refine PySem.W.callWith_KW0 (h₀ := X.base) I.ok.mod.kin Mk.kp hall (thn (ha.pk.run pos pins s σ H
    (fun vs H1 => ∀ x dx, H1 x = none → H1 dx = none → dx ≠ x → spD X.K n m (.ref x :: vs) (upd (upd H1 dx (.own x)) x (.ins C dx [])) (fun v H2 => v = .non ∧ Q (.ref x) H2) fun cls d H2 => W cls d σ H2) I ⟨B, F0, S, rel, ?_⟩) fun us s1 ⟨vs, H1, I1, r, q⟩ => ⟨I1.kIn, ?_⟩) hpl
  · unfold makeD at q
    cases qa : ga S with
    | stuck => rw [qa] at q; exact q
    | exc C fs S' => rw [qa] at q; exact q
    | ok rs S1 =>
      rw [qa] at q
      intro xs H1 F1 xt rel1 rv1 x dx hx hdx hne
      exact make_sp rel1 rv1 (Po.ext xt q) hx hdx hne
  · rw [hks]
    have hq := q (s1.heap.objs.size + 1) s1.heap.objs.size (I1.hok.fresh (Nat.le_succ _)) (I1.hok.fresh (Nat.le_refl _)) (Nat.ne_of_lt (Nat.lt_succ_self _))
    have I2 := Inv.made (C := C) I1
    have len := F.len _ _ _ _ hq
    have l2 : us.length = ks.length := by
      have := r.length
      simp only [List.length_cons] at len
      omega
    refine wpAny_call (make_map (f := fa) I1.kIn Mk.makes Mk.init (beq_iff_eq.mp Mk.fn) (codeAny_mono (F.run _ X.stack _ _ ⟨[Value.ref (s1.heap.objs.size + 1)], ks.zip us⟩ ([Value.ref (s1.heap.objs.size + 1)] ++ us) _ _ (fun cls d H2 => W cls d σ H2) (hr.make C [] (ks.zip us))
      (I2.env0.make C [] (ks.zip us)) (hb.to _ [Value.ref (s1.heap.objs.size + 1)] us I2.kIn rfl l2) (Paired.cons (a := V.ref (s1.heap.objs.size + 1)) (show L2.RelV (V.ref (s1.heap.objs.size + 1)) (Value.ref (s1.heap.objs.size + 1)) from rfl) r) hq) fun r2 s2 z => ?_))
    match r2, z with
    | .error e, z => exact passW tk pins _ _ e s2 I2 z
    | .ok (.ret u), z =>
      obtain ⟨v, H', I3, rv, ev, q3⟩ := I2.after z
      subst ev
      exact ⟨rv, ⟨V.ref (s1.heap.objs.size + 1), H', I3, rfl, q3⟩⟩
    | .ok .next, z => exact z.elim
    | .ok .brk, z => exact z.elim
    | .ok .cont, z => exact z.elim
end

/-! ### errors, all that is asked of one's class -/
structure ErrAll (K : Fr) (C : Addr) (T : D → Option Bool) : Prop where
  err : ∃ fld, ErrC K C fld
  exc : L2.ExcC K C
  kit : KitT K C T
  ng : PySem.W.findIn K (.ref C) "given" = some none
  ni : PySem.W.findIn K (.ref C) "index" = some none
/-- the tables' rows: which of the classes all has the error, which built-in ones -/
def rowT (all : List Addr) (row : List Bool) (tys : List (String × Bool)) : D → Option Bool
  | .cls a => row[all.idxOf a]?
  | .ty n => tys.lookup n
  | _ => none
theorem kitT_of {K : Fr} {C : Addr} {all : List Addr} {row : List Bool} {tys : List (String × Bool)} (hl : row.length ≤ all.length) (h : ∀ p ∈ all.zip row, PySem.W.kitOne K (.ref C) (.ref p.1) = some p.2) (h2 : ∀ p ∈ tys, PySem.W.kitOne K (.ref C) (.type p.1) = some p.2) : KitT K C (rowT all row tys) := by
  intro d b e
  cases d with
  | cls a =>
    refine .inr ⟨a, rfl, ?_⟩
    have e : row[all.idxOf a]? = some b := e
    obtain ⟨l1, e1⟩ := List.getElem?_eq_some_iff.mp e
    have l2 : all.idxOf a < all.length := Nat.lt_of_lt_of_le l1 hl
    have e2 : all[all.idxOf a] = a := List.getElem_idxOf l2
    refine h (a, b) (List.mem_iff_getElem.mpr ⟨all.idxOf a, by rw [List.length_zip]; omega, ?_⟩)
    rw [List.getElem_zip, e2, e1]
  | ty n =>
    refine .inl ⟨n, rfl, ?_⟩
    have e : tys.lookup n = some b := e
    have key : ∀ {l : List (String × Bool)}, l.lookup n = some b → (n, b) ∈ l := by
      intro l
      induction l with
      | nil => intro z; cases z
      | cons p r ih =>
        intro z
        by_cases y : n = p.1
        · subst y
          simp [List.lookup] at z
          rw [← z]
          exact List.mem_cons_self
        · have q : (n == p.1) = false := by simpa using y
          simp only [List.lookup, q] at z
          exact List.mem_cons_of_mem _ (ih z)
    exact h2 (n, b) (key e)
  | _ => cases e
section
variable {X : Cx} {W : WX} {e : Expr} {f : DS → Out} {pos : Pos} {a C dx : Addr} {T : D → Option Bool} {oe : Obj} {fs : List (Str × D)}
theorem ev_given (A : ErrAll X.K C T) (hmem : (a, oe) ∈ X.pn) (hz : Zc (.ref C) (some dx) oe) (hf : ∃ vs, oe.data = .fields vs) (he : EV X W e f) (hb : attributeBase e "given" X.env (eval e X.env) = eval e X.env := by rfl) : EV X W (.Attribute e "given" pos) (getX (hxR X.K a dx fs) fs "given" f) := by
  obtain ⟨fld, z⟩ := A.err
  exact ev_getX z A.ng hmem hz hf he hb
theorem ev_indexX (A : ErrAll X.K C T) (hmem : (a, oe) ∈ X.pn) (hz : Zc (.ref C) (some dx) oe) (hf : ∃ vs, oe.data = .fields vs) (he : EV X W e f) (hb : attributeBase e "index" X.env (eval e X.env) = eval e X.env := by rfl) : EV X W (.Attribute e "index" pos) (getX (hxR X.K a dx fs) fs "index" f) := by
  obtain ⟨fld, z⟩ := A.err
  exact ev_getX z A.ni hmem hz hf he hb
end

theorem roomH_mark {k : Nat} {A : Around} {v : Option Value} (r : Room k A) : L2H.RoomH k (A.mark v) := ⟨r.dp, r.un⟩
/-! ### o.upper() -/
def upD (f : DS → Out) : DS → Out := bnd f fun r S => match r with
  | .v (.str z) => if z.length ≤ 5592405 then .ok (.v (.str (Txt.upper z))) S else .stuck
  | _ => .stuck
section
variable {X : Cx} {W : WX} {o : Expr} {f : DS → Out}
theorem ev_upD {p1 p2 : Pos} (ho : EV X W o f) (hbase : attributeBase o "upper" X.env (eval o X.env) = eval o X.env := by rfl) (hline : (p1.endLine == p2.line) = true := by rfl) : EV X W (.Call (.Attribute o "upper" p1) [] [] p2) (upD f) := by
  refine ⟨⟨fun pins s σ H Q I ⟨B, F, S, rel, q⟩ => ?_⟩⟩
  obtain ⟨B1, F1, S1, rel1, p1'⟩ := tE_bnd rel q
  refine J1.ev_upper hbase hline (wpAny_mono (ho.pe.run pins s σ H _ I ⟨B1, F1, S1, rel1, p1'⟩) (fun u s1 ⟨x1, H1, I1, rx, F2, S2, r, x2, rel2, rv2, p2'⟩ => ?_) fun _ _ e => e)
  have key : ∃ z, r = .v (.str z) ∧ z.length ≤ 5592405 ∧ Po X.K W B S2 F2 H1 σ Q (.ok (.v (.str (Txt.upper z))) S2) := by
    cases r with
    | ow d => exact p2'.elim
    | bw i => exact p2'.elim
    | v d =>
      cases d with
      | str z =>
        have w : Po X.K W B S2 F2 H1 σ Q (if z.length ≤ 5592405 then .ok (.v (.str (Txt.upper z))) S2 else .stuck) := p2'
        by_cases c : z.length ≤ 5592405
        · rw [if_pos c] at w
          exact ⟨z, rfl, c, w⟩
        · rw [if_neg c] at w
          exact w.elim
      | _ => exact p2'.elim
  obtain ⟨z, rfl, hz, p3⟩ := key
  have e1 : x1 = .str z := At.strI rv2
  subst e1
  obtain ⟨t, rfl⟩ := rx
  exact ⟨z, t, rfl, hz, fun t' k => ⟨.str (Txt.upper z), H1, I1.tok _, ⟨_, rfl⟩, PoOk.val p3 rel2 (.str _)⟩⟩
end

/-! ### an index of a target: no error comes out of it -/
def noE (f : DS → Out) : DS → Out := fun S => match f S with
  | .exc _ _ _ => .stuck
  | o => o
theorem noE_never {f : DS → Out} {C : Addr} {fs : List (Str × D)} {S S' : DS} (z : noE f S = .exc C fs S') : False := by
  unfold noE at z
  cases e : f S with
  | exc C fs S' => rw [e] at z; cases z
  | ok r S' => rw [e] at z; cases z
  | stuck => rw [e] at z; cases z
theorem EV.noE {X : Cx} {W : WX} {e : Expr} {f : DS → Out} (a : EV X W e f) : EV X W e (DL.noE f) := by
  refine ⟨PE.imp a.pe fun σ H Q ⟨B, F, S, rel, q⟩ => ⟨B, F, S, rel, ?_⟩⟩
  unfold DL.noE at q
  cases e : f S with
  | exc C fs S' => rw [e] at q; exact q.elim
  | ok r S' => rw [e] at q; exact q
  | stuck => rw [e] at q; exact q.elim

/-! ### facts of the classes -/
theorem kit_bty {K : Fr} {C : Addr} {T : String} {b : Bool} (h : PySem.W.subIn K (.ref C) (.type T) = some b) (m : PySem.W.kitMeta T = true) : PySem.W.kitOne K (.ref C) (.type T) = some b := by
  unfold PySem.W.kitOne
  rw [if_neg (by simp)]
  show (if PySem.W.kitMeta T = true then PySem.W.subIn K (.ref C) (.type T) else none) = some b
  rw [if_pos m]
  exact h
theorem exm_cls {K : Fr} {C Y : Addr} {b : Bool} (h1 : PySem.W.subIn K (.ref Y) (.type "BaseException") = some true) (h2 : PySem.W.isClsIn K Y = true) (h3 : PySem.W.typeIn K (.ref Y) = some (.type "type")) (h4 : PySem.W.subIn K (.ref C) (.ref Y) = some b) : PySem.W.exmOne K (.ref C) (.ref Y) = some b := by
  have z : (PySem.W.clsIn K Y).isSome = true := h2
  have e1 : (PySem.W.subIn K (.ref Y) (.type "BaseException") == some true) = true := by rw [h1] <;> rfl
  unfold PySem.W.exmOne
  rw [if_pos e1]
  unfold PySem.W.kitCls
  simp [z, h3, h4]
theorem exm_three {K : Fr} {C A B D : Addr} {b1 b2 b3 : Bool} (h1 : PySem.W.exmOne K (.ref C) (.ref A) = some b1) (h2 : PySem.W.exmOne K (.ref C) (.ref B) = some b2) (h3 : PySem.W.exmOne K (.ref C) (.ref D) = some b3) (h : (b1 || (b2 || (b3 || false))) = true) : PySem.W.exmAny K (.ref C) [.ref A, .ref B, .ref D] = some true := by
  simp only [PySem.W.exmAny, h1, h2, h3, h]
end DL
namespace DL
open PySem PySem.Spec PyProof.Rows L2
variable [Nm]
/-! ### an expression that reads an own list, what comes out is flat -/
open Classical in
noncomputable def ownL (i : Nat) (g : DS → Out) : DS → Out := fun S => match S[i]? with
  | some (.ow _ (.lst ds)) => match g (hideS (S.set i (.fr (.lst ds)))) with
    | .ok (.ow (.lst rs)) _ => if (∃ vs, flsD rs = some vs) then .ok (.ow (.lst rs)) S else .stuck
    | _ => .stuck
  | _ => .stuck
theorem ownL_is {i : Nat} {g : DS → Out} {S S1 : DS} {p : Bool} {ds rs : List D} {vs : List V} (h : S[i]? = some (.ow p (.lst ds))) (e : g (hideS (S.set i (.fr (.lst ds)))) = .ok (.ow (.lst rs)) S1) (f : flsD rs = some vs) : ownL i g S = .ok (.ow (.lst rs)) S := by
  unfold ownL
  rw [h]
  dsimp only
  rw [e]
  dsimp only
  rw [if_pos ⟨vs, f⟩]
theorem flat_ats {K : Fr} {F : Addr → Prop} {H : Hp} : ∀ {rs : List D} {vs : List V}, flsD rs = some vs → Ats K F H vs rs
  | [], _, h => by cases h; exact .nil
  | d :: rs, _, h => by
    unfold flsD at h
    split at h
    · rename_i v vs h1 h2
      cases h
      refine .cons ?_ (flat_ats h2)
      cases d with
      | non => cases h1; exact .non
      | bl b => cases h1; exact .bl b
      | int i => cases h1; exact .int i
      | str x => cases h1; exact .str x
      | _ => cases h1
    · cases h
theorem ev_ownL {X : Cx} {W : WX} {e : Expr} {g : DS → Out} (i : Nat) (a : EV X W e g) : EV X W e (ownL i g) := by
  refine ⟨⟨fun pins s σ H Q I ⟨B, F, S, rel, q⟩ => ?_⟩⟩
  unfold ownL at q
  cases hS : S[i]? with
  | none => rw [hS] at q; exact q.elim
  | some sl =>
    rw [hS] at q
    match sl, hS, q with
    | .un, _, q => exact q.elim
    | .fr _, _, q => exact q.elim
    | .ow p d, hS, q =>
      cases d with
      | lst ds =>
        dsimp only at q
        obtain ⟨o, ho, a0, ea, nF, vs, hv, ats⟩ := rel.sl i _ hS
        have e1 : Ext F H (fun b => F b ∨ b = a0) H := ⟨fun _ h => .inl h, fun _ _ _ h _ => h, fun _ _ h => h⟩
        have inner : Rel X.K ⟨H, fun b => F b ∨ b = a0, []⟩ (fun b => F b ∨ b = a0) (hideS (S.set i (.fr (.lst ds)))) σ H := by
          refine rel_hide (by rw [List.length_set]; exact rel.len) (fun j d hj => ?_) (fun b hb => ?_) rel.tabs
          · by_cases z : i = j
            · subst z
              rw [List.getElem?_set_self (List.getElem?_eq_some_iff.mp hS).1] at hj
              cases hj
              exact ⟨.ref a0, by rw [ho, ea], .lst (.inr rfl) hv (ats.ext e1)⟩
            · rw [List.getElem?_set_ne z] at hj
              obtain ⟨o', h1, v, h2, h3⟩ := rel.sl j _ hj
              exact ⟨v, by rw [h1, h2], h3.ext e1⟩
          · rcases hb with hb | hb
            · exact rel.trk b hb
            · rw [hb]
              exact ⟨_, hv⟩
        refine a.pe.run pins s σ H Q I ⟨_, _, _, inner, ?_⟩
        cases eg : g (hideS (S.set i (.fr (.lst ds)))) with
        | stuck => rw [eg] at q; exact q.elim
        | exc C fs S' => rw [eg] at q; exact q.elim
        | ok r S1 =>
          rw [eg] at q
          cases r with
          | v d => exact q.elim
          | bw j => exact q.elim
          | ow d =>
            cases d with
            | lst rs =>
              dsimp only at q
              split at q
              · rename_i fl
                obtain ⟨ws, fl⟩ := fl
                intro x H' F' xt r ⟨p0, ex, n1, ⟨us, h1, h2⟩, h3, h4, h5⟩
                obtain ⟨x2, r2⟩ := rel.thru (F' := F) ⟨fun _ h => h, fun b o f h n => xt.keep b o (.inl f) h n, xt.cod⟩ (fun _ h => .inl h) (fun b hb => by
                  obtain ⟨o, hb⟩ := rel.trk b hb
                  exact xt.there b o hb) (fun b o h => r.keep b o h fun j hj => absurd hj (by simp)) r.tabs
                obtain ⟨e3, _⟩ := h2.fl fl
                subst e3
                exact q x H' F x2 r2 ⟨p0, ex, fun z => n1 (xt.sub _ (.inl z)), ⟨us, h1, flat_ats fl⟩, rel.h0 h4, h4, fun j pp e hj => rel.nSl h4 j pp e hj⟩
              · exact q.elim
            | _ => exact q.elim
      | _ => exact q.elim
end DL
namespace DL
open PySem PySem.Spec PyProof.Rows L2
/-! ### the signs of a shown value -/
def OkX (x : Str) : Prop := ∀ k ∈ x.cps.toList, k < 1114112
theorem okX_iff {x : Str} : PyData.strOk x = true ↔ OkX x := by
  unfold PyData.strOk OkX
  rw [Array.all_eq_true]
  constructor
  · intro h k hk
    obtain ⟨i, hi, e⟩ := List.mem_iff_getElem.mp hk
    have h1 := h i (by simpa using hi)
    have e' : x.cps[i]'(by simpa using hi) = k := by simpa using e
    rw [e'] at h1
    simpa using h1
  · intro h i hi
    have := h x.cps[i] (Array.mem_toList_iff.mpr (Array.getElem_mem hi))
    simpa using this
theorem OkX.app {x y : Str} (h : OkX x) (h' : OkX y) : OkX (x ++ y) := fun k hk => by
  have e : (x ++ y).cps.toList = x.cps.toList ++ y.cps.toList := by
    show (x.cps ++ y.cps).toList = _
    simp
  rw [e] at hk
  rcases List.mem_append.mp hk with z | z
  · exact h k z
  · exact h' k z
theorem char_lt (c : Char) : c.toNat < 1114112 := by
  have := c.valid
  unfold UInt32.isValidChar at this
  unfold Nat.isValidChar at this
  show c.val.toNat < 1114112
  omega
theorem okX_of (s : String) : OkX (Str.ofString s) := fun k hk => by
  rw [PySem.Str.ofString_eq_toList] at hk
  have hk : k ∈ s.toList.map Char.toNat := by simpa using hk
  obtain ⟨c, _, rfl⟩ := List.mem_map.mp hk
  exact char_lt c
theorem okX_char {q c : Nat} (hq : q < 1114112) (hc : c < 1114112) : ∀ k ∈ Builtin.Str.reprChar q c, k < 1114112 := by
  have hex : ∀ (w : Nat), ∀ k ∈ List.replicate (w - ((Nat.toDigits 16 c).map Char.toNat).length) 48 ++ (Nat.toDigits 16 c).map Char.toNat, k < 1114112 := fun w k hk => by
    rcases List.mem_append.mp hk with z | z
    · rw [List.eq_of_mem_replicate z]
      decide
    · obtain ⟨d, _, rfl⟩ := List.mem_map.mp z
      exact char_lt d
  intro k hk
  unfold Builtin.Str.reprChar at hk
  dsimp only at hk
  split at hk
  · simp at hk; omega
  split at hk
  · simp at hk; omega
  split at hk
  · simp at hk; omega
  split at hk
  · simp at hk; omega
  split at hk
  · simp at hk; omega
  split at hk
  · rcases List.mem_append.mp hk with z | z
    · simp at z; omega
    · exact hex 2 k z
  split at hk
  · rcases List.mem_append.mp hk with z | z
    · simp at z; omega
    · exact hex 4 k z
  · rcases List.mem_append.mp hk with z | z
    · simp at z; omega
    · exact hex 8 k z
theorem okX_fold {q : Nat} (hq : q < 1114112) : ∀ (l : List Nat) (acc : Array Nat), (∀ c ∈ l, c < 1114112) → (∀ k ∈ acc.toList, k < 1114112) → ∀ k ∈ (l.foldl (fun out c => out ++ (Builtin.Str.reprChar q c).toArray) acc).toList, k < 1114112
  | [], acc, _, h => h
  | c :: l, acc, hl, h => okX_fold hq l _ (fun d hd => hl d (List.mem_cons_of_mem _ hd)) (fun k hk => by
    have hk : k ∈ acc.toList ++ Builtin.Str.reprChar q c := by simpa using hk
    rcases List.mem_append.mp hk with z | z
    · exact h k z
    · exact okX_char hq (hl c List.mem_cons_self) k z)
theorem okX_repr {x : Str} (h : OkX x) : OkX (reprText x) := fun k hk => by
  have hq : reprQuote x < 1114112 := by
    unfold reprQuote
    split <;> omega
  unfold reprText at hk
  rw [← Array.foldl_toList] at hk
  have hk : k ∈ (x.cps.toList.foldl (fun out c => out ++ (Builtin.Str.reprChar (reprQuote x) c).toArray) #[reprQuote x]).toList ++ [reprQuote x] := by simpa using hk
  rcases List.mem_append.mp hk with z | z
  · exact okX_fold hq _ _ h (fun k hk => by
      have : k = reprQuote x := by simpa using hk
      omega) k z
  · have : k = reprQuote x := by simpa using z
    omega
theorem okX_from : ∀ (ts : List Str) (k : Nat) (acc : Str), (∀ t ∈ ts, OkX t) → OkX acc → OkX (textFrom k acc ts)
  | [], _, _, _, h => h
  | t :: ts, k, acc, ht, h => okX_from ts (k + 1) _ (fun u hu => ht u (List.mem_cons_of_mem _ hu)) ((h.app (okX_of _)).app (ht t List.mem_cons_self))
theorem okX_join : ∀ (ts : List Str), (∀ t ∈ ts, OkX t) → OkX (Str.join ", " ts)
  | [], _ => fun k hk => by simp [Str.join, Str.empty] at hk
  | [x], h => h x List.mem_cons_self
  | x :: y :: r, h => ((h x List.mem_cons_self).app (okX_of _)).app (okX_join (y :: r) fun u hu => h u (List.mem_cons_of_mem _ hu))
theorem okX_list {ts : List Str} (h : ∀ t ∈ ts, OkX t) : OkX (listText ts) := (okX_from ts 0 _ h (okX_of _)).app (okX_of _)
theorem okX_tuple {ts : List Str} (h : ∀ t ∈ ts, OkX t) : OkX (tupleText ts) := ((okX_of _).app (okX_join ts h)).app (okX_of _)
mutual
theorem okX_shown : ∀ p : PyData, p.canLay0 = true → OkX p.shown
  | .none, _ => okX_of _
  | .bool b, _ => by
    show OkX (if b then "True" else "False" : Str)
    cases b <;> exact okX_of _
  | .int i, _ => okX_of _
  | .str x, h => okX_repr (okX_iff.mp h)
  | .list xs, h => okX_list (okX_all xs h)
  | .tuple xs, h => okX_tuple (okX_all xs h)
  | .dict _, h => by cases h
theorem okX_all : ∀ xs : List PyData, PyData.canLayAll0 xs = true → ∀ t ∈ PyData.shownAll xs, OkX t
  | [], _ => fun t ht => by cases ht
  | x :: xs, h => fun t ht => by
    have h : (x.canLay0 && PyData.canLayAll0 xs) = true := h
    rw [Bool.and_eq_true] at h
    rcases List.mem_cons.mp ht with rfl | ht
    · exact okX_shown x h.1
    · exact okX_all xs h.2 t ht
end
end DL
namespace DL
open PySem PySem.Spec PyProof.Rows L2
section
open PySem.W
variable {prog : Program} {w : World} {A : Around} {E : Value → Shared → Prop} {s : Shared} {K : Frag} {x C L f : Addr} {h₀ : Heap} {m : Str → Option Value} {ox : Obj} {od : Option Obj}
/-- the truth of an instance without __bool__, with __len__ -/
theorem truthy_len {Q : Bool → Shared → Prop} (X : K.In s.heap) (I : InstAt s.heap x ox C od) (nb : findIn K (.ref C) "__bool__" = some none) (hs : findIn K (.ref C) "__len__" = some (some (.ref f))) (hf : isFn K (.ref f) = true)
    (h : wpAny (model prog w) A.in1 (call (.ref f) [.ref x]) (PySem.W.LenBack fun v s' => match v with
      | .int n _ => Q (n != 0) s'
      | _ => False) E s) : wpAny (model prog w) A (truthy (.ref x)) Q E s := by
  unfold truthy
  refine wpAny_bind (m := callSpecial? (.ref x) (Str.ofString "__bool__")) (wpAny_bind (wpAny_bind (I.type.here ((looks_findIn X nb).here (wpAny_pure ?_)))))
  refine wpAny_bind (wpAny_bind (I.type.here ((looks_findIn X hs).here ?_)))
  show wpAny _ _ (if (some (Value.ref f)).isNone = true then _ else _) _ _ _
  rw [if_neg (by simp)]
  refine wpAny_bind (m := runValue (.builtin "len" ⟨[.ref x], []⟩)) (wpAny_runValue (codeAny_builtin entry_len ?_))
  rw [Around.under_plainId plain_len _]
  unfold Builtin.«len»
  refine wpAny_bind (m := oneArg "len" _) (wpAny_pure ?_)
  refine wpAny_bind (m := callSpecial? (.ref x) (Str.ofString "__len__")) (special_fn X I hs (beq_iff_eq.mp hf) (wpAny_mono h (fun r s' hr => ?_) fun _ _ y => y))
  cases r <;> first | exact hr.elim | skip
  rename_i n u
  obtain ⟨⟨h0, h1⟩, hq⟩ := hr
  refine wpAny_bind (wpAny_holding (wpAny_pure ?_))
  refine wpAny_bind (wpAny_letGo ?_)
  show wpAny _ _ (if n < 0 then _ else _) _ _ _
  rw [if_neg (by omega)]
  show wpAny _ _ (if n ≥ 2 ^ 63 then _ else _) _ _ _
  rw [if_neg (by omega)]
  exact wpAny_bind (wpAny_mkInt (wpAny_pure (wpAny_pure hq)))
theorem bool_call {Q : Value → Shared → Prop} (X : K.In s.heap) (I : InstAt s.heap x ox C od) (nb : findIn K (.ref C) "__bool__" = some none) (hs : findIn K (.ref C) "__len__" = some (some (.ref f))) (hf : isFn K (.ref f) = true)
    (h : wpAny (model prog w) A.in1.in1.in1 (call (.ref f) [.ref x]) (PySem.W.LenBack fun v s' => match v with
      | .int n _ => Q (.bool (n != 0)) s'
      | _ => False) E s) : wpAny (model prog w) A (call (.type "bool") [.ref x]) Q E s := by
  refine callType_codes (T := "bool") (Bi := Builtin.«object.__init__») (Q₁ := fun r s₁ => ∃ y, r = .bool y ∧ Q r s₁) PySem.F.called_bool (PySem.F.typeCall_bool_1 _) PySem.F.entry_object_init ?_ ?_
  · refine codeAny_of_tree ?_
    show wpAny _ A.in1.in1 (do checkBuiltinCall "bool.__new__" ⟨[.type "bool", .ref x], []⟩; again (.builtin "bool.__new__" ⟨[.type "bool", .ref x], []⟩)) _ _ s
    refine wpAny_bind (wpAny_of_eq (PySem.F.newCall_bool_1 _) (wpAny_pure ⟨plainId_quiet (by decide +kernel) _, codeAny_builtin PySem.F.entry_bool_new ?_⟩))
    rw [Around.under_plainId (by decide +kernel) _]
    unfold Builtin.«bool.__new__»
    refine wpAny_bind (m := isType _) (wpAny_pure ?_)
    refine wpAny_bind (wpAny_of_eq PySem.F.conv_sub_bool ?_)
    refine wpAny_bind (m := someArgs _ _ _ _) (wpAny_pure ?_)
    refine wpAny_bind (wpAny_mono (truthy_len (Q := fun b s' => Q (.bool b) s') X I nb hs hf h) (fun b s' hq => ?_) fun _ _ y => y)
    exact wpAny_pure ⟨_, rfl, hq⟩
  · rintro obj s₁ ⟨y, rfl, hq⟩
    exact ⟨PySem.typeIs_bool _ _, PySem.F.args_object_init_2 _ _, object_init_meets PySem.F.called_bool.init.lookup PySem.F.called_bool.made (by decide) prog w A.in1 _ s₁ ⟨PySem.typeIs_bool _ _, rfl, hq⟩⟩
end
variable [Nm]
section
variable {X : Cx} {W : WX} {e : Expr} {f : DS → Out} {pos p : Pos} {C : Addr} {k : Nat} {m : List Sl → Fo}
abbrev rOwnT (K : Fr) (C : Addr) (m : List Sl → Fo) : List V → Hp → VK → Prop := fun xs H Q => ∃ x dx fvs, xs = [.ref x] ∧ H x = some (.ins C dx fvs) ∧ spD K 1 m xs H (fun v H' => (∃ i, v = .int i ∧ 0 ≤ i ∧ i < 2 ^ 63) ∧ ∀ i, v = .int i → Q (.bl (i != 0)) H') fun _ _ _ => False
theorem call_boolI (M : MetOk X.prog X.w X.K X.mg X.base C "__len__" k 1 m) (nb : PySem.W.findIn X.K (.ref C) "__bool__" = some none) (hr : Room (k + 3) X.A) : CallR X (.type "bool") (rOwnT X.K C m) := by
  obtain ⟨fa, fd, ps, F, hb, hs, hf⟩ := M
  intro pins s σ H xs us Q I r h
  obtain ⟨x, dx, fvs, rfl, hx, sp⟩ := h
  match r with
  | .cons r1 .nil =>
    cases r1
    obtain ⟨mA, O, _⟩ := ins_get I.hok hx
    obtain ⟨od, J, _⟩ := O.look
    refine bool_call I.kIn J nb hs hf ?_
    have rvs : Vals [V.ref x] [Value.ref x] := .cons rfl .nil
    refine wpAny_mono (run_fnI F hr.in1.in1.in1 I.env0.in1.in1.in1 hb I rvs sp) (fun u s' q => ?_) fun _ _ z => z
    obtain ⟨v, H', I', rv, ⟨i, rfl, h0, h1⟩, q⟩ := q
    obtain ⟨t, rfl⟩ := (show ∃ t, u = Value.int i t from rv)
    exact ⟨⟨h0, h1⟩, .bl (i != 0), H', I'.tok _, rfl, q i rfl⟩
def boolI (C : Addr) (m : List Sl → Fo) (f : DS → Out) : DS → Out := bnd (ownB C m isLen f) fun r S => match r with
  | .v (.int i) => .ok (.v (.bl (i != 0))) S
  | _ => .stuck
theorem ev_boolI (M : MetOk X.prog X.w X.K X.mg X.base C "__len__" k 1 m) (nb : NoAttr X.K C "__bool__") (hr : Room (k + 3) X.A) (hg : Gl X "bool") (hm : X.mg "bool" = none) (a : EV X W e f) (he : starEach [e] X.env = (false, eval e X.env) :: starEach [] X.env := by rfl) (hpl : (backTo pos (starEach [] X.env)).any (·.1) = false := by rfl) : EV X W (.Call (.Name "bool" p) [e] [] pos) (boolI C m f) := by
  refine ⟨PE.imp (pe_callTy (call_boolI M nb hr) hg hm boot_bool (pa_cons a.pe pa_nil he) (by decide) (by decide) he hpl) fun σ H Q ⟨B, F, S, rel, p⟩ => ?_⟩
  have p' : Po X.K W B S F H σ (fun v H' => ∀ i, v = .int i → Q (.bl (i != 0)) H') (ownB C m isLen f S) := by
    unfold boolI bnd at p
    cases e1 : ownB C m isLen f S with
    | stuck => rw [e1] at p; exact p
    | exc C fs S' => rw [e1] at p; exact p
    | ok r S' =>
      rw [e1] at p
      match r, p with
      | .v (.int i), p =>
        intro x H' F' xt r' rv j hj
        have : x = .int i := At.intI rv
        rw [this] at hj
        cases hj
        exact p _ H' F' xt r' (.bl _)
  obtain ⟨B1, F1, S1, rel1, p1⟩ := tE_bnd rel p'
  refine ⟨B1, F1, S1, rel1, Po.imp ?_ p1⟩
  rintro x H1 ⟨F2, S2, r, x2, rel2, rv2, p2⟩
  exact ownB_sp (fun F H v d at' ht => by
    cases d with
    | int i =>
      have := of_decide_eq_true ht
      exact ⟨i, at'.intI, this.1, this.2⟩
    | _ => cases ht) rel2 rv2.s p2
end
end DL
namespace DL
open PySem PySem.Spec PyProof.Rows L2
/-! ### an own == (and !=) against a value of another kind -/
theorem ne_callA {prog : Program} {w : World} {A : Around} {E : Value → Shared → Prop} {s : Shared} {K : Fr} {x C f : Addr} {y tb : Value} {ox : Obj} {od : Option Obj} {Q : Value → Shared → Prop} (hu : A.units + 1 < cLine) (X : K.In s.heap) (I : PySem.W.InstAt s.heap x ox C od) (J : PySem.W.Looks (model prog w) s.heap (typeOf y) tb)
    (hq : PySem.W.subIn K tb (.ref C) = some false)
    (hs : PySem.W.findIn K (.ref C) "__eq__" = some (some (.ref f))) (hf : PySem.W.isFn K (.ref f) = true) (hn : PySem.W.findIn K (.ref C) "__ne__" = some (some (.builtin "object.__ne__"))) (ho : PySem.W.subIn K (.ref C) (.type "object") = some true)
    (h : wpAny (model prog w) A.in1 (call (.ref f) [.ref x, y]) (fun v s' => ∃ b, v = .bool b ∧ Q (.bool (!b)) s') E s) : wpAny (model prog w) A (richCompare .NotEq (.ref x) y) Q E s := by
  have S := F.cmp_object.ne
  have inner : wpAny (model prog w) A (call (.builtin "object.__ne__") [.ref x, y]) (fun v s' => v ≠ .notImplemented ∧ Q v s') E s := by
    refine wpAny_call (codeAny_call_builtin S.plain F.cmpEntry_ne (PySem.W.check_slot F.cmpKind_ne F.cmpSplit_ne (I.type.andThen (PySem.W.looks_subIn X ho)) (F.cmpArgs_ne _ _) ?_))
    unfold Builtin.«object.__ne__»
    refine wpAny_bind (m := slotArgs _ _ _) (wpAny_pure ?_)
    refine wpAny_bind (wpAny_cRoomFor (show A.in1.units < cLine from hu) ?_)
    refine wpAny_bind (m := callSpecialIfBound? (.ref x) (Str.ofString "__eq__") [y]) (PySem.W.ifBound_K X I hs hf (wpAny_mono h (fun v s' hv => ?_) fun _ _ z => z))
    obtain ⟨b, rfl, hq⟩ := hv
    exact wpAny_bind (wpAny_truthy_bool (wpAny_pure ⟨(fun z => nomatch z), hq⟩))
  have bind : wpAny (model prog w) A (callSpecialIfBound? (.ref x) "__ne__" [y]) (fun r s' => ∃ v, r = some v ∧ v ≠ .notImplemented ∧ Q v s') E s := by
    simp only [callSpecialIfBound?, bindSpecialIfBound?]
    refine wpAny_holding (wpAny_bind (wpAny_bind (wpAny_bind (I.type.here ((PySem.W.looks_findIn X hn).here ?_)))))
    refine wpAny_bind (wpAny_askSetting (wpAny_ite ?_))
    have fin : wpAny (model prog w) A (call (.builtin "object.__ne__") ([.ref x] ++ [y]) >>= fun v => pure (some v)) (fun r s' => ∃ v, r = some v ∧ v ≠ .notImplemented ∧ Q v s') E s :=
      wpAny_bind (wpAny_mono inner (fun v s' h' => wpAny_pure ⟨v, rfl, h'⟩) fun _ _ z => z)
    simp only [S.bind]
    split
    · exact wpAny_bind (wpAny_pure (wpAny_pure (by exact fin)))
    · exact wpAny_tryCatch (wpAny_bind (wpAny_pure (wpAny_pure (by exact fin))))
  have one : wpAny (model prog w) A (tryCompare (.ref x) "__ne__" y) (fun r s' => ∃ v, r = some v ∧ Q v s') E s := by
    unfold tryCompare
    refine wpAny_bind (wpAny_mono bind (fun r s' hr => ?_) fun _ _ z => z)
    obtain ⟨v, rfl, nv, hq⟩ := hr
    cases v <;> first | exact (nv rfl).elim | exact wpAny_pure ⟨_, rfl, hq⟩
  unfold richCompare
  simp only [oneThing_ref]
  refine wpAny_holding (wpAny_bind (wpAny_cRoomFor (Nat.lt_of_succ_lt hu) ?_))
  rw [cmpInfo_NotEq]
  dsimp only
  refine wpAny_bind (I.type.here (wpAny_bind (J.here ?_)))
  split
  · refine wpAny_bind ((PySem.W.looks_subIn X hq).here ?_)
    simp only [Bool.false_eq_true, if_false]
    refine wpAny_bind (wpAny_mono one (fun r s' z => ?_) fun _ _ e => e)
    obtain ⟨v, rfl, hq⟩ := z
    exact wpAny_pure hq
  · refine wpAny_bind (wpAny_pure ?_)
    simp only [Bool.false_eq_true, if_false]
    refine wpAny_bind (wpAny_mono one (fun r s' z => ?_) fun _ _ e => e)
    obtain ⟨v, rfl, hq⟩ := z
    exact wpAny_pure hq
variable [Nm]
section
variable {X : Cx} {W : WX} {e e1 e2 o : Expr} {es : List Expr} {f g : DS → Out} {ga : DS → AOut} {pos p : Pos} {C : Addr} {n : Str} {k : Nat} {m : List Sl → Fo}
/-- no builtin kind is below the class -/
def NoSub (K : Fr) (C : Addr) : Prop := ∀ t ∈ ["NoneType", "bool", "int", "str", "list", "tuple", "dict"], PySem.W.subIn K (.type t) (.ref C) = some false
abbrev rOwnA (K : Fr) (C : Addr) (m : List Sl → Fo) (ng : Bool) : R2 := fun x y H Q => (∃ a dx fvs, x = .ref a ∧ H a = some (.ins C dx fvs)) ∧ (∃ t, TyX K H y (.type t) ∧ PySem.W.subIn K (.type t) (.ref C) = some false) ∧
  spD K 2 m [x, y] H (fun v H' => ∃ b, v = .bl b ∧ Q (.bl (xor ng b)) H') fun _ _ _ => False
theorem op_eqA (M : MetOk X.prog X.w X.K X.mg X.base C "__eq__" k 2 m) (hr : Room (k + 1) X.A) : OpR X (compareOp .Eq) (rOwnA X.K C m false) := by
  obtain ⟨fa, fd, ps, F, hb, hs, hf⟩ := M
  intro pins s σ H x y v u Q I rx ry h
  obtain ⟨⟨a, dx, fvs, rfl, h1⟩, ⟨t, ty, hsub⟩, sp⟩ := h
  cases rx
  obtain ⟨mA, O, _⟩ := ins_get I.hok h1
  obtain ⟨od, J, _⟩ := O.look
  obtain ⟨P, kx, hP, _⟩ := kit_of I ry ty
  obtain ⟨ml, hF⟩ := I.fr
  show wpAny _ _ (richCompare .Eq (.ref a) u) _ _ s
  refine PySem.W.cmp_K (op := .Eq) (tb := .type t) hr.units0 hF I.ok.mod.kin J (kx.ty _ _ I.kIn hP) (by simp [PySem.W.notFirst, hsub]) hs hf ?_
  have rvs : Vals [V.ref a, y] [Value.ref a, u] := .cons rfl (.cons ry .nil)
  refine wpAny_mono (run_fnI F (hr.mono (Nat.le_succ _)) I.env0 hb I rvs sp) (fun w s' q => ?_) fun _ _ z => z
  obtain ⟨z, H', I', rv, ⟨c, rfl, q⟩⟩ := q
  obtain rfl : w = .bool c := rv
  exact ⟨.bl c, H', I', rfl, by simpa using q⟩
theorem op_neA (N : NeIn X.K C) (M : MetOk X.prog X.w X.K X.mg X.base C "__eq__" k 2 m) (hr : Room (k + 1) X.A) : OpR X (compareOp .NotEq) (rOwnA X.K C m true) := by
  obtain ⟨fa, fd, ps, F, hb, hs, hf⟩ := M
  intro pins s σ H x y v u Q I rx ry h
  obtain ⟨⟨a, dx, fvs, rfl, h1⟩, ⟨t, ty, hsub⟩, sp⟩ := h
  cases rx
  obtain ⟨mA, O, _⟩ := ins_get I.hok h1
  obtain ⟨od, J, _⟩ := O.look
  obtain ⟨P, kx, hP, _⟩ := kit_of I ry ty
  show wpAny _ _ (richCompare .NotEq (.ref a) u) _ _ s
  have un := hr.units
  refine ne_callA (by omega) I.kIn J (kx.ty _ _ I.kIn hP) hsub hs hf N.hn N.ho ?_
  have rvs : Vals [V.ref a, y] [Value.ref a, u] := .cons rfl (.cons ry .nil)
  refine wpAny_mono (run_fnI F hr.in1 I.env0.in1 hb I rvs sp) (fun w s' q => ?_) fun _ _ z => z
  obtain ⟨z, H', I', rv, ⟨c, rfl, q⟩⟩ := q
  obtain rfl : w = .bool c := rv
  exact ⟨c, rfl, .bl (!c), H', I', rfl, by simpa using q⟩
def isTy (S : DS) (r : R) : Bool := match r.get S with
  | some d => (tyN d).isSome
  | none => false
def ownA (C : Addr) (m : List Sl → Fo) (ng : Bool) (f g : DS → Out) : DS → Out := bnd f fun ra => bnd g fun rb S => if isIns C S ra && isTy S rb then (match callS 2 m [ra, rb] S with
  | .ok (.v (.bl b)) S' => .ok (.v (.bl (xor ng b))) S'
  | _ => .stuck) else .stuck
theorem ownA_of {K : Fr} {ng : Bool} {σ : St} {H : Hp} {Q : VK} (ns : NoSub K C) (q : tE K W (ownA C m ng f g) σ H Q) : tOp (rOwnA K C m ng) (tE K W f) (tE K W g) σ H Q := by
  obtain ⟨B, F, S, rel, p⟩ := q
  obtain ⟨B1, F1, S1, rel1, p1⟩ := tE_bnd rel p
  refine ⟨B1, F1, S1, rel1, Po.imp ?_ p1⟩
  rintro x H1 ⟨F2, S2, ra, x2, rel2, rv2, p2⟩
  obtain ⟨B3, F3, S3, rel3, p3⟩ := tE_bnd rel2 p2
  refine ⟨B3, F3, S3, rel3, Po.imp ?_ p3⟩
  rintro y H2 ⟨F4, S4, rb, x4, rel4, rv4, p4⟩
  have sa := RVs.ext x4.toExt rv2.s
  have sb := rv4.s
  dsimp only at p4
  split at p4
  · rename_i hc
    have hc := Bool.and_eq_true_iff.mp hc
    refine ⟨isIns_at rel4 hc.1 sa, ?_, ?_⟩
    · have h2 := hc.2
      unfold isTy at h2
      cases hg : rb.get S4 with
      | none => rw [hg] at h2; cases h2
      | some d =>
        rw [hg] at h2
        dsimp only at h2
        cases ht : tyN d with
        | none => rw [ht] at h2; cases h2
        | some t => exact ⟨t, tyX_of (sb.rds rel4 hg) ht, ns t (tyN_mem ht)⟩
    · cases h : callS 2 m [ra, rb] S4 with
      | stuck => rw [h] at p4; exact p4.elim
      | exc C fs S' => rw [h] at p4; exact p4.elim
      | ok rr S' =>
        rw [h] at p4
        have rvs : RVsL K F4 σ H2 [x, y] [ra, rb] := .cons sa (.cons sb .nil)
        refine callS_sp0 (W := W) rel4 rvs ?_ fun C fs S z => by rw [h] at z; cases z
        rw [h]
        match rr, p4 with
        | .v (.bl b), p4 => exact fun z H' F' xt r' v => ⟨b, At.blI v, p4 _ H' F' xt r' (.bl _)⟩
  · exact p4.elim
theorem ev_eqA (ns : NoSub X.K C) (M : MetOk X.prog X.w X.K X.mg X.base C "__eq__" k 2 m) (hr : Room (k + 1) X.A) (a : EV X W e1 f) (b : EV X W e2 g) : EV X W (.Compare e1 [.Eq] [e2] pos) (ownA C m false f g) :=
  ⟨PE.imp (pe_cmpR (op_eqA M hr) a.pe b.pe (nomark _)) fun σ H Q q => ownA_of ns q⟩
theorem ev_neA (ns : NoSub X.K C) (N : NeIn X.K C) (M : MetOk X.prog X.w X.K X.mg X.base C "__eq__" k 2 m) (hr : Room (k + 1) X.A) (a : EV X W e1 f) (b : EV X W e2 g) : EV X W (.Compare e1 [.NotEq] [e2] pos) (ownA C m true f g) :=
  ⟨PE.imp (pe_cmpR (op_neA N M hr) a.pe b.pe (nomark _)) fun σ H Q q => ownA_of ns q⟩
end
end DL
namespace DL
open PySem PySem.Spec PyProof.Rows L2
/-! ### a text and a dict are never equal -/
section
open PySem.SeqAt AutoSeq1 MeetsSeq
theorem sub_dict_str : isSubtype (.type "dict") (.type "str") = pure false := by rw [isSubtype_type]; kernel_rfl
theorem sub_str_dict : isSubtype (.type "str") (.type "dict") = pure false := by rw [isSubtype_type]; kernel_rfl
theorem str_eq_dict (b : Str) (u : Tok) (l : Addr) (es : Array DictEntry) (ep : Nat) (dd : Option Addr) (sl : Array (Option Value)) :
    Meets (Builtin.«str.__eq__» ⟨[.str b u, .ref l], []⟩) (fun _ R s => s.heap.get? l = some { cls := .type "dict", dict := dd, data := .dict es ep, slots := sl } ∧ R (.ok (.ret .notImplemented)) s) :=
  .of_wp fun prog w A R s h => by obtain ⟨hp, g, d, tk, os⟩ := s; obtain ⟨hl, h⟩ := h; wp_walk using wpAny_loadPart' hl, wpAny_load hl; exact ⟨_, rfl, h⟩
theorem dict_eq_str (l : Addr) (es : Array DictEntry) (ep : Nat) (dd : Option Addr) (sl : Array (Option Value)) (b : Str) (u : Tok) :
    Meets (Builtin.«dict.__eq__» ⟨[.ref l, .str b u], []⟩) (fun _ R s => s.heap.get? l = some { cls := .type "dict", dict := dd, data := .dict es ep, slots := sl } ∧ R (.ok (.ret .notImplemented)) s) :=
  .of_wp fun prog w A R s h => by obtain ⟨hp, g, d, tk, os⟩ := s; obtain ⟨hl, h⟩ := h; have f1 := sub_str_dict; wp_walk using wpAny_loadPart' hl, wpAny_load hl; exact ⟨_, rfl, h⟩
theorem str_ne_dict (b : Str) (u : Tok) (l : Addr) (es : Array DictEntry) (ep : Nat) (dd : Option Addr) (sl : Array (Option Value)) :
    Meets (Builtin.«str.__ne__» ⟨[.str b u, .ref l], []⟩) (fun _ R s => s.heap.get? l = some { cls := .type "dict", dict := dd, data := .dict es ep, slots := sl } ∧ R (.ok (.ret .notImplemented)) s) :=
  .of_wp fun prog w A R s h => by obtain ⟨hp, g, d, tk, os⟩ := s; obtain ⟨hl, h⟩ := h; wp_walk using wpAny_loadPart' hl, wpAny_load hl; exact ⟨_, rfl, h⟩
theorem dict_ne_str (l : Addr) (es : Array DictEntry) (ep : Nat) (dd : Option Addr) (sl : Array (Option Value)) (b : Str) (u : Tok) :
    Meets (Builtin.«dict.__ne__» ⟨[.ref l, .str b u], []⟩) (fun _ R s => s.heap.get? l = some { cls := .type "dict", dict := dd, data := .dict es ep, slots := sl } ∧ R (.ok (.ret .notImplemented)) s) :=
  .of_wp fun prog w A R s h => by obtain ⟨hp, g, d, tk, os⟩ := s; obtain ⟨hl, h⟩ := h; have f1 := sub_str_dict; wp_walk using wpAny_loadPart' hl, wpAny_load hl; exact ⟨_, rfl, h⟩
variable {A : Around} {s : Shared}
/-- a dict stands at l -/
def IsDc (h : Heap) (l : Addr) : Prop := ∃ o es ep, h.get? l = some o ∧ o.ExactDict ∧ o.data = .dict es ep
theorem RcAt.str_dict {l : Addr} (b : Str) (u : Tok) (hl : IsDc s.heap l) (hu : A.units < cLine) : RcAt A s (.str b u) (.ref l) false := fun prog w E Q h => by
  obtain ⟨⟨cls, dd, data, sl⟩, es, ep, ho, hc, hd⟩ := hl
  obtain ⟨hc, h2, h3⟩ := hc
  simp only at hc hd
  subst hc hd
  exact rc_eq_decline_or (k := false) (typeIs_str s b u) ⟨_, ho, rfl⟩ (by decide) sub_dict_str F.slot_str_eq F.slot_dict_eq_refl
    (fun _ hq => call_meets F.slot_str_eq (typeIs_str s b u) F.entry_str_eq (F.args_str_eq_2 _ _) (str_eq_dict b u l es ep dd sl) ⟨ho, hq⟩)
    (fun _ hq => call_meets F.slot_dict_eq_refl ⟨_, ho, rfl⟩ F.entry_dict_eq (F.args_dict_eq_2 _ _) (dict_eq_str l es ep dd sl b u) ⟨ho, hq⟩)
    (fun _ hq => wpAny_of_eq (rfl : isSame (.str b u) (.ref l) = pure false) hq) (.inr hu) h
theorem EqAt.str_dict {l : Addr} (b : Str) (u : Tok) (hl : IsDc s.heap l) (hu : A.units < cLine) : EqAt A s (.str b u) (.ref l) false := fun prog w E Q h => by
  unfold eqBool
  refine wpAny_holding ?_
  refine wpAny_ite_split (fun hab => absurd (eq_of_beq hab) nofun) (fun _ => ?_)
  exact wpAny_bind (RcAt.str_dict b u hl hu prog w E _ (wpAny_truthy_bool h))
theorem RcNeAt.str_dict {l : Addr} (b : Str) (u : Tok) (hl : IsDc s.heap l) (hu : A.units < cLine) : RcNeAt A s (.str b u) (.ref l) true := fun prog w E Q h => by
  obtain ⟨⟨cls, dd, data, sl⟩, es, ep, ho, hc, hd⟩ := hl
  obtain ⟨hc, h2, h3⟩ := hc
  simp only at hc hd
  subst hc hd
  exact rc_ne_decline_or (k := false) (typeIs_str s b u) ⟨_, ho, rfl⟩ (by decide) sub_dict_str F.slot_str_ne F.slot_dict_ne_refl
    (fun _ hq => call_meets F.slot_str_ne (typeIs_str s b u) F.entry_str_ne (F.args_str_ne_2 _ _) (str_ne_dict b u l es ep dd sl) ⟨ho, hq⟩)
    (fun _ hq => call_meets F.slot_dict_ne_refl ⟨_, ho, rfl⟩ F.entry_dict_ne (F.args_dict_ne_2 _ _) (dict_ne_str l es ep dd sl b u) ⟨ho, hq⟩)
    (fun _ hq => wpAny_of_eq (rfl : isSame (.str b u) (.ref l) = pure false) hq) (.inr hu) h
end
section
variable {X : Cx}
def IsDK (H : Hp) (a : Addr) : Prop := ∃ kvs, Rd H a (.dK kvs)
theorem isDc_of {pins : List (Addr × Obj)} {σ : St} {H : Hp} {s : Shared} {a : Addr} (I : Inv X pins σ H s) (h : IsDK H a) : IsDc s.heap a := by
  obtain ⟨kvs, h | ⟨ob, h⟩⟩ := h
  · obtain ⟨_, _, vs, _, o, es, ep, h1, h2, h3, _⟩ := (show ObjOk X.prog X.w H s.heap a (.dK kvs) from I.hok a _ h)
    exact ⟨o, es, ep, h1, h2, h3⟩
  · obtain ⟨_, _, _, vs, _, o, es, ep, h1, h2, h3, _⟩ := (show ObjOk X.prog X.w H s.heap a (.frz ob (.dK kvs)) from I.hok a _ h)
    exact ⟨o, es, ep, h1, h2, h3⟩
abbrev rEqSD (neg : Bool) : R2 := fun x y H Q => ∃ z a, x = .str z ∧ y = .ref a ∧ IsDK H a ∧ Q (.bl neg) H
theorem op_eqSD (hu : X.A.units + 64 < cLine) : OpR X (compareOp .Eq) (rEqSD false) := by
  intro pins s σ H x y v u Q I rx ry h
  obtain ⟨z, a, rfl, rfl, hd, q⟩ := h
  obtain ⟨t, rfl⟩ := (show ∃ t, v = Value.str z t from rx)
  cases ry
  exact RcAt.str_dict z t (isDc_of I hd) (by omega) _ _ _ _ ⟨.bl _, H, I, rfl, q⟩
theorem op_neSD (hu : X.A.units + 64 < cLine) : OpR X (compareOp .NotEq) (rEqSD true) := by
  intro pins s σ H x y v u Q I rx ry h
  obtain ⟨z, a, rfl, rfl, hd, q⟩ := h
  obtain ⟨t, rfl⟩ := (show ∃ t, v = Value.str z t from rx)
  cases ry
  exact RcNeAt.str_dict z t (isDc_of I hd) (by omega) _ _ _ _ ⟨.bl _, H, I, rfl, q⟩
/-- a dict in a list of texts -/
abbrev rInDc (K : Fr) (neg : Bool) : R2 := fun x y H Q => ∃ a l vs, x = .ref a ∧ IsDK H a ∧ y = .ref l ∧ SqL K H l vs ∧ (∀ v ∈ vs, ∃ z, v = V.str z) ∧ Q (.bl neg) H
theorem vals_strs : ∀ {vs : List V} {us : List Value}, Vals vs us → (∀ v ∈ vs, ∃ z, v = V.str z) → ∀ u ∈ us, ∃ z t, u = Value.str z t
  | [], [], .nil, _, u, hu => by cases hu
  | v :: vs, w :: us, .cons r rs, h, u, hu => by
    rcases List.mem_cons.mp hu with rfl | hu
    · obtain ⟨z, rfl⟩ := h v List.mem_cons_self
      obtain ⟨t, e⟩ := (show ∃ t, _ = Value.str z t from r)
      exact ⟨z, t, e⟩
    · exact vals_strs rs (fun v hv => h v (List.mem_cons_of_mem _ hv)) u hu
theorem op_inDc {neg : Bool} (hu : X.A.units + 65 < cLine) : OpR X (compareOp (if neg then .NotIn else .In)) (rInDc X.K neg) := by
  intro pins s σ H x y v u Q I rx ry h
  obtain ⟨a, l, vs, rfl, hd, rfl, hl, hs, q⟩ := h
  cases rx
  cases ry
  obtain ⟨its, rv, pl, hz⟩ := I.list hl
  have key : ∀ y, y ∈ its.toArray → SeqAt.EqAt X.A.in1 s y (.ref a) ((fun _ => false) y) := fun y hy => by
    obtain ⟨z, t, rfl⟩ := vals_strs rv hs y (by simpa using hy)
    exact EqAt.str_dict z t (isDc_of I hd) (by show X.A.units + 1 < cLine; omega)
  cases neg with
  | false => exact SeqAt.in_listAt (fun _ => false) pl.isList key (by rw [show its.toArray.any (fun _ => false) = false from by simp]; exact ⟨.bl _, H, I, rfl, q⟩)
  | true => exact SeqAt.notIn_listAt (fun _ => false) pl.isList key (by rw [show its.toArray.any (fun _ => false) = false from by simp]; exact ⟨.bl _, H, I, rfl, q⟩)
end
end DL
namespace DL
open PySem PySem.Spec PyProof.Rows L2
variable [Nm]
theorem Rds.dctK {K : Fr} {F : Addr → Prop} {H : Hp} {x : V} {kvs : List (Key × D)} (h : Rds K F H x (.dct kvs)) : ∃ a, x = .ref a ∧ IsDK H a := by
  rcases h with h | ⟨_, _, h⟩
  · cases h with
    | dct f h t => exact ⟨_, rfl, _, h⟩
  · exact h.elim
section
variable {X : Cx} {W : WX} {e e1 e2 : Expr} {f g : DS → Out} {pos : Pos} {k : Nat}
/-- ==, !=: also a text against a dict -/
def eqG (neg : Bool) : D → D → Option R
  | .str _, .dct _ => some (.v (.bl neg))
  | a, b => eqD neg a b
theorem eqG_ok {K : Fr} : OpD K (fun x y H Q => rEqA K x y H Q ∨ rEqSD false x y H Q) (eqG false) := by
  intro B F S σ H x y a b rr Q rel hx hy e p
  unfold eqG at e
  split at e
  · cases e
    obtain ⟨l, rfl, hd⟩ := hy.dctK
    exact .inr ⟨_, l, hx.str, rfl, hd, p.val rel (.bl _)⟩
  · exact .inl (eqD_ok B F S σ H x y _ _ rr Q rel hx hy e p)
theorem neG_ok {K : Fr} : OpD K (fun x y H Q => rNeA K x y H Q ∨ rEqSD true x y H Q) (eqG true) := by
  intro B F S σ H x y a b rr Q rel hx hy e p
  unfold eqG at e
  split at e
  · cases e
    obtain ⟨l, rfl, hd⟩ := hy.dctK
    exact .inr ⟨_, l, hx.str, rfl, hd, p.val rel (.bl _)⟩
  · exact .inl (neD_ok B F S σ H x y _ _ rr Q rel hx hy e p)
theorem ev_eqG (hr : Room k X.A) (a : EV X W e1 f) (b : EV X W e2 g) : EV X W (.Compare e1 [.Eq] [e2] pos) (bin (eqG false) f g) := ev_cmp (OpR.or (eq_or hr.units) (op_eqSD hr.units)) eqG_ok a b (nomark _)
theorem ev_neG (hr : Room k X.A) (a : EV X W e1 f) (b : EV X W e2 g) : EV X W (.Compare e1 [.NotEq] [e2] pos) (bin (eqG true) f g) := ev_cmp (OpR.or (ne_or hr.units) (op_neSD hr.units)) neG_ok a b (nomark _)
theorem tv_eqG (hr : Room k X.A) (a : EV X W e1 f) (b : EV X W e2 g) : TV X W (.Compare e1 [.Eq] [e2] pos) (bin (eqG false) f g) := tv_cmp (OpR.or (eq_or hr.units) (op_eqSD hr.units)) eqG_ok a b (nomark _)
theorem tv_neG (hr : Room k X.A) (a : EV X W e1 f) (b : EV X W e2 g) : TV X W (.Compare e1 [.NotEq] [e2] pos) (bin (eqG true) f g) := tv_cmp (OpR.or (ne_or hr.units) (op_neSD hr.units)) neG_ok a b (nomark _)
/-! ### any value in a list -/
def allStr : List D → Bool
  | [] => true
  | .str _ :: ds => allStr ds
  | _ => false
def inP (neg : Bool) (a : D) (ds : List D) : Option R := match a.py, D.pys ds with
  | some p, some qs => if SeqAt.shaped p = true ∧ SeqAt.shaped (.list qs) = true then some (.v (.bl (if neg then !qs.any fun z => PyData.eqv z p else qs.any fun z => PyData.eqv z p))) else none
  | _, _ => none
def inG (neg : Bool) : D → D → Option R
  | .dct _, .lst ds => if allStr ds then some (.v (.bl neg)) else none
  | a, .lst ds => inP neg a ds
  | _, _ => none
theorem allStr_vs {K : Fr} {F : Addr → Prop} {H : Hp} : ∀ {vs : List V} {ds : List D}, Ats K F H vs ds → allStr ds = true → ∀ v ∈ vs, ∃ z, v = V.str z
  | _, _, .nil, _, v, hv => by cases hv
  | _, _, @Ats.cons _ _ _ w d vs ds h t, e, v, hv => by
    cases d with
    | str z =>
      rcases List.mem_cons.mp hv with rfl | hv
      · exact ⟨z, h.strI⟩
      · exact allStr_vs t e v hv
    | _ => cases e
theorem inG_ok {K : Fr} : OpD K (fun x y H Q => rInD K x y H Q ∨ rInDc K false x y H Q) (inG false) := by
  intro B F S σ H x y a b rr Q rel hx hy e p
  unfold inG at e
  split at e
  · split at e
    · rename_i h
      cases e
      obtain ⟨d, rfl, hd⟩ := hx.dctK
      obtain ⟨l, ws, rfl, h1, t1⟩ := hy.lst
      exact .inr ⟨d, l, ws, rfl, hd, rfl, .inl (.inl h1), allStr_vs t1 h, p.val rel (.bl _)⟩
    · cases e
  · unfold inP at e
    split at e
    · rename_i p1 qs h1 h2
      split at e
      · rename_i hs
        cases e
        obtain ⟨l, ws, rfl, h3, t1⟩ := hy.lst
        exact .inl ⟨p1, qs, hx.dp h1, .lst (.inl (.inl h3)) (t1.dp h2), hs.1, hs.2, p.val rel (.bl _)⟩
      · cases e
    · cases e
  · cases e
theorem ev_inG (hr : Room (k + 1) X.A) (a : EV X W e1 f) (b : EV X W e2 g) (hm : behindInMarks .In e2 = false := by rfl) : EV X W (.Compare e1 [.In] [e2] pos) (bin (inG false) f g) :=
  ev_cmp (OpR.or (op_inD (by have := hr.in1.units; show X.A.units + 65 < cLine; have e : X.A.in1.units = X.A.units + 1 := rfl; omega)) (op_inDc (neg := false) (by have := hr.in1.units; show X.A.units + 65 < cLine; have e : X.A.in1.units = X.A.units + 1 := rfl; omega))) inG_ok a b hm
end
end DL
namespace DL
open PySem PySem.Spec PyProof.Rows L2 PySem.HandSPX
variable [Nm]
/-! ### errors whose context is None (N): defs that a try's body calls, whose handler raises -/
theorem takesN0 {X : Cx} : L2N.Takes X W0 := fun u s' ⟨_, _, _, _, _, _, _, _, _, _, _, _, _, _, _, _, w⟩ => w.elim
theorem cxN_wk {P : Program} {w : World} {outer : List Env} {H : Hp} {s : Shared} {E : XK} {u : Value} {s' : Shared} (c : L2N.CX P w outer H s E u s') : L2.CX P w outer H s E u s' := by
  obtain ⟨a, B, H', cls, d, e, fl, hok, ub, na, os, ag, h⟩ := c
  exact ⟨a, B, H', cls, d, e, L2H.flyingZ_imp (fun o z => z.zc) fl, hok, ub, na, os, ag, h⟩
theorem fnN_wk {P : Program} {w : World} {K : Fr} {mg : Str → Option Value} {base : Heap} {k : Nat} {f : Addr} {fd : FuncData} {ps : List Str} {sp : Sp} (F : FnOk P w K mg base (L2N.CX P w) k f fd ps sp) : FnOk P w K mg base (L2.CX P w) k f fd ps sp :=
  ⟨F.len, fun A outer s H args us vs Q E hr he hb hv hs => codeAny_mono (F.run A outer s H args us vs Q E hr he hb hv hs) fun r s' q => by
    cases r with
    | error e => exact cxN_wk q
    | ok f => cases f <;> exact q⟩
theorem fn_ON {P : Program} {w : World} {K : Fr} {mg : Str → Option Value} {base : Heap} {x qual : Str} {st : Stmt} {f : Addr} {fd : FuncData} {N ps : List Str} {k : Nat} {g : DS → Fl} (D : Fun K x qual st f fd) (S : FnScope N ps (defScope st))
    (body : ∀ (cdv : Value) (A : Around) (outer : List Env) (s : Shared) (H : Hp) (E : XK), Room k (A.deeper (envOfC qual (defScope st) s.heap.objs.size f cdv)) →
      SVs (cxOf (L2N.CX P w) P w K mg base N qual (defScope st) f cdv A outer s H E) (fun cls d _ H' => E cls d H') (defBody st) g)
    (hl : ps.length ≤ N.length := by decide) : FnOk P w K mg base (L2N.CX P w) (k + 1) f fd ps (spD K ps.length (runD ps.length N.length g)) := by
  obtain ⟨oc, od, kV, doc, pm, an, cdv, ct, osl, e, lk, ci⟩ := D.ex
  subst e
  exact fn_of lk ci S (fun vs H Q E ⟨F, args, h1, A, _⟩ => by rw [A.len, h1]) fun A outer s H vs Q E hr ⟨F, args, hn, Ar, p⟩ => ⟨_, (body cdv A outer s H E hr).ps, body_end hl hn Ar p⟩

def DefON (P : Program) (w : World) (K : Fr) (mg : Str → Option Value) (base : Heap) (x : Str) (k : Nat) (ps : List Str) (m : List Sl → Fo) : Prop :=
  ∃ f fd, FnOk P w K mg base (L2N.CX P w) k f fd ps (spD K ps.length m) ∧ mg x = some (.ref f) ∧ PySem.W.keepIn K (.ref f) = true ∧ Binds K fd ps []
def PassWN (X : Cx) (σ : St) (E : XK) : Prop := ∀ (pins : List (Addr × Obj)) (H : Hp) (s : Shared) (e : Value) (s' : Shared), Inv X pins σ H s → L2N.CX X.prog X.w X.stack H s E e s' → X.xe e s'
theorem passWN {X : Cx} {W : WX} {σ : St} (tk : L2N.Takes X W) : PassWN X σ fun cls d H2 => W cls d σ H2 := fun pins H s e s' J c => tk e s' (L2N.XE.of_call J (fun cls d H' h => h) c)
theorem run_fnON {X : Cx} {k : Nat} {f : Addr} {fd : FuncData} {ps : List Str} {sp : Sp} {E : XK} {pins : List (Addr × Obj)} {σ : St} {H : Hp} {s : Shared} {Q : VK} {us : List Value} {vs : List V} (F : FnOk X.prog X.w X.K X.mg X.base (L2N.CX X.prog X.w) k f fd ps sp) (hr : Room k X.A)
    (hb : Binds X.K fd ps []) (hx : PassWN X σ E) (I : Inv X pins σ H s) (r : Vals vs us) (h : sp vs H Q E) : wpAny (model X.prog X.w) X.A (call (.ref f) us) (EP X pins σ Q) X.xe s := by
  have cnt : us.length = ps.length := r.length.symm.trans (F.len _ _ _ _ h)
  have h' := hb s us I.kIn (by simpa using cnt)
  rw [List.append_nil] at h'
  apply wpAny_call
  apply codeAny_mono (F.run X.A X.stack s H ⟨us, []⟩ _ _ Q E hr I.env0 h' r h)
  intro r s' q
  match r, q with
  | .error e, q => exact hx pins H s e s' I q
  | .ok (.ret u), q => exact I.after q
  | .ok .next, q => exact q.elim
  | .ok .brk, q => exact q.elim
  | .ok .cont, q => exact q.elim
theorem ev_callON {X : Cx} {W : WX} {k n : Nat} {ps : List Str} {m : List Sl → Fo} {x : Str} {p pos : Pos} {e : Expr} {es : List Expr} {ga : DS → AOut} (D : DefON X.prog X.w X.K X.mg X.base x k ps m) (hn : ps.length = n) (hr : Room k X.A) (tk : L2N.Takes X W) (hg : Gl X x) (ha : AV X W (e :: es) ga)
    (hdb : (x == ("__debug__" : Str)) = false := by decide) (he : starEach (e :: es) X.env = (false, eval e X.env) :: starEach es X.env := by rfl) (hpl : (backTo pos (starEach es X.env)).any (·.1) = false := by rfl) :
    EV X W (.Call (.Name x p) (e :: es) [] pos) (callD n m ga) := by
  subst hn
  obtain ⟨f, fd, F, hm, hk, hb⟩ := D
  refine ⟨⟨fun pins s σ H Q I ⟨B, F0, S, rel, q⟩ => ?_⟩⟩
  refine wpAny_Call_Name_kw (ld_glob I hg hm ?_ hdb)
  refine PySem.W.callWith_K (h₀ := X.base) I.ok.mod.kin hk (thn (ha.pa.run pos pins s σ H
    (fun vs H1 => spD X.K ps.length m vs H1 Q fun cls d H2 => W cls d σ H2) I ⟨B, F0, S, rel, ?_⟩) fun us s1 ⟨vs, H1, I1, r, q⟩ => ⟨I1.kIn, ?_⟩) he hpl
  · unfold callD at q
    cases qa : ga S with
    | stuck => rw [qa] at q; exact q
    | exc C fs S' => rw [qa] at q; exact q
    | ok rs S1 =>
      rw [qa] at q
      intro xs H1 F1 xt rel1 rv1
      exact callS_sp rel1 rv1 (Po.ext xt q)
  · exact run_fnON F hr hb (passWN tk) I1 r q
theorem DefON.wk {P : Program} {w : World} {K : Fr} {mg : Str → Option Value} {base : Heap} {x : Str} {k : Nat} {ps : List Str} {m : List Sl → Fo} (D : DefON P w K mg base x k ps m) : DefO P w K mg base x k ps m := by
  obtain ⟨f, fd, F, h⟩ := D
  exact ⟨f, fd, fnN_wk F, h⟩
theorem DefIn.oN {P : Program} {w : World} {K : Fr} {mg : Str → Option Value} {base : Heap} {x : Str} {st : Stmt} {ps : List Str} {k : Nat} {m : List Sl → Fo} (D : DefIn K mg x st ps)
    (h : ∀ f fd, Fun K x x st f fd → FnOk P w K mg base (L2N.CX P w) k f fd ps (spD K ps.length m)) : DefON P w K mg base x k ps m := by
  obtain ⟨f, fd, F, h1, h2⟩ := D
  exact ⟨f, fd, h f fd F, h1, F.kp, h2⟩
section
variable {X : Cx} {W : WX} {e e1 e2 o : Expr} {es : List Expr} {f g : DS → Out} {ga : DS → AOut} {pos p : Pos} {C : Addr} {n : Str} {k : Nat} {m : List Sl → Fo}
def MakeInN (P : Program) (w : World) (K : Fr) (mg : Str → Option Value) (base : Heap) (C : Addr) (k n : Nat) (m : List Sl → Fo) : Prop :=
  ∃ fa fd ps, FnOk P w K mg base (L2N.CX P w) k fa fd ps (spD K n m) ∧ Binds K fd ps [] ∧ Mk K C fa
theorem run_makeWN {k n : Nat} {pins : List (Addr × Obj)} {σ : St} {H : Hp} {s : Shared} {Q : VK} {us : List Value} {vs : List V} {E : XK} (M : MakeInN X.prog X.w X.K X.mg X.base C k n m) (hr : Room (k + 1) X.A) (hx : PassWN X σ E) (I : Inv X pins σ H s) (r : Vals vs us)
    (h : ∀ x dx, H x = none → H dx = none → dx ≠ x → spD X.K n m (.ref x :: vs) (upd (upd H dx (.own x)) x (.ins C dx [])) (fun v H2 => v = .non ∧ Q (.ref x) H2) E) : wpAny (model X.prog X.w) X.A (call (.ref C) us) (EP X pins σ Q) X.xe s := by
  obtain ⟨fa, fd, ps, F, hb, M⟩ := M
  have hq := h (s.heap.objs.size + 1) s.heap.objs.size (I.hok.fresh (Nat.le_succ _)) (I.hok.fresh (Nat.le_refl _)) (Nat.ne_of_lt (Nat.lt_succ_self _))
  have I2 := Inv.made (C := C) I
  have r2 : Vals (V.ref (s.heap.objs.size + 1) :: vs) (Value.ref (s.heap.objs.size + 1) :: us) := .cons rfl r
  have hl : (Value.ref (s.heap.objs.size + 1) :: us).length = ps.length := r2.length.symm.trans (F.len _ _ _ _ hq)
  have hb' := hb { s with heap := (s.heap.push PySem.W.emptyDict).push (PySem.W.instObj C s.heap.objs.size) } (Value.ref (s.heap.objs.size + 1) :: us) I2.kIn (by simpa using hl)
  rw [List.append_nil] at hb'
  apply wpAny_call
  apply make_map (f := fa) I.kIn M.makes M.init (beq_iff_eq.mp M.fn)
  apply codeAny_mono (F.run _ X.stack _ _ ⟨Value.ref (s.heap.objs.size + 1) :: us, []⟩ _ _ _ E (hr.make C us []) (I2.env0.make C us []) hb' r2 hq)
  intro r s' q
  match r, q with
  | .error e, q => exact hx pins _ _ e s' I2 q
  | .ok (.ret u), q =>
    obtain ⟨v, H', I3, rv, ev, q3⟩ := I2.after q
    subst ev
    exact ⟨rv, ⟨V.ref (s.heap.objs.size + 1), H', I3, rfl, q3⟩⟩
  | .ok .next, q => exact q.elim
  | .ok .brk, q => exact q.elim
  | .ok .cont, q => exact q.elim
theorem MakeInN.kp {P : Program} {w : World} {K : Fr} {mg : Str → Option Value} {base : Heap} {n : Nat} (M : MakeInN P w K mg base C k n m) : PySem.W.keepIn K (.ref C) = true := by
  obtain ⟨_, _, _, _, _, M⟩ := M
  exact M.kp
theorem makeD_okN {n : Nat} (M : MakeInN X.prog X.w X.K X.mg X.base C k n m) (hr : Room (k + 1) X.A) (tk : L2N.Takes X W) {pins : List (Addr × Obj)} {s : Shared} {σ : St} {H : Hp} {Q : VK} (I : Inv X pins σ H s) (h : tE X.K W (makeD C n m ga) σ H Q) (ha : AV X W (e :: es) ga)
    (he : starEach (e :: es) X.env = (false, eval e X.env) :: starEach es X.env) (hpl : (backTo pos (starEach es X.env)).any (·.1) = false) :
    wpAny (model X.prog X.w) X.A (callWith pos (.ref C) [] (backTo pos (starEach (e :: es) X.env)) []) (EP X pins σ Q) X.xe s := by
  obtain ⟨B, F0, S, rel, q⟩ := h
  refine PySem.W.callWith_K (h₀ := X.base) I.ok.mod.kin M.kp (thn (ha.pa.run pos pins s σ H
    (fun vs H1 => ∀ x dx, H1 x = none → H1 dx = none → dx ≠ x → spD X.K n m (.ref x :: vs) (upd (upd H1 dx (.own x)) x (.ins C dx [])) (fun v H2 => v = .non ∧ Q (.ref x) H2) fun cls d H2 => W cls d σ H2) I ⟨B, F0, S, rel, ?_⟩) fun us s1 ⟨vs, H1, I1, r, q⟩ => ⟨I1.kIn, ?_⟩) he hpl
  · unfold makeD at q
    cases qa : ga S with
    | stuck => rw [qa] at q; exact q
    | exc C fs S' => rw [qa] at q; exact q
    | ok rs S1 =>
      rw [qa] at q
      intro xs H1 F1 xt rel1 rv1 x dx hx hdx hne
      exact make_sp rel1 rv1 (Po.ext xt q) hx hdx hne
  · exact run_makeWN M hr (passWN tk) I1 r q
theorem ev_makeN {x : Str} {n : Nat} (M : MakeInN X.prog X.w X.K X.mg X.base C k n m) (hr : Room (k + 1) X.A) (tk : L2N.Takes X W) (hg : Gl X x) (hm : X.mg x = some (.ref C)) (ha : AV X W (e :: es) ga)
    (hdb : (x == ("__debug__" : Str)) = false := by decide) (he : starEach (e :: es) X.env = (false, eval e X.env) :: starEach es X.env := by rfl) (hpl : (backTo pos (starEach es X.env)).any (·.1) = false := by rfl) :
    EV X W (.Call (.Name x p) (e :: es) [] pos) (makeD C n m ga) := by
  refine ⟨⟨fun pins s σ H Q I h => ?_⟩⟩
  refine wpAny_Call_Name_kw (ld_glob I hg hm ?_ hdb)
  exact makeD_okN M hr tk I h ha he hpl
theorem ev_makeLN (i : Nat) {x : Str} {n : Nat} (M : MakeInN X.prog X.w X.K X.mg X.base C k n m) (hr : Room (k + 1) X.A) (tk : L2N.Takes X W) (hv : PE X (.Name x p) (tVar i)) (ha : AV X W (e :: es) ga)
    (he : starEach (e :: es) X.env = (false, eval e X.env) :: starEach es X.env := by rfl) (hpl : (backTo pos (starEach es X.env)).any (·.1) = false := by rfl) :
    EV X W (.Call (.Name x p) (e :: es) [] pos) (makeL i C n m ga) := by
  refine ⟨⟨fun pins s σ H Q I h => ?_⟩⟩
  obtain ⟨B, F0, S, rel, q⟩ := h
  unfold makeL at q
  split at q
  · rename_i C' hi
    split at q
    · rename_i hc
      subst hc
      obtain ⟨o, ho, v, rfl, av⟩ := rel.sl i _ hi
      cases av
      refine wpAny_Call_Name_kw (thn (hv.run pins s σ H (fun v H1 => v = .ref C' ∧ H1 = H) I ⟨.ref C', ho, rfl, rfl⟩) fun u s1 ⟨v, H1, I1, r1, q1⟩ => ?_)
      obtain ⟨rfl, rfl⟩ := q1
      cases r1
      exact makeD_okN M hr tk I1 ⟨B, F0, S, rel, q⟩ ha he hpl
    · exact q.elim
  · exact q.elim
theorem MakeInN.wk {P : Program} {w : World} {K : Fr} {mg : Str → Option Value} {base : Heap} {n : Nat} (M : MakeInN P w K mg base C k n m) : MakeIn P w K mg base C k n m := by
  obtain ⟨fa, fd, ps, F, h⟩ := M
  exact ⟨fa, fd, ps, fnN_wk F, h⟩
end
section
variable {P : Program} {w : World} {K : Fr} {mg : Str → Option Value} {base : Heap} {C : Addr} {x qual : Str} {st : Stmt} {ps : List Str} {k n : Nat} {m : List Sl → Fo}
theorem MakeF.makeN (M : MakeF K C qual st ps) (h : ∀ f fd, Fun K "__init__" qual st f fd → FnOk P w K mg base (L2N.CX P w) k f fd ps (spD K n m)) : MakeInN P w K mg base C k n m := by
  obtain ⟨⟨fa, fd, F, b, a, i⟩, mk, kp⟩ := M
  exact ⟨fa, fd, ps, h fa fd F, b, mk, a, i, kp⟩
end
/-! ### own errors, their records full -/
section
variable {prog : Program} {w : World} {A : Around} {Rs : Result → Shared → Prop} {s : Shared} {K : Fr} {C : Addr} {fld : Str}
structure MadeX (h h' : Heap) (e C d : Addr) (fld : Str) (v : Value) : Prop where
  keep : ∀ b o, h.get? b = some o → h'.get? b = some o
  new : h.objs.size ≤ e
  obj : ∃ t0, h'.get? e = some { cls := .ref C, dict := some d, data := .fields #[.ref t0, .none, .none, .none, .bool false, .none] }
  dnew : h.objs.size ≤ d
  dne : d ≠ e
  ns : h'.Ns1 d (fun y => if y = fld then some v else none)
theorem err_madeX (T : ErrC K C fld) {v : Value} (kin : K.In s.heap) (lim : s.heap.NoLimit) (hroom : A.depth + 1 < recursionLimit)
    (go : ∀ h1 t1 e d, MadeX s.heap h1 e C d fld v → Rs (.ok (.ret (.ref e))) { s with heap := h1, toks := t1 }) :
    codeAny (model prog w) A (.call (.ref C) ⟨[v], []⟩) Rs s := by
  obtain ⟨tl, nw, bb, nm, q, N, bs, bm, sn, sub, ab, col, dd, k0, k1, k2, k3, k5, hC, hbm⟩ := T.cls
  obtain ⟨B, ini, base⟩ := bb.ex
  obtain ⟨fI, qn, hI, hT, tx⟩ := T.ini
  obtain ⟨hp, gs, dr, tk, ost⟩ := s
  have up : ∀ b o, hp.get? b = some o → ((hp.push (W.kdv_tup [v])).push (excO C hp.objs.size)).get? b = some o := fun b o e => Heap.get?_push_of_some _ (Heap.get?_push_of_some _ e)
  have at_ : ((hp.push (W.kdv_tup [v])).push (excO C hp.objs.size)).get? (hp.objs.size + 1) = some (excO C hp.objs.size) := by heap_get
  refine call_own base (fun y => chainB_has y bm hbm) (kin _ _ hC) (W.looks_findIn kin hI) (fun self => W.bind_fn kin self hT) (one_le v) ?_
  refine err_init (s := ⟨(hp.push (W.kdv_tup [v])).push (excO C hp.objs.size), gs, dr, tk, ost⟩) T (kin.keeps up) (lim.keeps up) at_ hroom tx fun h1 t1 dx kp hx dn dne ns => ?_
  refine ⟨rfl, go h1 t1 (hp.objs.size + 1) dx ⟨fun b o e => kp b o (Nat.ne_of_lt (Nat.lt_succ_of_lt (Heap.lt_size e))) (up b o e), Nat.le_succ _, ⟨_, hx⟩, ?_, dne, ns⟩⟩
  have z : hp.objs.size + 1 + 1 ≤ dx := by simpa only [Heap.size_push] using dn
  show hp.objs.size ≤ dx
  omega
end
section
variable {X : Cx} {W : WX} {C : Addr} {fld : Str} {ga : DS → AOut}
theorem pmk_errN {x : Str} {a : Expr} {ta : TA} {p pos : Pos} {k : Nat} (T : ErrC X.K C fld) (hr : L2H.RoomH k X.A) (hx : X.mg x = some (.ref C)) (hg : Gl X x) (ha : PA X [a] ta) (hdb : (x == ("__debug__" : Str)) = false := by decide)
    (he : starEach (a :: []) X.env = (false, eval a X.env) :: starEach [] X.env := by rfl) (hpl : (backTo pos (starEach [] X.env)).any (·.1) = false := by rfl) :
    L2H.PMk5 X (.Call (.Name x p) [a] [] pos) (tErr C fld ta) := by
  intro pins s σ H Q I h
  refine wpAny_Call_Name_kw (ld_glob I hg hx ?_ hdb)
  refine W.callWith_K (h₀ := X.base) I.ok.mod.kin T.ktr_rel (thn (ha.run pos pins s σ H _ I h) fun us s1 ⟨vs, H1, I1, r1, v, ev, q1⟩ => ⟨I1.kIn, ?_⟩) he hpl
  subst ev
  cases r1 with
  | cons rv rn =>
    rename_i u us'
    cases rn
    have lim := I1.nolimit
    obtain ⟨hp, gs, dr, tk, ost⟩ := s1
    refine wpAny_call (err_madeX T I1.kIn lim (by have := hr.dp; omega) fun h1 t1 e d M => ?_)
    show L2N.MkP X pins σ Q (.ref e) ⟨h1, gs, dr, t1, ost⟩ ∧ L2H.Six (.ref e) ⟨h1, gs, dr, t1, ost⟩
    obtain ⟨t0, hoe⟩ := M.obj
    refine ⟨?_, fun a oe vs ea hg hd => ?_⟩
    · obtain ⟨G, g1, g2⟩ := restrict h1 fun b => decide (b ≠ e)
      have gk : ∀ b, b ≠ e → G.get? b = h1.get? b := fun b hb => g1 b (decide_eq_true hb)
      have ge : G.get? e = none := g2 e (by simp)
      have old : ∀ b o, hp.get? b = some o → G.get? b = some o := fun b o q => (gk b (Nat.ne_of_lt (Nat.lt_of_lt_of_le (Heap.lt_size q) M.new))).trans (M.keep b o q)
      have ob : ObjOk X.prog X.w (upd H1 d (.xd [(fld, v)])) G d (.xd [(fld, v)]) := ⟨_, M.ns.at (fun o q => (gk d M.dne).trans q), fun f => relO_one rv f⟩
      have J : Inv X pins σ (upd H1 d (.xd [(fld, v)])) ⟨G, gs, dr, t1, ost⟩ := I1.laid (t' := t1) old M.dnew ob
      refine ⟨e, _, _, ⟨G, gs, dr, t1, ost⟩, _, .ref C, some d, rfl, J, fun b o q => ?_, ge, hoe, ⟨rfl, rfl, fun vs e => by cases e; rfl⟩, rfl, rfl, ?_, rfl, I1.bare, raises_own T.exC T.tyC, q1 d (I1.hok.fresh M.dnew)⟩
      · by_cases hb : b = e
        · have q' : G.get? b = some o := q
          rw [hb, ge] at q'
          cases q'
        · exact (gk b hb).symm.trans q
      · rw [upd_ne (Ne.symm M.dne)]
        exact I1.hok.fresh M.new
    · cases ea
      have hg' : h1.get? e = some oe := hg
      rw [hoe] at hg'
      cases hg'
      cases hd
      show (4 : Nat) < 6
      decide
theorem tErr_of {a : Expr} {σ : L2.St} {H : Hp} {E : Ends} (q : tS X.K W (raiseS C fld ga) E σ H) : tErr C fld (tA X.K W ga) σ H fun cls d H' => W cls d σ H' := by
  obtain ⟨B, F, S, rel, q⟩ := q
  refine ⟨B, F, S, rel, ?_⟩
  unfold raiseS at q
  cases qa : ga S with
  | stuck => rw [qa] at q; exact q
  | exc C' fs S' => rw [qa] at q; exact fun dx fvs H1 F1 x1 r1 => q dx fvs σ H1 F1 x1.toExt r1
  | ok rs S1 =>
    rw [qa] at q
    intro vs H1 F1 x1 rel1 rv1
    match rs, rv1, q with
    | [.v d], .cons (x := v) h1 .nil, q =>
      refine ⟨v, rfl, fun dx hd => ?_⟩
      have at1 : At X.K F1 H1 v d := h1
      obtain ⟨x2, rel2⟩ := rel1.lay (o := .xd [(fld, v)]) hd
      exact q dx [(fld, v)] σ _ F1 (x1.toExt.trans x2.toExt) rel2 upd_same (rel1.h0 hd) (.cons (at1.ext x2.toExt) .nil)
/-- raise C(e), its context None -/
theorem sv_raiseN {x : Str} {a : Expr} {p pos pos2 : Pos} {k : Nat} (T : ErrC X.K C fld) (hc : X.calm = true) (hr : Room k X.A) (tk : L2N.Takes X W) (hx : X.mg x = some (.ref C)) (hg : Gl X x) (ha : AV X W [a] ga) (hdb : (x == ("__debug__" : Str)) = false := by decide)
    (he : starEach (a :: []) X.env = (false, eval a X.env) :: starEach [] X.env := by rfl) (hpl : (backTo pos (starEach [] X.env)).any (·.1) = false := by rfl) :
    SV X W (.Raise (some (.Call (.Name x p) [a] [] pos)) none pos2) (raiseS C fld ga) :=
  ⟨PS.imp (L2N.ps_raise hc tk (pmk_errN T (L2H.roomH_of hr) hx hg ha.pa hdb he hpl).pmk) fun E σ H q => tErr_of (a := a) q⟩
/-- raise C(e) from None, where an error is handled -/
theorem sv_raiseHN {x : Str} {a : Expr} {j : Nat} {cpos p pos pos2 : Pos} {k : Nat} (T : ErrC X.K C fld) (hc : L2H.HotC X) (hr : L2H.RoomH k X.A) (tk : Takes X W) (hx : X.mg x = some (.ref C)) (hg : Gl X x) (ha : AV X W [a] ga) (hdb : (x == ("__debug__" : Str)) = false := by decide)
    (he : starEach (a :: []) X.env = (false, eval a X.env) :: starEach [] X.env := by rfl) (hpl : (backTo pos (starEach [] X.env)).any (·.1) = false := by rfl) :
    SV X W (.Raise (some (.Call (.Name x p) [a] [] pos)) (some (.Constant .none j cpos)) pos2) (raiseS C fld ga) :=
  ⟨PS.imp (L2H.ps_raiseHN hc tk (pmk_errN T hr hx hg ha.pa hdb he hpl)) fun E σ H q => tErr_of (a := a) q⟩
/-- try: g, except x: h, where h may raise -/
def tryR (cs : Addr → Option Bool) (g h : DS → Fl) : DS → Fl := fun S => match g S with
  | .exc C fs S' => match cs C with
    | some true => h S'
    | some false => .exc C fs S'
    | none => .stuck
  | o => o
theorem sv_tryR {x : Str} {c : Value} {cs : Addr → Option Bool} {body suite : List Stmt} {b₀ : Stmt} {np pos pos' : Pos} {g h : DS → Fl}
    (hst : X.stack = X.env :: X.outer) (hfr : X.env.frame = some X.env.locals) (hn : Names X x c) (hcs : ∀ C b, cs C = some b → PySem.W.exmOne X.K (.ref C) c = some b) (hpa : ∀ hd : Option Value, PassesOwnAt (model X.prog X.w) (X.A.mark hd) X.A X.env X.xe) (tk : Takes X W)
    (hb : ∀ (W2 : WX) (pn : List (Addr × Obj)) (xe : Value → Shared → Prop), L2N.Takes (X.tr pn xe) W2 → PassesOwn (model X.prog X.w) X.A X.env xe → SVs (X.tr pn xe) W2 body g)
    (hsu : ∀ (a : Addr) (oe : Obj) (pn : List (Addr × Obj)), Takes (L2H.suiteX X a ((a, oe) :: pn)) W → L2H.HotC (L2H.suiteX X a ((a, oe) :: pn)) → SVs (L2H.suiteX X a ((a, oe) :: pn)) W (b₀ :: suite) h) :
    SV X W (.Try body [.ExceptHandler (some (.Name x np)) none (b₀ :: suite) pos'] [] [] pos) (tryR cs g h) := by
  have key := L2H.ps_try_onlyX (tb := fun W2 => tS X.K W2 g) (pos := pos) (pos' := pos') (np := np)
    (ts := fun a cls d => fun D σ H => ∃ C dx, cls = .ref C ∧ d = some dx ∧ cs C = some true ∧ tS X.K W h D σ H)
    hst hfr hn hpa tk (fun W2 pn xe tk2 _ ps => (hb W2 pn xe tk2 ps).ps) (b₀ := b₀) (suite := suite) (fun a oe cls d pn hz hf tkS hot => by
      refine ⟨fun pins s σ H D I ⟨C, dx, e1, e2, h1, h2⟩ => ?_⟩
      exact (hsu a oe pn tkS hot).ps.run pins s σ H D I h2)
  refine ⟨PS.imp key fun E σ H ⟨B, F, S, rel, q⟩ => ⟨B, F, S, rel, ?_⟩⟩
  unfold tryR at q
  cases e : g S with
  | nx S' => rw [e] at q; exact q
  | rt r S' => rw [e] at q; exact q
  | bk S' => rw [e] at q; exact q
  | ct S' => rw [e] at q; exact q
  | stuck => rw [e] at q; exact q
  | exc C fs S' =>
    rw [e] at q
    dsimp only at q
    intro dx fvs σ' H' F' x r hx h0 ft
    cases hc : cs C with
    | none => rw [hc] at q; exact q.elim
    | some b =>
      rw [hc] at q
      refine ⟨b, hcs C b hc, fun hb a na => ?_, fun hb => ?_⟩
      · subst hb
        exact ⟨C, dx, rfl, rfl, hc, B, F', S', r, PoS.ext x q⟩
      · subst hb
        exact q dx fvs σ' H' F' x r hx h0 ft
end
end DL
namespace DL
open PySem PySem.Spec PyProof.Rows L2
variable [Nm]
section
variable {X : Cx} {W : WX} {e e1 e2 : Expr} {f g : DS → Out} {pos : Pos}
/-- a text times 0 or 1 -/
def mulS : D → D → Option R
  | .str x, .int n => if n = 0 then some (.v (.str Str.empty)) else if n = 1 then some (.v (.str x)) else none
  | _, _ => none
abbrev rMulS : R2 := fun x y H Q => ∃ z n, x = .str z ∧ y = .int n ∧ 0 ≤ n ∧ n ≤ 1 ∧ Q (.str (Txt.mul z n)) H
theorem op_mulS : OpR X (binaryOp .Mult) rMulS := by
  intro pins s σ H x y v u Q I rx ry h
  obtain ⟨z, n, rfl, rfl, h0, h1, q⟩ := h
  obtain ⟨t, rfl⟩ := rx
  obtain ⟨t', rfl⟩ := ry
  have one : ¬ n < 1 → n = 1 := fun h => by omega
  exact SB.mul ⟨by simp; omega, fun a b => by rw [one a] at b; simp at b, fun a b => by rw [one a] at b; simp at b⟩ (fun t' tk => ⟨.str _, H, I.tok _, ⟨_, rfl⟩, q⟩)
theorem mulS_ok {K : Fr} : OpD K rMulS mulS := by
  intro B F S σ H x y a b rr Q rel hx hy e p
  unfold mulS at e
  split at e
  · rename_i z n
    split at e
    · rename_i hn
      cases e
      refine ⟨z, n, hx.str, hy.int, by omega, by omega, ?_⟩
      subst hn
      exact p.val rel (.str _)
    · split at e
      · rename_i hn
        cases e
        refine ⟨z, n, hx.str, hy.int, by omega, by omega, ?_⟩
        subst hn
        exact p.val rel (.str _)
      · cases e
  · cases e
theorem ev_mulS (a : EV X W e1 f) (b : EV X W e2 g) : EV X W (.BinOp e1 .Mult e2 pos) (bin mulS f g) := ev_bin op_mulS mulS_ok a b
end
end DL
namespace DL
open PySem PySem.Spec PyProof.Rows L2
/-! ### texts cut and joined -/
theorem mem_joinL {S : List Nat} {k : Nat} : ∀ {parts : List (List Nat)} {p : List Nat}, p ∈ parts → k ∈ p → k ∈ TL.joinL S parts
  | [q], p, hp, hk => by
    rw [List.mem_singleton.mp hp] at hk
    exact hk
  | q :: q2 :: r, p, hp, hk => by
    rw [TL.joinL]
    rcases List.mem_cons.mp hp with rfl | hp
    · exact List.mem_append_left _ (by first | exact hk | exact List.mem_append_left _ hk)
    · exact List.mem_append_right _ (List.mem_append_right _ (mem_joinL hp hk))
theorem joinL_mem {S : List Nat} {k : Nat} : ∀ {parts : List (List Nat)}, k ∈ TL.joinL S parts → k ∈ S ∨ ∃ p ∈ parts, k ∈ p
  | [], h => by simp [TL.joinL] at h
  | [p], h => .inr ⟨p, List.mem_cons_self, h⟩
  | p :: q :: r, h => by
    rw [TL.joinL] at h
    have key : ∀ {z : Nat}, (k ∈ p ∨ k ∈ S) ∨ k ∈ TL.joinL S (q :: r) → k ∈ S ∨ ∃ p' ∈ p :: q :: r, k ∈ p' := fun z => by
      rcases z with (z | z) | z
      · exact .inr ⟨p, List.mem_cons_self, z⟩
      · exact .inl z
      · rcases joinL_mem z with z | ⟨p', h1, h2⟩
        · exact .inl z
        · exact .inr ⟨p', List.mem_cons_of_mem _ h1, h2⟩
    refine key (z := 0) ?_
    simp only [List.mem_append] at h
    rcases h with h | h
    · first | exact .inl h | exact .inl (.inl h)
    · first | exact .inr h | (rcases h with h | h; exact .inl (.inr h); exact .inr h)
theorem joinL_le {S : List Nat} : ∀ {parts : List (List Nat)} {p : List Nat}, p ∈ parts → p.length ≤ (TL.joinL S parts).length
  | [q], p, hp => by
    rw [List.mem_singleton.mp hp]
    exact Nat.le_refl _
  | q :: q2 :: r, p, hp => by
    rw [TL.joinL]
    simp only [List.length_append]
    rcases List.mem_cons.mp hp with rfl | hp
    · omega
    · have := joinL_le (S := S) hp
      omega
theorem joinL_cnt {S : List Nat} (hS : 1 ≤ S.length) : ∀ parts : List (List Nat), parts.length ≤ (TL.joinL S parts).length + 1
  | [] => by simp
  | [p] => by simp
  | p :: q :: r => by
    have := joinL_cnt hS (q :: r)
    rw [TL.joinL]
    simp only [List.length_append, List.length_cons] at this ⊢
    omega
section
variable {x y : Str}
theorem joinL_split (x y : Str) : TL.tl x = TL.joinL (TL.tl y) ((Txt.split x y).map TL.tl) := by
  rw [← TL.tl_join, PySem.StrLaws.join_split]
theorem split_mem {p : Str} (h : p ∈ Txt.split x y) {k : Nat} (hk : k ∈ p.cps.toList) : k ∈ x.cps.toList := by
  have e := joinL_split x y
  have e2 : k ∈ TL.joinL (TL.tl y) ((Txt.split x y).map TL.tl) := mem_joinL (List.mem_map.mpr ⟨p, h, rfl⟩) hk
  rw [← e] at e2
  exact e2
theorem split_le {p : Str} (h : p ∈ Txt.split x y) : p.length ≤ x.length := by
  rw [TL.len_tl, TL.len_tl, joinL_split x y]
  exact joinL_le (List.mem_map.mpr ⟨p, h, rfl⟩)
theorem split_cnt (hy : 1 ≤ y.length) : (Txt.split x y).length ≤ x.length + 1 := by
  have e := joinL_cnt (S := TL.tl y) (by rw [← TL.len_tl]; exact hy) ((Txt.split x y).map TL.tl)
  rw [← joinL_split x y, List.length_map, ← TL.len_tl] at e
  exact e
theorem split_ok {p : Str} (hx : PyData.strOk x = true) (h : p ∈ Txt.split x y) : PyData.strOk p = true := by
  unfold PyData.strOk at hx ⊢
  rw [Array.all_eq_true_iff_forall_mem] at hx ⊢
  exact fun k hk => hx k (Array.mem_toList_iff.mp (split_mem h (Array.mem_toList_iff.mpr hk)))
end
end DL
namespace DL
open PySem PySem.Spec PyProof.Rows L2
theorem tup_once (l : Addr) (items : Array Value) (n : Nat) (dd : Option Addr) (sl : Array (Option Value)) (u : Tok) :
    Meets (Builtin.«tuple.__mul__» ⟨[.ref l, .int 1 u], []⟩) (fun _ R s => s.heap.get? l = some { cls := .type "tuple", dict := dd, data := .seq items n, slots := sl } ∧ R (.ok (.ret (.ref l))) s) :=
  .of_wp fun prog w A R s h => by
    obtain ⟨hp, g, d, tk, os⟩ := s
    obtain ⟨hl, q⟩ := h
    have f1 := AutoSeq1.idx_int
    wp_walk using wpAny_loadPart' hl
    repeat (first
      | (refine wpAny_ite_false (decide_eq_false (by decide)) ?_; wp_walk using wpAny_loadPart' hl)
      | (refine wpAny_ite_true (decide_eq_true (by simp)) ?_; wp_walk using wpAny_loadPart' hl))
    exact ⟨_, rfl, q⟩
section
variable {X : Cx}
abbrev rOnceT (K : Fr) : R2 := fun x y H Q => ∃ l vs, x = .ref l ∧ y = .int 1 ∧ SqT K H l vs ∧ Q x H
theorem op_onceT : OpR X (binaryOp .Mult) (rOnceT X.K) := by
  intro pins s σ H x y v u Q I rx ry h
  obtain ⟨l, vs, rfl, rfl, hT, q⟩ := h
  cases rx
  obtain ⟨t, rfl⟩ := ry
  obtain ⟨its, r, ⟨⟨cls, dd, data, sl⟩, ho, hc, n, hd⟩, hs⟩ := I.tuple hT
  simp only at hc hd
  subst hc hd
  exact wpAny_binaryOp_repeat_ref (T := "tuple") (U := "int") (by decide) ⟨_, ho, rfl⟩ (fun s' => typeIs_int s' 1 t) noFill_tuple_mul F.fills_int_mul F.slot_int_rmul repeat_tuple F.slot_int_index.lookup
    (call_meets F.slot_int_rmul (typeIs_int s 1 t) F.entry_int_rmul (F.args_int_rmul_2 _ _) (int_rmul_tuple 1 t l its.toArray n dd sl)
      ⟨ho, rfl, ⟨_, ho, rfl⟩, call_meets F.slot_tuple_mul ⟨_, ho, rfl⟩ F.entry_tuple_mul (F.args_tuple_mul_2 _ _) (tup_once l its.toArray n dd sl t) ⟨ho, ⟨.ref l, H, I, rfl, q⟩⟩⟩)
end
variable [Nm]
/-- a tuple times a number from 1 on -/
def mulT : D → D → Option R
  | .tup xs, .int k => if xs ≠ [] ∧ 1 ≤ k ∧ k ≤ 1000 ∧ xs.length ≤ 1000 then some (.v (.tup (List.replicate k.toNat xs).flatten)) else none
  | _, _ => none
theorem mulT_ok {K : Fr} : OpD K (fun x y H Q => rRepT K x y H Q ∨ rOnceT K x y H Q) mulT := by
  intro B F S σ H x y a b rr Q rel hx hy e q
  unfold mulT at e
  split at e
  · rename_i xs k
    split at e
    · rename_i hc
      cases e
      have ax : At K F H x (.tup xs) := by
        rcases hx with h | ⟨_, _, h⟩
        · exact h
        · exact h.elim
      obtain ⟨l, vs, rfl, h1, t1⟩ := ax.tupI
      by_cases hk : k = 1
      · subst hk
        refine .inr ⟨l, vs, rfl, hy.int, h1, ?_⟩
        have e1 : (List.replicate (1 : Int).toNat xs).flatten = xs := by simp
        rw [e1] at q
        exact q.val rel ax
      · refine .inl ⟨l, k, vs, rfl, hy.int, h1, fun z => hc.1 ?_, by omega, hc.2.2.1, by rw [t1.length]; exact hc.2.2.2, fun p hp => q.tuple rel (t1.rep k.toNat) hp⟩
        have := t1.length
        rw [z] at this
        exact List.length_eq_zero_iff.mp this.symm
    · cases e
  · cases e
section
variable {X : Cx} {W : WX} {e e1 e2 : Expr} {f g : DS → Out} {pos : Pos}
theorem ev_mulT (a : EV X W e1 f) (b : EV X W e2 g) : EV X W (.BinOp e1 .Mult e2 pos) (bin mulT f g) := ev_bin (OpR.or op_repT op_onceT) mulT_ok a b
/-- a truth is a truth -/
def isBD (ng : Bool) : D → D → Option R
  | .bl a, .bl b => some (.v (.bl (xor ng (decide (a = b)))))
  | _, _ => none
abbrev rIsBN (ng : Bool) : R2 := fun x y H Q => ∃ a b, x = .bl a ∧ y = .bl b ∧ Q (.bl (xor ng (decide (a = b)))) H
theorem isBD_ok {K : Fr} {ng : Bool} : OpD K (rIsBN ng) (isBD ng) := by
  intro B F S σ H x y a b rr Q rel hx hy e q
  unfold isBD at e
  split at e
  · cases e
    exact ⟨_, _, hx.bl, hy.bl, q.val rel (.bl _)⟩
  · cases e
theorem op_isBF : OpR X (compareOp .Is) (rIsBN false) := by
  intro pins s σ H x y u v Q I r1 r2 ⟨a, b, h1, h2, q⟩
  exact op_isBl pins s σ H x y u v Q I r1 r2 ⟨a, b, h1, h2, by simpa using q⟩
theorem op_isBT : OpR X (compareOp .IsNot) (rIsBN true) := by
  intro pins s σ H x y u v Q I r1 r2 ⟨a, b, h1, h2, q⟩
  exact op_notBl pins s σ H x y u v Q I r1 r2 ⟨a, b, h1, h2, by simpa using q⟩
theorem ev_isB (a : EV X W e1 f) (b : EV X W e2 g) (hm : behindInMarks .Is e2 = false := by rfl) : EV X W (.Compare e1 [.Is] [e2] pos) (bin (isBD false) f g) := ev_cmp op_isBF isBD_ok a b hm
theorem ev_isnotB (a : EV X W e1 f) (b : EV X W e2 g) (hm : behindInMarks .IsNot e2 = false := by rfl) : EV X W (.Compare e1 [.IsNot] [e2] pos) (bin (isBD true) f g) := ev_cmp op_isBT isBD_ok a b hm
theorem tv_isB (a : EV X W e1 f) (b : EV X W e2 g) (hm : behindInMarks .Is e2 = false := by rfl) : TV X W (.Compare e1 [.Is] [e2] pos) (bin (isBD false) f g) := tv_cmp op_isBF isBD_ok a b hm
theorem tv_isnotB (a : EV X W e1 f) (b : EV X W e2 g) (hm : behindInMarks .IsNot e2 = false := by rfl) : TV X W (.Compare e1 [.IsNot] [e2] pos) (bin (isBD true) f g) := tv_cmp op_isBT isBD_ok a b hm
end
end DL
namespace DL
open PySem PySem.Spec PyProof.Rows L2 LamX
variable [Nm]
/-! ### sorted(e, key=lambda a: (len(a), a)), rows of ints -/
/-- a row's key -/
abbrev lnK (r : List Int) : PyData := .tuple [.int (r.length : Int), .tuple (r.map PyData.int)]
def rowI : D → Option (List Int)
  | .tup ds => iLs ds
  | _ => none
def rowsI : List D → Option (List (List Int))
  | [] => some []
  | d :: ds => match rowI d, rowsI ds with
    | some r, some rs => some (r :: rs)
    | _, _ => none
def rowD (r : List Int) : D := .tup (r.map D.int)
def lnLe : List Int → List Int → Bool := PySem.W.dataLe false lnK
def sortLN (f : DS → Out) : DS → Out := fun S => match f S with
  | .ok (.v (.lst ds)) S1 => match rowsI ds with
    | some rs => if rs.length ≤ 1000 then .ok (.ow (.lst ((rs.mergeSort lnLe).map rowD))) S1 else .stuck
    | none => .stuck
  | .exc C fs S' => .exc C fs S'
  | _ => .stuck
theorem iLs_of : ∀ {ds : List D} {r : List Int}, iLs ds = some r → ds = r.map D.int
  | [], r, e => by
    simp only [iLs] at e
    cases e
    rfl
  | d :: ds, r, e => by
    cases d with
    | int i =>
      simp only [iLs] at e
      cases q : iLs ds with
      | none =>
        rw [q] at e
        cases e
      | some is =>
        rw [q] at e
        cases e
        rw [iLs_of q]
        rfl
    | _ => simp [iLs] at e
theorem rowI_of {d : D} {r : List Int} (e : rowI d = some r) : d = rowD r := by
  cases d with
  | tup ds =>
    have e : iLs ds = some r := e
    rw [iLs_of e]
    rfl
  | _ => cases e
section
variable {X : Cx} {pins : List (Addr × Obj)} {σ : L2.St} {H : Hp} {s : Shared}
/-- what a row bears: a tuple of ints -/
def LnR (X : Cx) (F : Addr → Prop) (H : Hp) (h : Heap) (u : Value) (r : List Int) : Prop :=
  ∃ p ws, u = .ref p ∧ IsTup h p ws.toArray ∧ Vals (r.map V.int) ws ∧ r.length ≤ sizeLine ∧ At X.K F H (.ref p) (rowD r)
theorem at_ints {K : Fr} {F : Addr → Prop} {H : Hp} : ∀ {vs : List V} {r : List Int}, Ats K F H vs (r.map D.int) → vs = r.map V.int
  | [], [], _ => rfl
  | [], _ :: _, h => by cases h
  | _ :: _, [], h => by cases h
  | v :: vs, i :: r, h => by
    have h : Ats K F H (v :: vs) (.int i :: r.map D.int) := h
    cases h with
    | cons h t =>
      rw [h.intI, at_ints t]
      rfl
theorem rows_each (I : Inv X pins σ H s) {F : Addr → Prop} : ∀ {vs : List V} {ds : List D} {rs : List (List Int)} {its : List Value}, Ats X.K F H vs ds → rowsI ds = some rs → Vals vs its → PySem.W.EachIs (LnR X F H s.heap) its rs
  | _, [], rs, its, a, e, v => by
    cases a
    cases v
    simp only [rowsI] at e
    cases e
    exact .nil
  | _, d :: ds, rs, its, a, e, v => by
    cases a with
    | cons h t =>
      cases v with
      | cons r1 r2 =>
        simp only [rowsI] at e
        cases q1 : rowI d with
        | none =>
          rw [q1] at e
          cases e
        | some r =>
          cases q2 : rowsI ds with
          | none =>
            rw [q1, q2] at e
            cases e
          | some rs' =>
            rw [q1, q2] at e
            cases e
            have ed := rowI_of q1
            subst ed
            refine .cons ?_ (rows_each I t q2 r2)
            obtain ⟨p, vs2, rfl, hq, t2⟩ := At.tupI h
            have ev := at_ints t2
            subst ev
            obtain ⟨ws, rv, pl, hz⟩ := I.tuple hq
            obtain rfl : _ = Value.ref p := r1
            exact ⟨p, ws, rfl, pl, rv, by simpa using hz, h⟩
theorem each_ats {F : Addr → Prop} {h : Heap} : ∀ {out : List Value} {rs : List (List Int)}, PySem.W.EachIs (LnR X F H h) out rs → ∃ xs, Vals xs out ∧ Ats X.K F H xs (rs.map rowD)
  | _, _, .nil => ⟨[], .nil, .nil⟩
  | _, _, .cons ⟨p, ws, e, _, _, _, a⟩ t => by
    obtain ⟨xs, v, q⟩ := each_ats t
    subst e
    exact ⟨.ref p :: xs, .cons rfl v, .cons a q⟩
theorem reads_ints {h : Heap} : ∀ {r : List Int} {ws : List Value}, Vals (r.map V.int) ws → ReadsAll h ws (r.map PyData.int) []
  | [], _, v => by
    cases v
    exact .nil
  | i :: r, _, v => by
    have v : Vals (V.int i :: r.map V.int) _ := v
    cases v with
    | cons r1 r2 =>
      obtain ⟨t, rfl⟩ := r1
      exact ReadsAll.cons (as := []) (bs := []) (Reads.int i t) (reads_ints r2)
/-- the lambda called with a row: nothing changes, the key comes -/
theorem lnk_call {A : Around} {scope : Scope} {a : Str} {f c' : Addr} {pm ctv : Value} {params : Arguments} {k k2 : Nat} {p1 p2 p3 p4 p5 : Pos} {F : Addr → Prop} {u : Value} {r : List Int} (I : Inv X pins σ H s) (L : LamS1 X.env.scope scope a)
    (hf : s.heap.get? f = some (PySem.W.kla_obj "<lambda>" (X.env.qual ++ "<lambda>") params (.Tuple [.Call (.Name "len" p1) [.Name a p2] [] p3, .Name a p4] k2 p5) scope (cloFrom X.env.cells scope.names []) pm c' ctv))
    (hbind : bindArgs (PySem.W.kla_fn "<lambda>" (X.env.qual ++ "<lambda>") params (.Tuple [.Call (.Name "len" p1) [.Name a p2] [] p3, .Name a p4] k2 p5) scope (cloFrom X.env.cells scope.names []) pm (.ref c') ctv) ⟨[u], []⟩ = pure [(a, u)])
    (hr : Room (k + 1) A) (e0 : Env0 X.prog X.w X.K X.mg X.base A X.stack s H) (hco : H c' = some (CodeO c' (X.env.qual ++ "<lambda>"))) (hR : LnR X F H s.heap u r)
    (hgl : Gl (lamCx1 X A X.stack s H C8.E0 scope a f c') "len") (hmg : X.mg "len" = none) (hd : (a == ("__debug__" : Str)) = false) :
    wpAny (model X.prog X.w) A (call (.ref f) [u]) (PySem.W.KeyPure (lnK r) s) (fun _ _ => False) s := by
  obtain ⟨p, ws, rfl, pl, rv, hz, hat⟩ := hR
  obtain ⟨⟨oc, vs, t, hoc, hdc, hvc⟩, _, _⟩ := I.hok c' _ hco
  have rc : codeAny (model X.prog X.w) A (.call (.ref f) ⟨[.ref p], []⟩) (fun r2 s' => match r2 with
      | .ok (.ret v) => PySem.W.KeyPure (lnK r) s v s'
      | _ => False) s := by
    refine PySem.W.kla_callFunE hr.depth hf rfl L.co L.gen rfl ⟨c', oc, vs, t, rfl, hoc, hdc, hvc⟩ ?_
    rw [hbind]
    refine wpAny_pure (wpAny_newFunctionEnv (fun y hy => L.own y hy) (fun y hy => by rw [List.mem_singleton.mp hy]; exact L.isl) (fun h₁ hns hsb => ⟨I.nolimit.fresh _ hsb, ?_⟩) L.kind)
    show codeAny _ _ (.expr (.Tuple [.Call (.Name "len" p1) [.Name a p2] [] p3, .Name a p4] k2 p5) (lamEnv X scope s.heap.objs.size f c')) _ _
    have kp : ∀ b o, s.heap.get? b = some o → h₁.get? b = some o := fun b o e => hsb.extBut b o (Nat.ne_of_lt (Heap.lt_size e)) (Heap.get?_push_of_some _ e)
    have J : Inv (lamCx1 X A X.stack s H C8.E0 scope a f c') [] (σ ++ [some (.ref p)]) H { s with heap := h₁, toks := s.toks + ([(a, Value.ref p)] : List (Str × Value)).length } :=
      lam_start1 I L e0 hr.hd Un.refl rfl hns kp
    have pl1 : IsTup h₁ p ws.toArray := pl.keeps kp
    refine PySem.W.kla_codeExpr ?_
    show wpAny (model X.prog X.w) (lamCx1 X A X.stack s H C8.E0 scope a f c').A (eval (.Tuple [.Call (.Name "len" p1) [.Name a p2] [] p3, .Name a p4] k2 p5) (lamCx1 X A X.stack s H C8.E0 scope a f c').env) _ _ _
    have rd : ∀ {tk : Nat} {pos : Pos} {Q E : Value → Shared → Prop}, Q (.ref p) { s with heap := h₁, toks := tk } → wpAny (model X.prog X.w) (lamCx1 X A X.stack s H C8.E0 scope a f c').A (eval (.Name a pos) (lamCx1 X A X.stack s H C8.E0 scope a f c').env) Q E { s with heap := h₁, toks := tk } := fun q =>
      wpAny_Name (wpAny_loadName_local L.kind L.isl hns (by simp) q) hd
    refine wpAny_Tuple_spliced ?_
    show wpAny _ _ (spliced ((false, eval (.Call (.Name "len" p1) [.Name a p2] [] p3) (lamCx1 X A X.stack s H C8.E0 scope a f c').env) :: (false, eval (.Name a p4) (lamCx1 X A X.stack s H C8.E0 scope a f c').env) :: [])) _ _ _
    refine Calls.spliced_cons ?_
    refine wpAny_Call_Name_kw (ld_blt J hgl hmg (by rfl) ?_ (by decide) (by decide))
    refine PyProof.Rows.callWith_builtin1 ?_ (by rfl) (by rfl)
    show wpAny _ _ (spliced ((false, eval (.Name a p2) (lamCx1 X A X.stack s H C8.E0 scope a f c').env) :: [])) _ _ _
    refine Calls.spliced_cons (rd (Calls.spliced_nil ?_))
    have hn := line63
    have hsz : ws.toArray.size = r.length := by
      have := rv.length
      rw [List.length_map] at this
      rw [List.size_toArray]
      omega
    refine len_tuple pl1 (by rw [hsz]; omega) ?_
    refine Calls.spliced_cons (rd (Calls.spliced_nil ⟨by show 2 ≤ sizeLine; decide, ?_⟩))
    show PySem.W.KeyPure (lnK r) s _ _
    refine ⟨_, _, rfl, fun b o e => Heap.get?_push_of_some _ (kp b o e), ?_⟩
    have g0 : (h₁.push { cls := .type "tuple", data := .seq #[Value.int (ws.toArray.size : Int) (s.toks + ([(a, Value.ref p)] : List (Str × Value)).length + 1), Value.ref p] }).get? h₁.objs.size = some { cls := .type "tuple", data := .seq #[Value.int (ws.toArray.size : Int) (s.toks + ([(a, Value.ref p)] : List (Str × Value)).length + 1), Value.ref p] } := Heap.get?_push_size _ rfl
    obtain ⟨o, ho, hc, n, hdat⟩ := pl1
    have r2 : Reads (h₁.push { cls := .type "tuple", data := .seq #[Value.int (ws.toArray.size : Int) (s.toks + ([(a, Value.ref p)] : List (Str × Value)).length + 1), Value.ref p] }) (.ref p) (.tuple (r.map PyData.int)) [] :=
      Reads.tuple (Heap.get?_push_of_some _ ho) hc hdat (by simpa using reads_ints rv)
    have r1 := Reads.int (h := h₁.push { cls := .type "tuple", data := .seq #[Value.int (ws.toArray.size : Int) (s.toks + ([(a, Value.ref p)] : List (Str × Value)).length + 1), Value.ref p] }) (ws.toArray.size : Int) (s.toks + ([(a, Value.ref p)] : List (Str × Value)).length + 1)
    have r3 := Reads.tuple g0 rfl rfl (ReadsAll.cons r1 (ReadsAll.cons r2 ReadsAll.nil))
    have r3 : Reads _ _ (PyData.tuple [.int (ws.toArray.size : Int), .tuple (r.map PyData.int)]) [] := r3
    rw [hsz] at r3
    rw [hsz]
    exact r3
  refine wpAny_call (codeAny_mono rc fun r2 s' hq => ?_)
  cases r2 with
  | error e => exact hq.elim
  | ok fl =>
    cases fl with
    | ret u => exact hq
    | next => exact hq.elim
    | brk => exact hq.elim
    | cont => exact hq.elim
end
section
variable {X : Cx} {W : WX} {f : DS → Out} {e : Expr}
theorem ln_depth (r : List Int) : (lnK r).depth = 2 := by
  simp [lnK, PyData.depth, PyData.depthAll, PySem.W.depth_ints]
theorem ev_sortLN {c P : Addr} {a : Str} {params : Arguments} {scope : Scope} {k k2 : Nat} {p p1 p2 p3 p4 p5 lpos kpos pos : Pos} (hr : Room (k + 3) X.A) (hg : Gl X "sorted") (hm : X.mg "sorted" = none) (hmg : X.mg "len" = none)
    (TB : TabB X.base X.mg c P) (hcode : X.env.code = .ref c) (hin : P ∈ Nm.ts) (enm : Nm.nm P = X.env.qual ++ "<lambda>") (L : LamS1 X.env.scope scope a) (he : EV X W e f)
    (hgl : ∀ (s : Shared) (H : Hp) (f c' : Addr), Gl (lamCx1 X X.A.in1.in1 X.stack s H C8.E0 scope a f c') "len" := by exact fun _ _ _ _ => rfl) (hd : (a == ("__debug__" : Str)) = false := by decide +kernel)
    (hdef : defaultsOf params X.env = ([], []) := by rfl)
    (hbind : ∀ (q : Str) (body : Expr) (cl : List (Str × Addr)) (pm cv ctv u : Value), bindArgs (PySem.W.kla_fn "<lambda>" q params body scope cl pm cv ctv) ⟨[u], []⟩ = pure [(a, u)] := by exact fun _ _ _ _ _ _ _ => rfl)
    (h1 : backTo pos (starEach [e] X.env) = (false, eval e X.env) :: backTo pos (starEach [] X.env) := by rfl) (hpl : (backTo pos (starEach [e] X.env)).any (·.1) = false := by rfl) :
    EV X W (.Call (.Name "sorted" p) [e] [⟨some (Str.ofString "key"), .Lambda params (.Tuple [.Call (.Name "len" p1) [.Name a p2] [] p3, .Name a p4] k2 p5) scope lpos, kpos⟩] pos) (sortLN f) := by
  refine ⟨⟨fun pins s σ H Q I ⟨B, F, S, rel, q⟩ => ?_⟩⟩
  refine wpAny_Call_Name_kw (ld_blt I hg hm (by rfl) ?_ (by decide) (by decide))
  refine PyProof.Rows.callWith_kw ?_ h1 hpl (by rfl) (by rfl)
  rw [h1]
  obtain ⟨B1, F0, S0, rel0, q0⟩ : tE X.K W f σ H (fun v H1 => ∃ F1 S1 ds rs, Xt σ S F H S1 F1 H1 ∧ Rel X.K B F1 S1 σ H1 ∧ At X.K F1 H1 v (.lst ds) ∧ rowsI ds = some rs ∧ rs.length ≤ 1000 ∧ PoOk X.K B S1 F1 H1 σ Q (.ow (.lst ((rs.mergeSort lnLe).map rowD))) S1) := by
    refine ⟨B, F, S, rel, ?_⟩
    unfold sortLN at q
    cases ef : f S with
    | stuck => rw [ef] at q; exact q
    | exc C fs S' => rw [ef] at q; exact q
    | ok r S1 =>
      rw [ef] at q
      intro v H1 F1 x1 rel1 rv1
      match r, rv1, q with
      | .v (.lst ds), rv1, q =>
        dsimp only at q
        cases ek : rowsI ds with
        | none => rw [ek] at q; exact q.elim
        | some rs =>
          rw [ek] at q
          dsimp only at q
          split at q
          · rename_i hl
            exact ⟨F1, S1, ds, rs, x1, rel1, rv1, ek, hl, PoOk.ext x1 q⟩
          · exact q.elim
  refine Calls.spliced_cons (thn (he.pe.run pins s σ H _ I ⟨B1, F0, S0, rel0, q0⟩) fun u s1 ⟨v, H1, I1, r1, F1, S1, ds, rs, x1, rel1, at1, hrs, hl, qd⟩ => ?_)
  have fl : ∀ l, v = .ref l → F1 l := fun l z => by
    subst z
    cases at1 with
    | lst f1 _ _ => exact f1
  obtain ⟨l, vs, rfl, hl1, ats1⟩ := at1.lstI
  have fl := fl l rfl
  obtain rfl : u = Value.ref l := r1
  refine Calls.spliced_nil ?_
  show wpAny _ _ (evalAll ((do let v ← eval (.Lambda params (.Tuple [.Call (.Name "len" p1) [.Name a p2] [] p3, .Name a p4] k2 p5) scope lpos) X.env; standAt pos; pure v) :: [])) _ _ s1
  refine wpAny_evalAll_cons (wpAny_bind (lam_mk I1 TB hcode hin enm rel1.tabs hdef (L.has I1.ok) fun fa c' pm' ctv H2 s2 I2 gr T2 hf hfn hfr hco => wpAny_bind (wpAny_standAt (wpAny_pure ?_))))
  refine wpAny_evalAll_nil ?_
  obtain ⟨x2, rel2⟩ := rel1.grew gr T2
  have hl2 : SqL X.K H2 l vs := .inl (.inl (x2.kp fl hl1))
  obtain ⟨its, rv, pl, hz⟩ := I2.list hl2
  have ats2 : Ats X.K F1 H2 vs ds := ats1.ext x2.toExt
  have each := rows_each I2 ats2 hrs rv
  have hn := sizeLine_eq
  show wpAny _ _ (call (.builtin "sorted") [.ref l] [(Str.ofString "key", .ref fa)]) _ _ s2
  refine PySem.W.sorted_key_data (b := false) lnK pl.isList each (PySem.W.AllAlike.of fun _ _ => by simp [PySem.W.alike, PySem.W.alikeAll, PySem.W.alike_ints]) (PySem.W.Sortable.tuples fun _ => ⟨_, _, rfl⟩) (by omega) (fun r _ => ?_) (ksk_s1 _ _) (fun _ => ksk_l1 _ _) (fun _ => ksk_t1 _ _)
    (fun v r hR _ h tk kp => ?_) (fun out c h' tk kp fresh hD hlen eo => ?_)
  · rw [ln_depth]
    have := hr.un
    omega
  · have I3 := I2.kept (t' := tk) kp
    have e3 := I3.env0.in1.in1
    obtain ⟨p0, ws, e1, e2, e4, e5, e6⟩ := hR
    exact lnk_call (k := k) I3 L (kp _ _ hf) (hbind _ _ _ _ _ _ _) hr.in1.in1 e3 hco ⟨p0, ws, e1, e2.keeps kp, e4, e5, e6⟩ (hgl _ _ _ _) hmg hd
  · obtain ⟨xs, va, at3⟩ := each_ats eo
    have hxl : xs.length ≤ sizeLine := by
      rw [va.length, hlen, hn]
      omega
    refine ⟨.ref _, upd H2 (s2.heap.objs.size + 1) (.lst xs), I2.laid (t' := tk) kp (Nat.le_succ _) ⟨hxl, _, c, va, hD⟩, rfl, ?_⟩
    exact (PoOk.ext x2 qd).list rel2 at3 (I2.hok.fresh (Nat.le_succ _))
end
end DL
namespace DL
open PySem PySem.Spec PyProof.Rows L2 LamX
variable [Nm]
/-! ### sorted(e), alike data -/
def pyO (d : D) : PyData := (d.py).getD .none
def tup1B : PyData → Bool
  | .tuple (_ :: _) => true
  | _ => false
def ntnB : PyData → Bool
  | .tuple _ => false
  | .none => false
  | _ => true
def srtB (ds : List D) : Bool :=
  decide (ds.length ≤ 1000) && ds.all (fun d => d.py.isSome && decide ((pyO d).depth ≤ 60)) && ds.all (fun d => ds.all fun d' => PySem.W.alike (pyO d) (pyO d')) && (ds.all (fun d => tup1B (pyO d)) || ds.all (fun d => ntnB (pyO d)))
def dLe : D → D → Bool := PySem.W.dataLe false pyO
def sortC : List D → Option R
  | [.lst ds] => if srtB ds = true then some (.ow (.lst (ds.mergeSort dLe))) else none
  | _ => none
section
variable {X : Cx}
def rSortD (K : Fr) : List V → Hp → VK → Prop := fun xs H Q => ∃ (l : Addr) (ts : List (V × D)), xs = [V.ref l] ∧ SqL K H l (ts.map (·.1)) ∧ (∀ t ∈ ts, Dp K H t.1 (pyO t.2)) ∧ srtB (ts.map (·.2)) = true ∧
  ∀ q, H q = none → Q (.ref q) (upd H q (.lst ((ts.mergeSort (PySem.W.dataLe false fun t => pyO t.2)).map (·.1))))
theorem each_rel {h : Heap} : ∀ {ts : List (V × D)} {its : List Value}, Vals (ts.map (·.1)) its → (∀ t ∈ ts, ∀ u, RelV t.1 u → ∃ as, Reads h u (pyO t.2) as) → PySem.W.EachIs (fun u t => RelV t.1 u) its ts ∧ PySem.W.EachIs (fun u t => ∃ as, Reads h u (pyO t.2) as) its ts
  | [], _, v, _ => by
    cases v
    exact ⟨.nil, .nil⟩
  | t :: ts, _, v, hh => by
    have v : Vals (t.1 :: ts.map (·.1)) _ := v
    cases v with
    | cons r1 r2 =>
      obtain ⟨h1, h2⟩ := each_rel r2 fun t ht => hh t (List.mem_cons_of_mem _ ht)
      exact ⟨.cons r1 h1, .cons (hh t List.mem_cons_self _ r1) h2⟩
theorem each_vals : ∀ {ts : List (V × D)} {out : List Value}, PySem.W.EachIs (fun u t => RelV t.1 u) out ts → Vals (ts.map (·.1)) out
  | _, _, .nil => .nil
  | _, _, .cons h t => .cons h (each_vals t)
theorem call_sortD (hu : X.A.units + 64 < cLine) : CallR X (.builtin "sorted") (rSortD X.K) := by
  intro pins s σ H xs us Q I r h
  obtain ⟨l, ts, rfl, hs, hd, sb, q⟩ := h
  obtain ⟨u, rfl, rx⟩ := vals1 r
  cases rx
  obtain ⟨its, rv, pl, hz⟩ := I.list hs
  unfold srtB at sb
  simp only [Bool.and_eq_true, Bool.or_eq_true, decide_eq_true_eq, List.all_eq_true] at sb
  obtain ⟨⟨⟨s1, s2⟩, s3⟩, s4⟩ := sb
  have mem2 : ∀ t ∈ ts, t.2 ∈ ts.map (·.2) := fun t ht => List.mem_map.mpr ⟨t, ht, rfl⟩
  obtain ⟨e1, e2⟩ := each_rel (h := s.heap) rv fun t ht u ru => Dp.reads I _ _ _ (hd t ht) ru
  have hn := sizeLine_eq
  rw [List.length_map] at s1
  refine PySem.W.sorted_data pl.isList e1 e2 (fun d h1 d' h2 => ?_) ?_ (by omega) (fun t ht => ?_) fun out hlen eo => ?_
  · obtain ⟨t, ht, rfl⟩ := List.mem_map.mp h1
    obtain ⟨t', ht', rfl⟩ := List.mem_map.mp h2
    exact s3 _ (mem2 t ht) _ (mem2 t' ht')
  · rcases s4 with s4 | s4
    · refine .inl fun d h1 => ?_
      obtain ⟨t, ht, rfl⟩ := List.mem_map.mp h1
      have := s4 _ (mem2 t ht)
      unfold tup1B at this
      split at this
      · rename_i x r e
        exact ⟨x, r, e⟩
      · cases this
    · refine .inr fun d h1 => ?_
      obtain ⟨t, ht, rfl⟩ := List.mem_map.mp h1
      have := s4 _ (mem2 t ht)
      unfold ntnB at this
      split at this
      · cases this
      · cases this
      · rename_i a b
        exact ⟨b, fun xs z => a xs z⟩
  · have := (s2 _ (mem2 t ht)).2
    omega
  · have va := each_vals eo
    have hxl : ((ts.mergeSort (PySem.W.dataLe false fun t => pyO t.2)).map (·.1)).length ≤ sizeLine := by
      rw [va.length, hlen, hn]
      omega
    obtain ⟨c, hc⟩ := PyProof.Rows.sortedAll_at s.heap its out.toArray
    exact ⟨.ref _, upd H (s.heap.objs.size + 1) (.lst _), I.laid (t' := s.toks) (fun _ _ => PyProof.Rows.sortedAll_old) (Nat.le_succ _) ⟨hxl, _, c, va, hc⟩, rfl, q _ (I.hok.fresh (Nat.le_succ _))⟩
theorem ats_pairs {K : Fr} {F : Addr → Prop} {H : Hp} : ∀ {vs : List V} {ds : List D}, Ats K F H vs ds → ∃ ts : List (V × D), ts.map (·.1) = vs ∧ ts.map (·.2) = ds ∧ ∀ t ∈ ts, At K F H t.1 t.2
  | _, _, .nil => ⟨[], rfl, rfl, fun _ h => (List.not_mem_nil h).elim⟩
  | _, _, @Ats.cons _ _ _ v d vs ds h t => by
    obtain ⟨ts, e1, e2, a⟩ := ats_pairs t
    refine ⟨(v, d) :: ts, by rw [← e1]; rfl, by rw [← e2]; rfl, fun t ht => ?_⟩
    rcases List.mem_cons.mp ht with rfl | ht
    · exact h
    · exact a t ht
theorem pairs_ats {K : Fr} {F : Addr → Prop} {H : Hp} : ∀ {ts : List (V × D)}, (∀ t ∈ ts, At K F H t.1 t.2) → Ats K F H (ts.map (·.1)) (ts.map (·.2))
  | [], _ => .nil
  | t :: ts, a => .cons (a t List.mem_cons_self) (pairs_ats fun t ht => a t (List.mem_cons_of_mem _ ht))
theorem sortC_ok : CaD X.K (rSortD X.K) sortC := by
  intro B F S σ H xs ds rr Q rel hx e p
  unfold sortC at e
  split at e
  · split at e
    · rename_i ds0 hb
      cases e
      obtain ⟨x, rfl, h⟩ := hx.one
      obtain ⟨a, vs, rfl, h1, t⟩ := h.lst
      obtain ⟨ts, e1, e2, ha⟩ := ats_pairs t
      subst e1
      subst e2
      have hb2 := hb
      unfold srtB at hb2
      simp only [Bool.and_eq_true, Bool.or_eq_true, decide_eq_true_eq, List.all_eq_true] at hb2
      obtain ⟨⟨⟨_, s2⟩, _⟩, _⟩ := hb2
      refine ⟨a, ts, rfl, .inl (.inl h1), fun t ht => ?_, hb, fun q hq => ?_⟩
      · have z := (s2 _ (List.mem_map.mpr ⟨t, ht, rfl⟩)).1
        obtain ⟨p, hp⟩ := Option.isSome_iff_exists.mp z
        have e : pyO t.2 = p := by
          unfold pyO
          rw [hp]
          rfl
        rw [e]
        exact (ha t ht).dp hp
      · have em : (ts.mergeSort (PySem.W.dataLe false fun t => pyO t.2)).map (·.2) = (ts.map (·.2)).mergeSort dLe := List.map_mergeSort fun _ _ _ _ => rfl
        rw [← em] at p
        exact p.list rel (pairs_ats fun t ht => ha t ((List.mergeSort_perm _ _).mem_iff.mp ht)) hq
    · cases e
  · cases e
theorem ev_sortC {W : WX} {e : Expr} {g : DS → AOut} {p pos : Pos} (hu : X.A.units + 64 < cLine) (hg : Gl X "sorted") (hm : X.mg "sorted" = none) (a : AV X W [e] g) (he : starEach [e] X.env = (false, eval e X.env) :: starEach [] X.env := by rfl) : EV X W (.Call (.Name "sorted" p) [e] [] pos) (liftL sortC g) :=
  ev_cb (call_sortD hu) sortC_ok hg hm (by decide +kernel) a (by decide) (by decide) he (by rfl)
end
end DL
namespace Law
open PySem PySem.Spec PyProof.Rows L2 DL
def topS (i : Nat) : Stmt := PySem.Challenge.pw_sparebridges_k15_whole_least_cuts.main.body.getD i (.Pass ⟨0, 0, 0, 0⟩)
/-- where the classes stand -/
structure Cs where
  Sea : Addr
def tab_Sea (c : Cs) (a : Addr) : Option Bool := if a = c.Sea then some true else none
structure Txt (K : Fr) (mg : Str → Option Value) (c : Cs) : Prop where
  b_abs : mg "abs" = none
  b_all : mg "all" = none
  b_bool : mg "bool" = none
  b_divmod : mg "divmod" = none
  b_enumerate : mg "enumerate" = none
  b_int : mg "int" = none
  b_isinstance : mg "isinstance" = none
  b_len : mg "len" = none
  b_list : mg "list" = none
  b_max : mg "max" = none
  b_min : mg "min" = none
  b_range : mg "range" = none
  b_repr : mg "repr" = none
  b_sorted : mg "sorted" = none
  b_str : mg "str" = none
  b_tuple : mg "tuple" = none
  b_zip : mg "zip" = none
  c_LETTERS : ∃ u, mg "LETTERS" = some u ∧ RelV (.str "abcdefghijklmnopqrstuvwxyz") u
  c_LETTERS_AND_DIGITS : ∃ u, mg "LETTERS_AND_DIGITS" = some u ∧ RelV (.str "abcdefghijklmnopqrstuvwxyz0123456789") u
  c_MOST_BRIDGES : ∃ u, mg "MOST_BRIDGES" = some u ∧ RelV (.int 1000000000000000000000000000000) u
  c_MOST_ISLANDS : ∃ u, mg "MOST_ISLANDS" = some u ∧ RelV (.int 5) u
  c_MOST_SIGNS : ∃ u, mg "MOST_SIGNS" = some u ∧ RelV (.int 8) u
  g_Sea : mg "Sea" = some (.ref c.Sea)
  cl_Sea : Cls K c.Sea
  na_Sea_islands : NoAttr K c.Sea "_islands"
  na_Sea_pairs : NoAttr K c.Sea "_pairs"
  isi_Sea : IsiC K c.Sea (tab_Sea c)
variable [Nm]
abbrev s_is_name : Stmt := topS 12
abbrev n_is_name : List Str := ["value", "sign"]
theorem sc_is_name : FnScope n_is_name ["value"] (defScope s_is_name) := ⟨rfl, rfl, rfl, by decide +kernel, rfl, by decide +kernel, by decide +kernel⟩
def b_is_name (c : Cs) : DS → Fl :=
  (seqS (ifS (orD (notD (liftL isiB (aCons (var 0) (aCons (cst (.ty "str")) aNil)))) (orD (bin ltD (liftL lenD (aCons (var 0) aNil)) (cst (.int 1))) (bin gtD (liftL lenD (aCons (var 0) aNil)) (cst (.int 8))))) (retS (cst (.bl false))) skipS)
  (retS (andD (bin (inD false) (bin ixD (var 0) (cst (.int 0))) (cst (.str "abcdefghijklmnopqrstuvwxyz"))) (liftL allC (aCons (fz (compD true [1] [1] (iStrD (var 0)) (cst (.bl true)) (bin (inD false) (var 1) (cst (.str "abcdefghijklmnopqrstuvwxyz0123456789"))))) aNil)))))
def m_is_name (c : Cs) : List Sl → Fo := runD 1 2 (b_is_name c)
set_option maxRecDepth 100000 in
set_option maxHeartbeats 8000000 in
theorem fk_is_name {P : Program} {w : World} {K : Fr} {mg : Str → Option Value} {base : Heap} {c : Cs} (T : Txt K mg c)  {f : Addr} {fd : FuncData} (F : Fun K "is_name" "is_name" s_is_name f fd) : FnOk P w K mg base (L2.CX P w) 1 f fd ["value"] (spD K 1 (m_is_name c)) :=
  fn_O F sc_is_name fun cdv A outer s H E hr =>
  (svs_cons (sv_if (TW.tv (tw_or (tv_not (EV.tv (ev_isiB rfl T.b_isinstance (av_cons (ev_var 0 (pv 0)) (av_cons (ev_bty rfl T.b_str boot_str) av_nil))))) (tw_or (tv_lt (ev_len rfl T.b_len (av_cons (ev_var 0 (pv 0)) av_nil)) ev_int) (tw_one (tv_gt (ev_len rfl T.b_len (av_cons (ev_var 0 (pv 0)) av_nil)) (ev_gint rfl T.c_MOST_SIGNS)))))) (svs_one (sv_ret ev_bl)) svs_nil)
  (svs_one (sv_ret (ev_and (ev_in (ev_ix (ev_var 0 (pv 0)) ev_int) (ev_gstr rfl T.c_LETTERS)) (ev_one (ev_all rfl rfl T.b_all (av_cons (EV.fz (ev_comp (own := [("sign", 1)]) rfl sc_is_name.nd (iv_str (ev_var 0 (pv 0))) (blkOk_by (own := [("sign", 1)]) (N := n_is_name) (sc := defScope s_is_name) (by decide +kernel)) (fun _ _ _ _ _ => (nv_name (i := 1) sc_is_name.nd rfl (by first | exact .inl rfl | exact .inr rfl))) (fun _ _ _ _ _ => cv_nil) (fun _ _ _ _ _ => (ev_in (ev_var 1 (pv 1)) (ev_gstr rfl T.c_LETTERS_AND_DIGITS))))) av_nil)))))))
theorem ok_is_name {P : Program} {w : World} {K : Fr} {mg : Str → Option Value} {base : Heap} {c : Cs} (T : Txt K mg c) (D : DefIn K mg "is_name" s_is_name ["value"])  : DefO P w K mg base "is_name" 1 ["value"] (m_is_name c) := D.o fun f fd F => fk_is_name T  F
abbrev s_check_islands : Stmt := topS 14
abbrev n_check_islands : List Str := ["islands", "index", "island"]
theorem sc_check_islands : FnScope n_check_islands ["islands"] (defScope s_check_islands) := ⟨rfl, rfl, rfl, by decide +kernel, rfl, by decide +kernel, by decide +kernel⟩
def b_check_islands (c : Cs) : DS → Fl :=
  (seqS (ifS (orD (notD (liftL isiB (aCons (var 0) (aCons (cst (.ty "tuple")) aNil)))) (bin ltD (liftL lenD (aCons (var 0) aNil)) (cst (.int 2)))) (fun _ => .stuck) skipS)
  (forS (iEnT (aCons (var 0) aNil)) (tupG [(nameG 1), (nameG 2)]) (ifS (orD (bin (eqD false) (var 1) (cst (.int 5))) (orD (notD (fz (callD 1 (m_is_name c) (aCons (var 2) aNil)))) (bin (inD false) (var 2) (fz (sliceD (var 0) (cst .non) (intO (var 1))))))) (fun _ => .stuck) skipS)))
def m_check_islands (c : Cs) : List Sl → Fo := runD 1 3 (b_check_islands c)
set_option maxRecDepth 100000 in
set_option maxHeartbeats 8000000 in
theorem fk_check_islands {P : Program} {w : World} {K : Fr} {mg : Str → Option Value} {base : Heap} {c : Cs} (T : Txt K mg c) (h_is_name : DefO P w K mg base "is_name" 1 ["value"] (m_is_name c)) {f : Addr} {fd : FuncData} (F : Fun K "check_islands" "check_islands" s_check_islands f fd) : FnOk P w K mg base (L2.CX P w) 2 f fd ["islands"] (spD K 1 (m_check_islands c)) :=
  fn_O F sc_check_islands fun cdv A outer s H E hr =>
  (svs_cons (sv_if (TW.tv (tw_or (tv_not (EV.tv (ev_isiB rfl T.b_isinstance (av_cons (ev_var 0 (pv 0)) (av_cons (ev_bty rfl T.b_tuple boot_tuple) av_nil))))) (tw_one (tv_lt (ev_len rfl T.b_len (av_cons (ev_var 0 (pv 0)) av_nil)) ev_int)))) (svs_one sv_never) svs_nil)
  (svs_one (sv_for (passes_of rfl) rfl (iv_enumT rfl T.b_enumerate (av_cons (ev_var 0 (pv 0)) av_nil)) (gv_tup rfl (gvs_cons (gv_name (i := 1) sc_check_islands.nd rfl (by first | exact .inl rfl | exact .inr rfl)) (gvs_cons (gv_name (i := 2) sc_check_islands.nd rfl (by first | exact .inl rfl | exact .inr rfl)) gvs_nil))) (svs_one (sv_if (TW.tv (tw_or (tv_eq hr (ev_var 1 (pv 1)) (ev_gint rfl T.c_MOST_ISLANDS)) (tw_or (tv_not (EV.tv (EV.fz (ev_callO h_is_name rfl (hr.mono (by decide)) (takes_of rfl rfl rfl rfl) rfl (av_cons (ev_var 2 (pv 2)) av_nil))))) (tw_one (tv_in (ev_var 2 (pv 2)) (EV.fz (ev_slice (ev_var 0 (pv 0)) ov_none (ov_some (ev_var 1 (pv 1)))))))))) (svs_one sv_never) svs_nil)))))
theorem ok_check_islands {P : Program} {w : World} {K : Fr} {mg : Str → Option Value} {base : Heap} {c : Cs} (T : Txt K mg c) (D : DefIn K mg "check_islands" s_check_islands ["islands"]) (h_is_name : DefO P w K mg base "is_name" 1 ["value"] (m_is_name c)) : DefO P w K mg base "check_islands" 2 ["islands"] (m_check_islands c) := D.o fun f fd F => fk_check_islands T h_is_name F
abbrev s_pairs_of : Stmt := topS 15
abbrev n_pairs_of : List Str := ["islands", "at", "one", "other"]
theorem sc_pairs_of : FnScope n_pairs_of ["islands"] (defScope s_pairs_of) := ⟨rfl, rfl, rfl, by decide +kernel, rfl, by decide +kernel, by decide +kernel⟩
def b_pairs_of (c : Cs) : DS → Fl :=
  (retS (liftL tupC (aCons (fz (compG false [1, 2] [1, 2, 3] (iEnT (aCons (var 0) aNil)) (innT (cst (.bl true)) (iTpl (fz (sliceD (var 0) (intO (fz (bin addD (var 1) (cst (.int 1))))) (cst .non)))) true [3] [3] (elemT (cst (.bl true)) (tupD (aCons (var 2) (aCons (var 3) aNil))))))) aNil)))
def m_pairs_of (c : Cs) : List Sl → Fo := runD 1 4 (b_pairs_of c)
set_option maxRecDepth 100000 in
set_option maxHeartbeats 8000000 in
theorem fk_pairs_of {P : Program} {w : World} {K : Fr} {mg : Str → Option Value} {base : Heap} {c : Cs} (T : Txt K mg c)  {f : Addr} {fd : FuncData} (F : Fun K "pairs_of" "pairs_of" s_pairs_of f fd) : FnOk P w K mg base (L2.CX P w) 1 f fd ["islands"] (spD K 1 (m_pairs_of c)) :=
  fn_O F sc_pairs_of fun cdv A outer s H E hr =>
  (svs_one (sv_ret (ev_tupC rfl T.b_tuple (av_cons (EV.fz (ev_comp2 (own := [("at", 1), ("one", 2), ("other", 3)]) (vs1 := [3]) rfl sc_pairs_of.nd (iv_enumT rfl T.b_enumerate (av_cons (ev_var 0 (pv 0)) av_nil)) (blkOk_by (own := [("at", 1), ("one", 2), ("other", 3)]) (N := n_pairs_of) (sc := defScope s_pairs_of) (by decide +kernel)) (by decide) (fun _ _ _ _ _ => (nv_tup rfl (nvs_cons (i := 1) sc_pairs_of.nd rfl (by first | exact .inl rfl | exact .inr rfl) (nvs_cons (i := 2) sc_pairs_of.nd rfl (by first | exact .inl rfl | exact .inr rfl) nvs_nil)))) (fun _ _ _ _ _ => cv_nil) (fun _ _ _ _ _ => (iv_tup (EV.fz (ev_slice (ev_var 0 (pv 0)) (ov_some (EV.fz (ev_add (ev_var 1 (pv 1)) ev_int))) ov_none)))) (fun _ _ _ _ _ => (nv_name (i := 3) sc_pairs_of.nd rfl (by first | exact .inl rfl | exact .inr rfl))) (fun _ _ _ _ _ => cv_nil) (fun _ _ _ _ _ => (ev_tup (av_cons (ev_var 2 (pv 2)) (av_cons (ev_var 3 (pv 3)) av_nil)))))) av_nil))))
theorem ok_pairs_of {P : Program} {w : World} {K : Fr} {mg : Str → Option Value} {base : Heap} {c : Cs} (T : Txt K mg c) (D : DefIn K mg "pairs_of" s_pairs_of ["islands"])  : DefO P w K mg base "pairs_of" 1 ["islands"] (m_pairs_of c) := D.o fun f fd F => fk_pairs_of T  F
abbrev s_Sea_init : Stmt := inClass (topS 17) 0
abbrev n_Sea_init : List Str := ["self", "islands"]
theorem sc_Sea_init : FnScope n_Sea_init ["self", "islands"] (defScope s_Sea_init) := ⟨rfl, rfl, rfl, by decide +kernel, rfl, by decide +kernel, by decide +kernel⟩
def b_Sea_init (c : Cs) : DS → Fl :=
  (seqS (expS (fz (callD 1 (m_check_islands c) (aCons (wk (var 1)) aNil))))
  (seqS (fldS 0 c.Sea "_islands" (var 1))
  (fldS 0 c.Sea "_pairs" (fz (callD 1 (m_pairs_of c) (aCons (wk (var 1)) aNil))))))
def m_Sea_init (c : Cs) : List Sl → Fo := runD 2 2 (b_Sea_init c)
set_option maxRecDepth 100000 in
set_option maxHeartbeats 8000000 in
theorem ok_Sea_init {P : Program} {w : World} {K : Fr} {mg : Str → Option Value} {base : Heap} {c : Cs} (T : Txt K mg c) (h_check_islands : DefO P w K mg base "check_islands" 2 ["islands"] (m_check_islands c)) (h_pairs_of : DefO P w K mg base "pairs_of" 1 ["islands"] (m_pairs_of c)) {f : Addr} {fd : FuncData} (F : Fun K "__init__" "Sea.__init__" s_Sea_init f fd) : FnOk P w K mg base (L2.CX P w) 3 f fd ["self", "islands"] (spD K 2 (m_Sea_init c)) :=
  fn_O F sc_Sea_init fun cdv A outer s H E hr =>
  (svs_cons (sv_exp (EV.fz (ev_callO h_check_islands rfl (hr.mono (by decide)) (takes_of rfl rfl rfl rfl) rfl (av_cons (EV.wk (ev_var 1 (pv 1))) av_nil))))
  (svs_cons (sv_fld 0 T.cl_Sea T.na_Sea_islands (pv 0) (ev_var 1 (pv 1)))
  (svs_one (sv_fld 0 T.cl_Sea T.na_Sea_pairs (pv 0) (EV.fz (ev_callO h_pairs_of rfl (hr.mono (by decide)) (takes_of rfl rfl rfl rfl) rfl (av_cons (EV.wk (ev_var 1 (pv 1))) av_nil)))))))
abbrev s_Sea_islands : Stmt := inClass (topS 17) 2
abbrev n_Sea_islands : List Str := ["self"]
theorem sc_Sea_islands : FnScope n_Sea_islands ["self"] (defScope s_Sea_islands) := ⟨rfl, rfl, rfl, by decide +kernel, rfl, by decide +kernel, by decide +kernel⟩
def b_Sea_islands (c : Cs) : DS → Fl :=
  (retS (fldD c.Sea "_islands" (var 0)))
def m_Sea_islands (c : Cs) : List Sl → Fo := runD 1 1 (b_Sea_islands c)
set_option maxRecDepth 100000 in
set_option maxHeartbeats 8000000 in
theorem ok_Sea_islands {P : Program} {w : World} {K : Fr} {mg : Str → Option Value} {base : Heap} {c : Cs} (T : Txt K mg c)  {f : Addr} {fd : FuncData} (F : Fun K "islands" "Sea.islands" s_Sea_islands f fd) : FnOk P w K mg base (L2.CX P w) 1 f fd ["self"] (spD K 1 (m_Sea_islands c)) :=
  fn_O F sc_Sea_islands fun cdv A outer s H E hr =>
  (svs_one (sv_ret (ev_fld T.cl_Sea T.na_Sea_islands (ev_var 0 (pv 0)))))
abbrev s_Sea_pairs : Stmt := inClass (topS 17) 3
abbrev n_Sea_pairs : List Str := ["self"]
theorem sc_Sea_pairs : FnScope n_Sea_pairs ["self"] (defScope s_Sea_pairs) := ⟨rfl, rfl, rfl, by decide +kernel, rfl, by decide +kernel, by decide +kernel⟩
def b_Sea_pairs (c : Cs) : DS → Fl :=
  (retS (fldD c.Sea "_pairs" (var 0)))
def m_Sea_pairs (c : Cs) : List Sl → Fo := runD 1 1 (b_Sea_pairs c)
set_option maxRecDepth 100000 in
set_option maxHeartbeats 8000000 in
theorem ok_Sea_pairs {P : Program} {w : World} {K : Fr} {mg : Str → Option Value} {base : Heap} {c : Cs} (T : Txt K mg c)  {f : Addr} {fd : FuncData} (F : Fun K "pairs" "Sea.pairs" s_Sea_pairs f fd) : FnOk P w K mg base (L2.CX P w) 1 f fd ["self"] (spD K 1 (m_Sea_pairs c)) :=
  fn_O F sc_Sea_pairs fun cdv A outer s H E hr =>
  (svs_one (sv_ret (ev_fld T.cl_Sea T.na_Sea_pairs (ev_var 0 (pv 0)))))
abbrev s_Sea_len : Stmt := inClass (topS 17) 5
abbrev n_Sea_len : List Str := ["self"]
theorem sc_Sea_len : FnScope n_Sea_len ["self"] (defScope s_Sea_len) := ⟨rfl, rfl, rfl, by decide +kernel, rfl, by decide +kernel, by decide +kernel⟩
def b_Sea_len (c : Cs) : DS → Fl :=
  (retS (liftL lenD (aCons (wk (fldD c.Sea "_islands" (var 0))) aNil)))
def m_Sea_len (c : Cs) : List Sl → Fo := runD 1 1 (b_Sea_len c)
set_option maxRecDepth 100000 in
set_option maxHeartbeats 8000000 in
theorem ok_Sea_len {P : Program} {w : World} {K : Fr} {mg : Str → Option Value} {base : Heap} {c : Cs} (T : Txt K mg c)  {f : Addr} {fd : FuncData} (F : Fun K "__len__" "Sea.__len__" s_Sea_len f fd) : FnOk P w K mg base (L2.CX P w) 1 f fd ["self"] (spD K 1 (m_Sea_len c)) :=
  fn_O F sc_Sea_len fun cdv A outer s H E hr =>
  (svs_one (sv_ret (ev_len rfl T.b_len (av_cons (EV.wk (ev_fld T.cl_Sea T.na_Sea_islands (ev_var 0 (pv 0)))) av_nil))))
abbrev s_is_integer : Stmt := topS 19
abbrev n_is_integer : List Str := ["value"]
theorem sc_is_integer : FnScope n_is_integer ["value"] (defScope s_is_integer) := ⟨rfl, rfl, rfl, by decide +kernel, rfl, by decide +kernel, by decide +kernel⟩
def b_is_integer (c : Cs) : DS → Fl :=
  (retS (andD (liftL isiB (aCons (var 0) (aCons (cst (.ty "int")) aNil))) (notD (liftL isiB (aCons (var 0) (aCons (cst (.ty "bool")) aNil))))))
def m_is_integer (c : Cs) : List Sl → Fo := runD 1 1 (b_is_integer c)
set_option maxRecDepth 100000 in
set_option maxHeartbeats 8000000 in
theorem fk_is_integer {P : Program} {w : World} {K : Fr} {mg : Str → Option Value} {base : Heap} {c : Cs} (T : Txt K mg c)  {f : Addr} {fd : FuncData} (F : Fun K "is_integer" "is_integer" s_is_integer f fd) : FnOk P w K mg base (L2.CX P w) 1 f fd ["value"] (spD K 1 (m_is_integer c)) :=
  fn_O F sc_is_integer fun cdv A outer s H E hr =>
  (svs_one (sv_ret (ev_and (ev_isiB rfl T.b_isinstance (av_cons (ev_var 0 (pv 0)) (av_cons (ev_bty rfl T.b_int boot_int) av_nil))) (ev_one (ev_not (ev_isiB rfl T.b_isinstance (av_cons (ev_var 0 (pv 0)) (av_cons (ev_bty rfl T.b_bool boot_bool) av_nil))))))))
theorem ok_is_integer {P : Program} {w : World} {K : Fr} {mg : Str → Option Value} {base : Heap} {c : Cs} (T : Txt K mg c) (D : DefIn K mg "is_integer" s_is_integer ["value"])  : DefO P w K mg base "is_integer" 1 ["value"] (m_is_integer c) := D.o fun f fd F => fk_is_integer T  F
abbrev s_is_within : Stmt := topS 20
abbrev n_is_within : List Str := ["value", "least", "most"]
theorem sc_is_within : FnScope n_is_within ["value", "least", "most"] (defScope s_is_within) := ⟨rfl, rfl, rfl, by decide +kernel, rfl, by decide +kernel, by decide +kernel⟩
def b_is_within (c : Cs) : DS → Fl :=
  (retS (andD (fz (callD 1 (m_is_integer c) (aCons (var 0) aNil))) (andD (bin geD (var 0) (var 1)) (orD (bin (isND false) (var 2) (cst .non)) (bin leD (var 0) (var 2))))))
def m_is_within (c : Cs) : List Sl → Fo := runD 3 3 (b_is_within c)
set_option maxRecDepth 100000 in
set_option maxHeartbeats 8000000 in
theorem fk_is_within {P : Program} {w : World} {K : Fr} {mg : Str → Option Value} {base : Heap} {c : Cs} (T : Txt K mg c) (h_is_integer : DefO P w K mg base "is_integer" 1 ["value"] (m_is_integer c)) {f : Addr} {fd : FuncData} (F : Fun K "is_within" "is_within" s_is_within f fd) : FnOk P w K mg base (L2.CX P w) 2 f fd ["value", "least", "most"] (spD K 3 (m_is_within c)) :=
  fn_O F sc_is_within fun cdv A outer s H E hr =>
  (svs_one (sv_ret (ev_and (EV.fz (ev_callO h_is_integer rfl (hr.mono (by decide)) (takes_of rfl rfl rfl rfl) rfl (av_cons (ev_var 0 (pv 0)) av_nil))) (ev_and (ev_ge (ev_var 0 (pv 0)) (ev_var 1 (pv 1))) (ev_one (ev_or (ev_is (ev_var 2 (pv 2)) ev_non) (ev_one (ev_le (ev_var 0 (pv 0)) (ev_var 2 (pv 2))))))))))
theorem ok_is_within {P : Program} {w : World} {K : Fr} {mg : Str → Option Value} {base : Heap} {c : Cs} (T : Txt K mg c) (D : DefIn K mg "is_within" s_is_within ["value", "least", "most"]) (h_is_integer : DefO P w K mg base "is_integer" 1 ["value"] (m_is_integer c)) : DefO P w K mg base "is_within" 2 ["value", "least", "most"] (m_is_within c) := D.o fun f fd F => fk_is_within T h_is_integer F
abbrev s_wrong_places : Stmt := topS 21
abbrev n_wrong_places : List Str := ["values", "many", "least", "most", "index", "value"]
theorem sc_wrong_places : FnScope n_wrong_places ["values", "many", "least", "most"] (defScope s_wrong_places) := ⟨rfl, rfl, rfl, by decide +kernel, rfl, by decide +kernel, by decide +kernel⟩
def b_wrong_places (c : Cs) : DS → Fl :=
  (seqS (ifS (orD (notD (liftL isiB (aCons (var 0) (aCons (cst (.ty "tuple")) aNil)))) (bin (eqD true) (liftL lenD (aCons (var 0) aNil)) (var 1))) (retS (lstD (aCons (cst .non) aNil))) skipS)
  (retS (compD false [4, 5] [4, 5] (iEnT (aCons (var 0) aNil)) (notD (fz (callD 3 (m_is_within c) (aCons (var 5) (aCons (var 2) (aCons (var 3) aNil)))))) (var 4))))
def m_wrong_places (c : Cs) : List Sl → Fo := runD 4 6 (b_wrong_places c)
set_option maxRecDepth 100000 in
set_option maxHeartbeats 8000000 in
theorem fk_wrong_places {P : Program} {w : World} {K : Fr} {mg : Str → Option Value} {base : Heap} {c : Cs} (T : Txt K mg c) (h_is_within : DefO P w K mg base "is_within" 2 ["value", "least", "most"] (m_is_within c)) {f : Addr} {fd : FuncData} (F : Fun K "wrong_places" "wrong_places" s_wrong_places f fd) : FnOk P w K mg base (L2.CX P w) 3 f fd ["values", "many", "least", "most"] (spD K 4 (m_wrong_places c)) :=
  fn_O F sc_wrong_places fun cdv A outer s H E hr =>
  (svs_cons (sv_if (TW.tv (tw_or (tv_not (EV.tv (ev_isiB rfl T.b_isinstance (av_cons (ev_var 0 (pv 0)) (av_cons (ev_bty rfl T.b_tuple boot_tuple) av_nil))))) (tw_one (tv_ne hr (ev_len rfl T.b_len (av_cons (ev_var 0 (pv 0)) av_nil)) (ev_var 1 (pv 1)))))) (svs_one (sv_ret (ev_lst (av_cons ev_non av_nil)))) svs_nil)
  (svs_one (sv_ret (ev_comp (own := [("index", 4), ("value", 5)]) rfl sc_wrong_places.nd (iv_enumT rfl T.b_enumerate (av_cons (ev_var 0 (pv 0)) av_nil)) (blkOk_by (own := [("index", 4), ("value", 5)]) (N := n_wrong_places) (sc := defScope s_wrong_places) (by decide +kernel)) (fun _ _ _ _ _ => (nv_tup rfl (nvs_cons (i := 4) sc_wrong_places.nd rfl (by first | exact .inl rfl | exact .inr rfl) (nvs_cons (i := 5) sc_wrong_places.nd rfl (by first | exact .inl rfl | exact .inr rfl) nvs_nil)))) (fun _ _ _ _ _ => (cv_one (tv_not (EV.tv (EV.fz (ev_callO h_is_within rfl (hr.mono (by decide)) takesW0 rfl (av_cons (ev_var 5 (pv 5)) (av_cons (ev_var 2 (pv 2)) (av_cons (ev_var 3 (pv 3)) av_nil))))))))) (fun _ _ _ _ _ => (ev_var 4 (pv 4)))))))
theorem ok_wrong_places {P : Program} {w : World} {K : Fr} {mg : Str → Option Value} {base : Heap} {c : Cs} (T : Txt K mg c) (D : DefIn K mg "wrong_places" s_wrong_places ["values", "many", "least", "most"]) (h_is_within : DefO P w K mg base "is_within" 2 ["value", "least", "most"] (m_is_within c)) : DefO P w K mg base "wrong_places" 3 ["values", "many", "least", "most"] (m_wrong_places c) := D.o fun f fd F => fk_wrong_places T h_is_within F
abbrev s_check_sea : Stmt := topS 22
abbrev n_check_sea : List Str := ["sea"]
theorem sc_check_sea : FnScope n_check_sea ["sea"] (defScope s_check_sea) := ⟨rfl, rfl, rfl, by decide +kernel, rfl, by decide +kernel, by decide +kernel⟩
def b_check_sea (c : Cs) : DS → Fl :=
  (ifS (notD (liftL (isiO c.Sea (tab_Sea c)) (aCons (var 0) (aCons (cst (.cls c.Sea)) aNil)))) (fun _ => .stuck) skipS)
def m_check_sea (c : Cs) : List Sl → Fo := runD 1 1 (b_check_sea c)
set_option maxRecDepth 100000 in
set_option maxHeartbeats 8000000 in
theorem fk_check_sea {P : Program} {w : World} {K : Fr} {mg : Str → Option Value} {base : Heap} {c : Cs} (T : Txt K mg c)  {f : Addr} {fd : FuncData} (F : Fun K "check_sea" "check_sea" s_check_sea f fd) : FnOk P w K mg base (L2.CX P w) 1 f fd ["sea"] (spD K 1 (m_check_sea c)) :=
  fn_O F sc_check_sea fun cdv A outer s H E hr =>
  (svs_one (sv_if (tv_not (EV.tv (ev_isiO T.isi_Sea rfl T.b_isinstance (av_cons (ev_var 0 (pv 0)) (av_cons (ev_own rfl T.g_Sea) av_nil))))) (svs_one sv_never) svs_nil))
theorem ok_check_sea {P : Program} {w : World} {K : Fr} {mg : Str → Option Value} {base : Heap} {c : Cs} (T : Txt K mg c) (D : DefIn K mg "check_sea" s_check_sea ["sea"])  : DefO P w K mg base "check_sea" 1 ["sea"] (m_check_sea c) := D.o fun f fd F => fk_check_sea T  F
abbrev s_check_bridges : Stmt := topS 23
abbrev n_check_bridges : List Str := ["sea", "bridges", "wrong"]
theorem sc_check_bridges : FnScope n_check_bridges ["sea", "bridges"] (defScope s_check_bridges) := ⟨rfl, rfl, rfl, by decide +kernel, rfl, by decide +kernel, by decide +kernel⟩
def b_check_bridges (c : Cs) : DS → Fl :=
  (seqS (asgS 2 (fz (callD 4 (m_wrong_places c) (aCons (var 1) (aCons (liftL lenD (aCons (fz (propD c.Sea (m_Sea_pairs c) (var 0))) aNil)) (aCons (cst (.int 0)) (aCons (cst (.int 1000000000000000000000000000000)) aNil)))))))
  (ifS (truD (var 2)) (fun _ => .stuck) skipS))
def m_check_bridges (c : Cs) : List Sl → Fo := runD 2 3 (b_check_bridges c)
set_option maxRecDepth 100000 in
set_option maxHeartbeats 8000000 in
theorem fk_check_bridges {P : Program} {w : World} {K : Fr} {mg : Str → Option Value} {base : Heap} {c : Cs} (T : Txt K mg c) (h_wrong_places : DefO P w K mg base "wrong_places" 3 ["values", "many", "least", "most"] (m_wrong_places c)) (h_Sea_pairs : PropIn P w K mg base c.Sea "pairs" 1 (m_Sea_pairs c)) {f : Addr} {fd : FuncData} (F : Fun K "check_bridges" "check_bridges" s_check_bridges f fd) : FnOk P w K mg base (L2.CX P w) 4 f fd ["sea", "bridges"] (spD K 2 (m_check_bridges c)) :=
  fn_O F sc_check_bridges fun cdv A outer s H E hr =>
  (svs_cons (sv_asg (i := 2) sc_check_bridges.nd rfl (by first | exact .inl rfl | exact .inr rfl) (EV.fz (ev_callO h_wrong_places rfl (hr.mono (by decide)) (takes_of rfl rfl rfl rfl) rfl (av_cons (ev_var 1 (pv 1)) (av_cons (ev_len rfl T.b_len (av_cons (EV.fz (ev_prop T.cl_Sea h_Sea_pairs (hr.mono (by decide)) (ev_var 0 (pv 0)))) av_nil)) (av_cons ev_int (av_cons (ev_gint rfl T.c_MOST_BRIDGES) av_nil)))))))
  (svs_one (sv_if (tv_tru (ev_var 2 (pv 2))) (svs_one sv_never) svs_nil)))
theorem ok_check_bridges {P : Program} {w : World} {K : Fr} {mg : Str → Option Value} {base : Heap} {c : Cs} (T : Txt K mg c) (D : DefIn K mg "check_bridges" s_check_bridges ["sea", "bridges"]) (h_wrong_places : DefO P w K mg base "wrong_places" 3 ["values", "many", "least", "most"] (m_wrong_places c)) (h_Sea_pairs : PropIn P w K mg base c.Sea "pairs" 1 (m_Sea_pairs c)) : DefO P w K mg base "check_bridges" 4 ["sea", "bridges"] (m_check_bridges c) := D.o fun f fd F => fk_check_bridges T h_wrong_places h_Sea_pairs F
abbrev s_index_pairs : Stmt := topS 25
abbrev n_index_pairs : List Str := ["many", "one", "other"]
theorem sc_index_pairs : FnScope n_index_pairs ["many"] (defScope s_index_pairs) := ⟨rfl, rfl, rfl, by decide +kernel, rfl, by decide +kernel, by decide +kernel⟩
def b_index_pairs (c : Cs) : DS → Fl :=
  (retS (compG true [1] [1, 2] (iR1 (aCons (var 0) aNil)) (innT (cst (.bl true)) (iR2 (aCons (fz (bin addD (var 1) (cst (.int 1)))) (aCons (var 0) aNil))) true [2] [2] (elemT (cst (.bl true)) (tupD (aCons (var 1) (aCons (var 2) aNil)))))))
def m_index_pairs (c : Cs) : List Sl → Fo := runD 1 3 (b_index_pairs c)
set_option maxRecDepth 100000 in
set_option maxHeartbeats 8000000 in
theorem fk_index_pairs {P : Program} {w : World} {K : Fr} {mg : Str → Option Value} {base : Heap} {c : Cs} (T : Txt K mg c)  {f : Addr} {fd : FuncData} (F : Fun K "index_pairs" "index_pairs" s_index_pairs f fd) : FnOk P w K mg base (L2.CX P w) 1 f fd ["many"] (spD K 1 (m_index_pairs c)) :=
  fn_O F sc_index_pairs fun cdv A outer s H E hr =>
  (svs_one (sv_ret (ev_comp2 (own := [("one", 1), ("other", 2)]) (vs1 := [2]) rfl sc_index_pairs.nd (iv_rng1 rfl T.b_range (av_cons (ev_var 0 (pv 0)) av_nil)) (blkOk_by (own := [("one", 1), ("other", 2)]) (N := n_index_pairs) (sc := defScope s_index_pairs) (by decide +kernel)) (by decide) (fun _ _ _ _ _ => (nv_name (i := 1) sc_index_pairs.nd rfl (by first | exact .inl rfl | exact .inr rfl))) (fun _ _ _ _ _ => cv_nil) (fun _ _ _ _ _ => (iv_rng2 rfl T.b_range (av_cons (EV.fz (ev_add (ev_var 1 (pv 1)) ev_int)) (av_cons (ev_var 0 (pv 0)) av_nil)))) (fun _ _ _ _ _ => (nv_name (i := 2) sc_index_pairs.nd rfl (by first | exact .inl rfl | exact .inr rfl))) (fun _ _ _ _ _ => cv_nil) (fun _ _ _ _ _ => (ev_tup (av_cons (ev_var 1 (pv 1)) (av_cons (ev_var 2 (pv 2)) av_nil)))))))
theorem ok_index_pairs {P : Program} {w : World} {K : Fr} {mg : Str → Option Value} {base : Heap} {c : Cs} (T : Txt K mg c) (D : DefIn K mg "index_pairs" s_index_pairs ["many"])  : DefO P w K mg base "index_pairs" 1 ["many"] (m_index_pairs c) := D.o fun f fd F => fk_index_pairs T  F
abbrev s_lots_of : Stmt := topS 26
abbrev n_lots_of : List Str := ["many"]
theorem sc_lots_of : FnScope n_lots_of ["many"] (defScope s_lots_of) := ⟨rfl, rfl, rfl, by decide +kernel, rfl, by decide +kernel, by decide +kernel⟩
def b_lots_of (c : Cs) : DS → Fl :=
  (retS (rngC (cst (.int 1)) (bin subD (bin shlD (cst (.int 1)) (var 0)) (cst (.int 1)))))
def m_lots_of (c : Cs) : List Sl → Fo := runD 1 1 (b_lots_of c)
set_option maxRecDepth 100000 in
set_option maxHeartbeats 8000000 in
theorem fk_lots_of {P : Program} {w : World} {K : Fr} {mg : Str → Option Value} {base : Heap} {c : Cs} (T : Txt K mg c)  {f : Addr} {fd : FuncData} (F : Fun K "lots_of" "lots_of" s_lots_of f fd) : FnOk P w K mg base (L2.CX P w) 1 f fd ["many"] (spD K 1 (m_lots_of c)) :=
  fn_O F sc_lots_of fun cdv A outer s H E hr =>
  (svs_one (sv_ret (ev_listRg rfl rfl T.b_list rfl T.b_range ev_int (ev_sub (ev_shl ev_int (ev_var 0 (pv 0))) ev_int))))
theorem ok_lots_of {P : Program} {w : World} {K : Fr} {mg : Str → Option Value} {base : Heap} {c : Cs} (T : Txt K mg c) (D : DefIn K mg "lots_of" s_lots_of ["many"])  : DefO P w K mg base "lots_of" 1 ["many"] (m_lots_of c) := D.o fun f fd F => fk_lots_of T  F
abbrev s_has : Stmt := topS 27
abbrev n_has : List Str := ["lot", "index"]
theorem sc_has : FnScope n_has ["lot", "index"] (defScope s_has) := ⟨rfl, rfl, rfl, by decide +kernel, rfl, by decide +kernel, by decide +kernel⟩
def b_has (c : Cs) : DS → Fl :=
  (retS (bin (eqD false) (bin andI (bin shrD (var 0) (var 1)) (cst (.int 1))) (cst (.int 1))))
def m_has (c : Cs) : List Sl → Fo := runD 2 2 (b_has c)
set_option maxRecDepth 100000 in
set_option maxHeartbeats 8000000 in
theorem fk_has {P : Program} {w : World} {K : Fr} {mg : Str → Option Value} {base : Heap} {c : Cs} (T : Txt K mg c)  {f : Addr} {fd : FuncData} (F : Fun K "has" "has" s_has f fd) : FnOk P w K mg base (L2.CX P w) 1 f fd ["lot", "index"] (spD K 2 (m_has c)) :=
  fn_O F sc_has fun cdv A outer s H E hr =>
  (svs_one (sv_ret (ev_eq hr (ev_band (ev_shr (ev_var 0 (pv 0)) (ev_var 1 (pv 1))) ev_int) ev_int)))
theorem ok_has {P : Program} {w : World} {K : Fr} {mg : Str → Option Value} {base : Heap} {c : Cs} (T : Txt K mg c) (D : DefIn K mg "has" s_has ["lot", "index"])  : DefO P w K mg base "has" 1 ["lot", "index"] (m_has c) := D.o fun f fd F => fk_has T  F
abbrev s_parts : Stmt := topS 28
abbrev n_parts : List Str := ["lot", "one", "other"]
theorem sc_parts : FnScope n_parts ["lot", "one", "other"] (defScope s_parts) := ⟨rfl, rfl, rfl, by decide +kernel, rfl, by decide +kernel, by decide +kernel⟩
def b_parts (c : Cs) : DS → Fl :=
  (retS (bin (eqD true) (fz (callD 2 (m_has c) (aCons (var 0) (aCons (var 1) aNil)))) (fz (callD 2 (m_has c) (aCons (var 0) (aCons (var 2) aNil))))))
def m_parts (c : Cs) : List Sl → Fo := runD 3 3 (b_parts c)
set_option maxRecDepth 100000 in
set_option maxHeartbeats 8000000 in
theorem fk_parts {P : Program} {w : World} {K : Fr} {mg : Str → Option Value} {base : Heap} {c : Cs} (T : Txt K mg c) (h_has : DefO P w K mg base "has" 1 ["lot", "index"] (m_has c)) {f : Addr} {fd : FuncData} (F : Fun K "parts" "parts" s_parts f fd) : FnOk P w K mg base (L2.CX P w) 2 f fd ["lot", "one", "other"] (spD K 3 (m_parts c)) :=
  fn_O F sc_parts fun cdv A outer s H E hr =>
  (svs_one (sv_ret (ev_ne hr (EV.fz (ev_callO h_has rfl (hr.mono (by decide)) (takes_of rfl rfl rfl rfl) rfl (av_cons (ev_var 0 (pv 0)) (av_cons (ev_var 1 (pv 1)) av_nil)))) (EV.fz (ev_callO h_has rfl (hr.mono (by decide)) (takes_of rfl rfl rfl rfl) rfl (av_cons (ev_var 0 (pv 0)) (av_cons (ev_var 2 (pv 2)) av_nil)))))))
theorem ok_parts {P : Program} {w : World} {K : Fr} {mg : Str → Option Value} {base : Heap} {c : Cs} (T : Txt K mg c) (D : DefIn K mg "parts" s_parts ["lot", "one", "other"]) (h_has : DefO P w K mg base "has" 1 ["lot", "index"] (m_has c)) : DefO P w K mg base "parts" 2 ["lot", "one", "other"] (m_parts c) := D.o fun f fd F => fk_parts T h_has F
abbrev s_indexes_in : Stmt := topS 29
abbrev n_indexes_in : List Str := ["many", "lot", "index"]
theorem sc_indexes_in : FnScope n_indexes_in ["many", "lot"] (defScope s_indexes_in) := ⟨rfl, rfl, rfl, by decide +kernel, rfl, by decide +kernel, by decide +kernel⟩
def b_indexes_in (c : Cs) : DS → Fl :=
  (retS (liftL tupC (aCons (fz (compD true [2] [2] (iR1 (aCons (var 0) aNil)) (fz (callD 2 (m_has c) (aCons (var 1) (aCons (var 2) aNil)))) (var 2))) aNil)))
def m_indexes_in (c : Cs) : List Sl → Fo := runD 2 3 (b_indexes_in c)
set_option maxRecDepth 100000 in
set_option maxHeartbeats 8000000 in
theorem fk_indexes_in {P : Program} {w : World} {K : Fr} {mg : Str → Option Value} {base : Heap} {c : Cs} (T : Txt K mg c) (h_has : DefO P w K mg base "has" 1 ["lot", "index"] (m_has c)) {f : Addr} {fd : FuncData} (F : Fun K "indexes_in" "indexes_in" s_indexes_in f fd) : FnOk P w K mg base (L2.CX P w) 2 f fd ["many", "lot"] (spD K 2 (m_indexes_in c)) :=
  fn_O F sc_indexes_in fun cdv A outer s H E hr =>
  (svs_one (sv_ret (ev_tupC rfl T.b_tuple (av_cons (EV.fz (ev_comp (own := [("index", 2)]) rfl sc_indexes_in.nd (iv_rng1 rfl T.b_range (av_cons (ev_var 0 (pv 0)) av_nil)) (blkOk_by (own := [("index", 2)]) (N := n_indexes_in) (sc := defScope s_indexes_in) (by decide +kernel)) (fun _ _ _ _ _ => (nv_name (i := 2) sc_indexes_in.nd rfl (by first | exact .inl rfl | exact .inr rfl))) (fun _ _ _ _ _ => (cv_one (EV.tv (EV.fz (ev_callO h_has rfl (hr.mono (by decide)) takesW0 rfl (av_cons (ev_var 1 (pv 1)) (av_cons (ev_var 2 (pv 2)) av_nil))))))) (fun _ _ _ _ _ => (ev_var 2 (pv 2))))) av_nil))))
theorem ok_indexes_in {P : Program} {w : World} {K : Fr} {mg : Str → Option Value} {base : Heap} {c : Cs} (T : Txt K mg c) (D : DefIn K mg "indexes_in" s_indexes_in ["many", "lot"]) (h_has : DefO P w K mg base "has" 1 ["lot", "index"] (m_has c)) : DefO P w K mg base "indexes_in" 2 ["many", "lot"] (m_indexes_in c) := D.o fun f fd F => fk_indexes_in T h_has F
abbrev s_in_order : Stmt := topS 30
abbrev n_in_order : List Str := ["tuples"]
theorem sc_in_order : FnScope n_in_order ["tuples"] (defScope s_in_order) := ⟨rfl, rfl, rfl, by decide +kernel, rfl, by decide +kernel, by decide +kernel⟩
noncomputable def b_in_order (c : Cs) : DS → Fl :=
  (retS (sortLN (var 0)))
noncomputable def m_in_order (c : Cs) : List Sl → Fo := runD 1 1 (b_in_order c)
set_option maxRecDepth 100000 in
set_option maxHeartbeats 8000000 in
theorem fk_in_order {P : Program} {w : World} {K : Fr} {mg : Str → Option Value} {base : Heap} {c : Cs} (T : Txt K mg c) {cd_in_order P_in_order : Addr} (tb_in_order : LamIn mg base cd_in_order P_in_order "in_order.<locals>.<lambda>")  {f : Addr} {fd : FuncData} (F : Fun K "in_order" "in_order" s_in_order f fd) (hcd : fd.code = .ref cd_in_order) : FnOk P w K mg base (L2.CX P w) 4 f fd ["tuples"] (spD K 1 (m_in_order c)) :=
  fn_Oc F hcd sc_in_order fun A outer s H E hr =>
  (svs_one (sv_ret (ev_sortLN (k := 0) (a := "indexes") (hr.mono (by decide) : Room (0 + 3) _) rfl T.b_sorted T.b_len tb_in_order.tb rfl tb_in_order.has tb_in_order.nm (lamS1_by (by kernel_rfl)) (ev_var 0 (pv 0)))))
theorem ok_in_order {P : Program} {w : World} {K : Fr} {mg : Str → Option Value} {base : Heap} {c : Cs} (T : Txt K mg c) {cd_in_order P_in_order : Addr} (tb_in_order : LamIn mg base cd_in_order P_in_order "in_order.<locals>.<lambda>") (D : DefInC K mg "in_order" s_in_order ["tuples"] cd_in_order)  : DefO P w K mg base "in_order" 4 ["tuples"] (m_in_order c) := D.o fun f fd F hcd => fk_in_order T tb_in_order  F hcd
abbrev s_leading_out : Stmt := topS 31
abbrev n_leading_out : List Str := ["many", "bridges", "out", "one", "other", "number", "lot"]
theorem sc_leading_out : FnScope n_leading_out ["many", "bridges"] (defScope s_leading_out) := ⟨rfl, rfl, rfl, by decide +kernel, rfl, by decide +kernel, by decide +kernel⟩
def b_leading_out (c : Cs) : DS → Fl :=
  (seqS (asgS 2 (bin mulD (fz (lstD (aCons (cst (.int 0)) aNil))) (bin shlD (cst (.int 1)) (var 0))))
  (seqS (forS (iZp (aCons (fz (callD 1 (m_index_pairs c) (aCons (var 0) aNil))) (aCons (var 1) aNil))) (tupG [(tupG [(nameG 3), (nameG 4)]), (nameG 5)]) (forS (iLst (fz (callD 1 (m_lots_of c) (aCons (var 0) aNil)))) (nameG 6) (ifS (fz (callD 3 (m_parts c) (aCons (var 6) (aCons (var 3) (aCons (var 4) aNil))))) (augS 2 (var 6) (var 5)) skipS)))
  (retMov 2)))
def m_leading_out (c : Cs) : List Sl → Fo := runD 2 7 (b_leading_out c)
set_option maxRecDepth 100000 in
set_option maxHeartbeats 8000000 in
theorem fk_leading_out {P : Program} {w : World} {K : Fr} {mg : Str → Option Value} {base : Heap} {c : Cs} (T : Txt K mg c) (h_index_pairs : DefO P w K mg base "index_pairs" 1 ["many"] (m_index_pairs c)) (h_lots_of : DefO P w K mg base "lots_of" 1 ["many"] (m_lots_of c)) (h_parts : DefO P w K mg base "parts" 2 ["lot", "one", "other"] (m_parts c)) {f : Addr} {fd : FuncData} (F : Fun K "leading_out" "leading_out" s_leading_out f fd) : FnOk P w K mg base (L2.CX P w) 3 f fd ["many", "bridges"] (spD K 2 (m_leading_out c)) :=
  fn_O F sc_leading_out fun cdv A outer s H E hr =>
  (svs_cons (sv_asg (i := 2) sc_leading_out.nd rfl (by first | exact .inl rfl | exact .inr rfl) (ev_mul (EV.fz (ev_lst (av_cons ev_int av_nil))) (ev_shl ev_int (ev_var 0 (pv 0)))))
  (svs_cons (sv_for (passes_of rfl) rfl (iv_zip rfl T.b_zip (av_cons (EV.fz (ev_callO h_index_pairs rfl (hr.mono (by decide)) (takes_of rfl rfl rfl rfl) rfl (av_cons (ev_var 0 (pv 0)) av_nil))) (av_cons (ev_var 1 (pv 1)) av_nil))) (gv_tup rfl (gvs_cons (gv_tup rfl (gvs_cons (gv_name (i := 3) sc_leading_out.nd rfl (by first | exact .inl rfl | exact .inr rfl)) (gvs_cons (gv_name (i := 4) sc_leading_out.nd rfl (by first | exact .inl rfl | exact .inr rfl)) gvs_nil))) (gvs_cons (gv_name (i := 5) sc_leading_out.nd rfl (by first | exact .inl rfl | exact .inr rfl)) gvs_nil))) (svs_one (sv_for (passes_of rfl) rfl (iv_list (EV.fz (ev_callO h_lots_of rfl (hr.mono (by decide)) (takes_of rfl rfl rfl rfl) rfl (av_cons (ev_var 0 (pv 0)) av_nil)))) (gv_name (i := 6) sc_leading_out.nd rfl (by first | exact .inl rfl | exact .inr rfl)) (svs_one (sv_if (EV.tv (EV.fz (ev_callO h_parts rfl (hr.mono (by decide)) (takes_of rfl rfl rfl rfl) rfl (av_cons (ev_var 6 (pv 6)) (av_cons (ev_var 3 (pv 3)) (av_cons (ev_var 4 (pv 4)) av_nil)))))) (svs_one (sv_aug 2 (pv 2) (ev_var 6 (pv 6)) (ev_var 5 (pv 5)))) svs_nil)))))
  (svs_one (sv_retMov 2 (pv 2)))))
theorem ok_leading_out {P : Program} {w : World} {K : Fr} {mg : Str → Option Value} {base : Heap} {c : Cs} (T : Txt K mg c) (D : DefIn K mg "leading_out" s_leading_out ["many", "bridges"]) (h_index_pairs : DefO P w K mg base "index_pairs" 1 ["many"] (m_index_pairs c)) (h_lots_of : DefO P w K mg base "lots_of" 1 ["many"] (m_lots_of c)) (h_parts : DefO P w K mg base "parts" 2 ["lot", "one", "other"] (m_parts c)) : DefO P w K mg base "leading_out" 3 ["many", "bridges"] (m_leading_out c) := D.o fun f fd F => fk_leading_out T h_index_pairs h_lots_of h_parts F
abbrev s_least_cuts : Stmt := topS 33
abbrev n_least_cuts : List Str := ["sea", "bridges", "many", "out", "least", "cuts", "lot", "indexes", "index"]
theorem sc_least_cuts : FnScope n_least_cuts ["sea", "bridges"] (defScope s_least_cuts) := ⟨rfl, rfl, rfl, by decide +kernel, rfl, by decide +kernel, by decide +kernel⟩
noncomputable def b_least_cuts (c : Cs) : DS → Fl :=
  (seqS (expS (fz (callD 1 (m_check_sea c) (aCons (var 0) aNil))))
  (seqS (expS (fz (callD 2 (m_check_bridges c) (aCons (var 0) (aCons (var 1) aNil)))))
  (seqS (asgS 2 (ownB c.Sea (m_Sea_len c) isLen (var 0)))
  (seqS (asgS 3 (fz (callD 2 (m_leading_out c) (aCons (var 2) (aCons (var 1) aNil)))))
  (seqS (asgS 4 (liftL minC (aCons (fz (compD true [6] [6] (iLst (fz (callD 1 (m_lots_of c) (aCons (var 2) aNil)))) (cst (.bl true)) (bin ixD (var 3) (var 6)))) aNil)))
  (seqS (asgS 5 (fz (compD true [6] [6] (iLst (fz (callD 1 (m_lots_of c) (aCons (var 2) aNil)))) (andD (fz (callD 2 (m_has c) (aCons (var 6) (aCons (cst (.int 0)) aNil)))) (bin (eqD false) (bin ixD (var 3) (var 6)) (var 4))) (fz (callD 2 (m_indexes_in c) (aCons (var 2) (aCons (var 6) aNil)))))))
  (retS (liftL tupC (aCons (fz (compD true [7] [7] (iLst (fz (callD 1 (m_in_order c) (aCons (var 5) aNil)))) (cst (.bl true)) (liftL tupC (aCons (fz (compD true [8] [8] (iTpl (var 7)) (cst (.bl true)) (bin ixD (wk (fz (propD c.Sea (m_Sea_islands c) (var 0)))) (var 8)))) aNil)))) aNil)))))))))
noncomputable def m_least_cuts (c : Cs) : List Sl → Fo := runD 2 9 (b_least_cuts c)
set_option maxRecDepth 100000 in
set_option maxHeartbeats 8000000 in
theorem fk_least_cuts {P : Program} {w : World} {K : Fr} {mg : Str → Option Value} {base : Heap} {c : Cs} (T : Txt K mg c) (h_check_sea : DefO P w K mg base "check_sea" 1 ["sea"] (m_check_sea c)) (h_check_bridges : DefO P w K mg base "check_bridges" 4 ["sea", "bridges"] (m_check_bridges c)) (h_Sea_len : MetOk P w K mg base c.Sea "__len__" 1 1 (m_Sea_len c)) (h_leading_out : DefO P w K mg base "leading_out" 3 ["many", "bridges"] (m_leading_out c)) (h_lots_of : DefO P w K mg base "lots_of" 1 ["many"] (m_lots_of c)) (h_has : DefO P w K mg base "has" 1 ["lot", "index"] (m_has c)) (h_indexes_in : DefO P w K mg base "indexes_in" 2 ["many", "lot"] (m_indexes_in c)) (h_in_order : DefO P w K mg base "in_order" 4 ["tuples"] (m_in_order c)) (h_Sea_islands : PropIn P w K mg base c.Sea "islands" 1 (m_Sea_islands c)) {f : Addr} {fd : FuncData} (F : Fun K "least_cuts" "least_cuts" s_least_cuts f fd) : FnOk P w K mg base (L2.CX P w) 5 f fd ["sea", "bridges"] (spD K 2 (m_least_cuts c)) :=
  fn_O F sc_least_cuts fun cdv A outer s H E hr =>
  (svs_cons (sv_exp (EV.fz (ev_callO h_check_sea rfl (hr.mono (by decide)) (takes_of rfl rfl rfl rfl) rfl (av_cons (ev_var 0 (pv 0)) av_nil))))
  (svs_cons (sv_exp (EV.fz (ev_callO h_check_bridges rfl (hr.mono (by decide)) (takes_of rfl rfl rfl rfl) rfl (av_cons (ev_var 0 (pv 0)) (av_cons (ev_var 1 (pv 1)) av_nil)))))
  (svs_cons (sv_asg (i := 2) sc_least_cuts.nd rfl (by first | exact .inl rfl | exact .inr rfl) (ev_lenI h_Sea_len (hr.mono (by decide)) rfl T.b_len (ev_var 0 (pv 0))))
  (svs_cons (sv_asg (i := 3) sc_least_cuts.nd rfl (by first | exact .inl rfl | exact .inr rfl) (EV.fz (ev_callO h_leading_out rfl (hr.mono (by decide)) (takes_of rfl rfl rfl rfl) rfl (av_cons (ev_var 2 (pv 2)) (av_cons (ev_var 1 (pv 1)) av_nil)))))
  (svs_cons (sv_asg (i := 4) sc_least_cuts.nd rfl (by first | exact .inl rfl | exact .inr rfl) (ev_min1 rfl rfl T.b_min (av_cons (EV.fz (ev_comp (own := [("lot", 6)]) rfl sc_least_cuts.nd (iv_list (EV.fz (ev_callO h_lots_of rfl (hr.mono (by decide)) (takes_of rfl rfl rfl rfl) rfl (av_cons (ev_var 2 (pv 2)) av_nil)))) (blkOk_by (own := [("lot", 6)]) (N := n_least_cuts) (sc := defScope s_least_cuts) (by decide +kernel)) (fun _ _ _ _ _ => (nv_name (i := 6) sc_least_cuts.nd rfl (by first | exact .inl rfl | exact .inr rfl))) (fun _ _ _ _ _ => cv_nil) (fun _ _ _ _ _ => (ev_ix (ev_var 3 (pv 3)) (ev_var 6 (pv 6)))))) av_nil)))
  (svs_cons (sv_fzL (sv_setLc (own := [("lot", 6)]) (i := 5) rfl sc_least_cuts.nd rfl rfl (sw_true rfl rfl rfl rfl) (iv_list (EV.fz (ev_callO h_lots_of rfl (hr.mono (by decide)) (takes_of rfl rfl rfl rfl) rfl (av_cons (ev_var 2 (pv 2)) av_nil)))) (blkOk_by (own := [("lot", 6)]) (N := n_least_cuts) (sc := defScope s_least_cuts) (by decide +kernel)) (fun _ _ _ _ _ => (nv_name (i := 6) sc_least_cuts.nd rfl (by first | exact .inl rfl | exact .inr rfl))) (fun _ _ _ _ _ => (cv_one (TW.tv (tw_and (EV.tv (EV.fz (ev_callO h_has rfl (hr.mono (by decide)) takesW0 rfl (av_cons (ev_var 6 (pv 6)) (av_cons ev_int av_nil))))) (tw_one (tv_eq hr (ev_ix (ev_var 3 (pv 3)) (ev_var 6 (pv 6))) (ev_var 4 (pv 4)))))))) (fun _ _ _ _ _ => (EV.fz (ev_callO h_indexes_in rfl (hr.mono (by decide)) takesW0 rfl (av_cons (ev_var 2 (pv 2)) (av_cons (ev_var 6 (pv 6)) av_nil)))))))
  (svs_one (sv_ret (ev_tupC rfl T.b_tuple (av_cons (EV.fz (ev_comp (own := [("indexes", 7)]) rfl sc_least_cuts.nd (iv_list (EV.fz (ev_callO h_in_order rfl (hr.mono (by decide)) (takes_of rfl rfl rfl rfl) rfl (av_cons (ev_var 5 (pv 5)) av_nil)))) (blkOk_by (own := [("indexes", 7)]) (N := n_least_cuts) (sc := defScope s_least_cuts) (by decide +kernel)) (fun _ _ _ _ _ => (nv_name (i := 7) sc_least_cuts.nd rfl (by first | exact .inl rfl | exact .inr rfl))) (fun _ _ _ _ _ => cv_nil) (fun _ _ _ _ _ => (ev_tupC rfl T.b_tuple (av_cons (EV.fz (ev_comp (own := [("index", 8)]) rfl sc_least_cuts.nd (iv_tup (ev_var 7 (pv 7))) (blkOk_by (own := [("index", 8)]) (by kernel_rfl)) (fun _ _ _ _ _ => (nv_name (i := 8) sc_least_cuts.nd rfl (by first | exact .inl rfl | exact .inr rfl))) (fun _ _ _ _ _ => cv_nil) (fun _ _ _ _ _ => (ev_ix (EV.wk (EV.fz (ev_prop T.cl_Sea h_Sea_islands (hr.mono (by decide)) (ev_var 0 (pv 0))))) (ev_var 8 (pv 8)))))) av_nil))))) av_nil))))))))))
theorem ok_least_cuts {P : Program} {w : World} {K : Fr} {mg : Str → Option Value} {base : Heap} {c : Cs} (T : Txt K mg c) (D : DefIn K mg "least_cuts" s_least_cuts ["sea", "bridges"]) (h_check_sea : DefO P w K mg base "check_sea" 1 ["sea"] (m_check_sea c)) (h_check_bridges : DefO P w K mg base "check_bridges" 4 ["sea", "bridges"] (m_check_bridges c)) (h_Sea_len : MetOk P w K mg base c.Sea "__len__" 1 1 (m_Sea_len c)) (h_leading_out : DefO P w K mg base "leading_out" 3 ["many", "bridges"] (m_leading_out c)) (h_lots_of : DefO P w K mg base "lots_of" 1 ["many"] (m_lots_of c)) (h_has : DefO P w K mg base "has" 1 ["lot", "index"] (m_has c)) (h_indexes_in : DefO P w K mg base "indexes_in" 2 ["many", "lot"] (m_indexes_in c)) (h_in_order : DefO P w K mg base "in_order" 4 ["tuples"] (m_in_order c)) (h_Sea_islands : PropIn P w K mg base c.Sea "islands" 1 (m_Sea_islands c)) : DefO P w K mg base "least_cuts" 5 ["sea", "bridges"] (m_least_cuts c) := D.o fun f fd F => fk_least_cuts T h_check_sea h_check_bridges h_Sea_len h_leading_out h_lots_of h_has h_indexes_in h_in_order h_Sea_islands F
abbrev s_reel : Stmt := topS 35
abbrev n_reel : List Str := ["script", "turn", "stirred", "cell", "own"]
theorem sc_reel : FnScope n_reel ["script", "turn"] (defScope s_reel) := ⟨rfl, rfl, rfl, by decide +kernel, rfl, by decide +kernel, by decide +kernel⟩
def b_reel (c : Cs) : DS → Fl :=
  (seqS (asgS 2 (bin addD (cst (.int 70001)) (bin mulD (cst (.int 613)) (var 1))))
  (seqS (forS (iLst (fz (sliceD (var 0) (cst .non) (intO (cst (.int 5)))))) (nameG 3) (asgS 2 (bin modD (liftL intC (aCons (bin addD (bin mulD (var 2) (cst (.int 52361))) (var 3)) aNil)) (cst (.int 2147483543)))))
  (seqS (asgS 4 (iteD (bin ltD (var 1) (liftL lenD (aCons (var 0) aNil))) (bin ixD (var 0) (var 1)) (bin addD (bin mulD (cst (.int 11)) (var 1)) (cst (.int 4)))))
  (retS (lstD (aCons (bin modD (liftL intC (aCons (bin addD (bin addD (bin mulD (var 2) (cst (.int 23))) (bin mulD (var 4) (cst (.int 41)))) (cst (.int 9))) aNil)) (cst (.int 2147483543))) (aCons (iteD (bin geD (liftL absC (aCons (var 4) aNil)) (bin powD (cst (.int 10)) (cst (.int 17)))) (liftL absC (aCons (var 4) aNil)) (cst (.int 0))) (aCons (cst (.int 0)) aNil))))))))
def m_reel (c : Cs) : List Sl → Fo := runD 2 5 (b_reel c)
set_option maxRecDepth 100000 in
set_option maxHeartbeats 8000000 in
theorem ok_reel {P : Program} {w : World} {K : Fr} {mg : Str → Option Value} {base : Heap} {c : Cs} (T : Txt K mg c) (D : DefIn K mg "_law_reel" s_reel ["script", "turn"])  : DefOk P w K mg base "_law_reel" 1 ["script", "turn"] (m_reel c) :=
  D.ok fun f fd F => fn_D F sc_reel fun cdv A outer s H E hr gd =>
  (svs_cons (sv_asg (i := 2) sc_reel.nd rfl (by first | exact .inl rfl | exact .inr rfl) (ev_add ev_int (ev_mul ev_int (ev_var 1 (pv 1)))))
  (svs_cons (sv_for (passes_of rfl) rfl (iv_list (EV.fz (ev_slice (ev_var 0 (pv 0)) ov_none (ov_some ev_int)))) (gv_name (i := 3) sc_reel.nd rfl (by first | exact .inl rfl | exact .inr rfl)) (svs_one (sv_asg (i := 2) sc_reel.nd rfl (by first | exact .inl rfl | exact .inr rfl) (ev_mod (ev_intC rfl T.b_int (av_cons (ev_add (ev_mul (ev_var 2 (pv 2)) ev_int) (ev_var 3 (pv 3))) av_nil)) ev_int))))
  (svs_cons (sv_asg (i := 4) sc_reel.nd rfl (by first | exact .inl rfl | exact .inr rfl) (ev_ife (tv_lt (ev_var 1 (pv 1)) (ev_len rfl T.b_len (av_cons (ev_var 0 (pv 0)) av_nil))) (ev_ix (ev_var 0 (pv 0)) (ev_var 1 (pv 1))) (ev_add (ev_mul ev_int (ev_var 1 (pv 1))) ev_int)))
  (svs_one (sv_ret (ev_lst (av_cons (ev_mod (ev_intC rfl T.b_int (av_cons (ev_add (ev_add (ev_mul (ev_var 2 (pv 2)) ev_int) (ev_mul (ev_var 4 (pv 4)) ev_int)) ev_int) av_nil)) ev_int) (av_cons (ev_ife (tv_ge (ev_abs rfl T.b_abs (av_cons (ev_var 4 (pv 4)) av_nil)) (ev_pow ev_int ev_int)) (ev_abs rfl T.b_abs (av_cons (ev_var 4 (pv 4)) av_nil)) ev_int) (av_cons ev_int av_nil)))))))))
abbrev s_upto : Stmt := topS 36
abbrev n_upto : List Str := ["reel", "many", "stirred", "figure"]
theorem sc_upto : FnScope n_upto ["reel", "many"] (defScope s_upto) := ⟨rfl, rfl, rfl, by decide +kernel, rfl, by decide +kernel, by decide +kernel⟩
def b_upto (c : Cs) : DS → Fl :=
  (seqS (ifS (bin gtD (bin ixD (var 0) (cst (.int 1))) (cst (.int 0))) (seqS (asgT (liftL divW (aCons (bin ixD (var 0) (cst (.int 1))) (aCons (var 1) aNil))) (tupG [(subG 0 (cst (.int 1))), (nameG 3)]))
  (retS (var 3))) skipS)
  (seqS (asgT (fz (bin addD (bin ixD (var 0) (cst (.int 2))) (cst (.int 1)))) (subG 0 (cst (.int 2))))
  (seqS (asgS 2 (bin modD (liftL intC (aCons (fz (bin addD (fz (bin addD (fz (bin mulD (bin ixD (var 0) (cst (.int 0))) (cst (.int 48119)))) (fz (bin mulD (fz (bin mulD (bin ixD (var 0) (cst (.int 2))) (bin ixD (var 0) (cst (.int 2))))) (cst (.int 31)))))) (cst (.int 5)))) aNil)) (cst (.int 2147483543))))
  (seqS (asgT (bin modD (liftL intC (aCons (bin addD (bin mulD (var 2) (bin addD (cst (.int 25013)) (bin modD (liftL intC (aCons (var 2) aNil)) (cst (.int 7001))))) (cst (.int 3))) aNil)) (cst (.int 2147483579))) (subG 0 (cst (.int 0))))
  (retS (bin modD (liftL intC (aCons (bin fdivD (bin ixD (var 0) (cst (.int 0))) (cst (.int 128))) aNil)) (var 1)))))))
def m_upto (c : Cs) : List Sl → Fo := runD 2 4 (b_upto c)
set_option maxRecDepth 100000 in
set_option maxHeartbeats 8000000 in
theorem ok_upto {P : Program} {w : World} {K : Fr} {mg : Str → Option Value} {base : Heap} {c : Cs} (T : Txt K mg c) (D : DefIn K mg "_law_upto" s_upto ["reel", "many"])  : DefOk P w K mg base "_law_upto" 1 ["reel", "many"] (m_upto c) :=
  D.ok fun f fd F => fn_D F sc_upto fun cdv A outer s H E hr gd =>
  (svs_cons (sv_if (tv_gt (ev_ix (ev_var 0 (pv 0)) ev_int) ev_int) (svs_cons (sv_asgT (ev_divW rfl T.b_divmod (av_cons (ev_ix (ev_var 0 (pv 0)) ev_int) (av_cons (ev_var 1 (pv 1)) av_nil))) (gv_tup rfl (gvs_cons (gv_sub 0 (pv 0) ev_int (by intro C fs S S' z; first | cases z | (unfold var at z; split at z <;> cases z))) (gvs_cons (gv_name (i := 3) sc_upto.nd rfl (by first | exact .inl rfl | exact .inr rfl)) gvs_nil))))
  (svs_one (sv_ret (ev_var 3 (pv 3))))) svs_nil)
  (svs_cons (sv_asgT (EV.fz (ev_add (ev_ix (ev_var 0 (pv 0)) ev_int) ev_int)) (gv_sub 0 (pv 0) ev_int (by intro C fs S S' z; first | cases z | (unfold var at z; split at z <;> cases z))))
  (svs_cons (sv_asg (i := 2) sc_upto.nd rfl (by first | exact .inl rfl | exact .inr rfl) (ev_mod (ev_intC rfl T.b_int (av_cons (EV.fz (ev_add (EV.fz (ev_add (EV.fz (ev_mul (ev_ix (ev_var 0 (pv 0)) ev_int) ev_int)) (EV.fz (ev_mul (EV.fz (ev_mul (ev_ix (ev_var 0 (pv 0)) ev_int) (ev_ix (ev_var 0 (pv 0)) ev_int))) ev_int)))) ev_int)) av_nil)) ev_int))
  (svs_cons (sv_asgT (ev_mod (ev_intC rfl T.b_int (av_cons (ev_add (ev_mul (ev_var 2 (pv 2)) (ev_add ev_int (ev_mod (ev_intC rfl T.b_int (av_cons (ev_var 2 (pv 2)) av_nil)) ev_int))) ev_int) av_nil)) ev_int) (gv_sub 0 (pv 0) ev_int (by intro C fs S S' z; first | cases z | (unfold var at z; split at z <;> cases z))))
  (svs_one (sv_ret (ev_mod (ev_intC rfl T.b_int (av_cons (ev_fdiv (ev_ix (ev_var 0 (pv 0)) ev_int) ev_int) av_nil)) (ev_var 1 (pv 1)))))))))
abbrev s_pick : Stmt := topS 37
abbrev n_pick : List Str := ["reel", "menu"]
theorem sc_pick : FnScope n_pick ["reel", "menu"] (defScope s_pick) := ⟨rfl, rfl, rfl, by decide +kernel, rfl, by decide +kernel, by decide +kernel⟩
def b_pick (c : Cs) : DS → Fl :=
  (retS (bin ixD (var 1) (fz (callD 2 (m_upto c) (aCons (var 0) (aCons (liftL lenD (aCons (var 1) aNil)) aNil))))))
def m_pick (c : Cs) : List Sl → Fo := runD 2 2 (b_pick c)
set_option maxRecDepth 100000 in
set_option maxHeartbeats 8000000 in
theorem ok_pick {P : Program} {w : World} {K : Fr} {mg : Str → Option Value} {base : Heap} {c : Cs} (T : Txt K mg c) (D : DefIn K mg "_law_pick" s_pick ["reel", "menu"]) (h_upto : DefOk P w K mg base "_law_upto" 1 ["reel", "many"] (m_upto c)) : DefOk P w K mg base "_law_pick" 2 ["reel", "menu"] (m_pick c) :=
  D.ok fun f fd F => fn_D F sc_pick fun cdv A outer s H E hr gd =>
  (svs_one (sv_ret (ev_ix (ev_var 1 (pv 1)) (EV.fz (ev_callQ h_upto rfl (hr.mono (by decide)) gd (takes_of rfl rfl rfl rfl) rfl (av_cons (ev_var 0 (pv 0)) (av_cons (ev_len rfl T.b_len (av_cons (ev_var 1 (pv 1)) av_nil)) av_nil)))))))
abbrev s_title : Stmt := topS 38
abbrev n_title : List Str := ["reel", "letters", "found", "turn"]
theorem sc_title : FnScope n_title ["reel"] (defScope s_title) := ⟨rfl, rfl, rfl, by decide +kernel, rfl, by decide +kernel, by decide +kernel⟩
def b_title (c : Cs) : DS → Fl :=
  (seqS (ifS (bin (eqD false) (fz (callD 2 (m_upto c) (aCons (var 0) (aCons (cst (.int 4)) aNil)))) (cst (.int 0))) (retS (callD 2 (m_pick c) (aCons (var 0) (aCons (fz (lstD (aCons (cst (.str "islands")) (aCons (cst (.str "island")) (aCons (cst (.str "sea")) (aCons (cst (.str "way")) (aCons (cst (.str "in")) (aCons (cst (.str "out")) (aCons (cst (.str "a")) (aCons (cst (.str "b")) aNil)))))))))) aNil)))) skipS)
  (seqS (asgS 1 (cst (.str "abcdefghijklmnopqrstuvwxyz")))
  (seqS (asgS 2 (fz (callD 2 (m_pick c) (aCons (var 0) (aCons (var 1) aNil)))))
  (seqS (forS (iR1 (aCons (fz (callD 2 (m_pick c) (aCons (var 0) (aCons (fz (lstD (aCons (cst (.int 0)) (aCons (cst (.int 0)) (aCons (cst (.int 1)) (aCons (cst (.int 2)) (aCons (cst (.int 7)) aNil))))))) aNil)))) aNil)) (nameG 3) (asgS 2 (bin addD (var 2) (fz (callD 2 (m_pick c) (aCons (var 0) (aCons (bin addD (var 1) (cst (.str "0123456789"))) aNil)))))))
  (retS (var 2))))))
def m_title (c : Cs) : List Sl → Fo := runD 1 4 (b_title c)
set_option maxRecDepth 100000 in
set_option maxHeartbeats 8000000 in
theorem ok_title {P : Program} {w : World} {K : Fr} {mg : Str → Option Value} {base : Heap} {c : Cs} (T : Txt K mg c) (D : DefIn K mg "_law_title" s_title ["reel"]) (h_upto : DefOk P w K mg base "_law_upto" 1 ["reel", "many"] (m_upto c)) (h_pick : DefOk P w K mg base "_law_pick" 2 ["reel", "menu"] (m_pick c)) : DefOk P w K mg base "_law_title" 3 ["reel"] (m_title c) :=
  D.ok fun f fd F => fn_D F sc_title fun cdv A outer s H E hr gd =>
  (svs_cons (sv_if (tv_eq hr (EV.fz (ev_callQ h_upto rfl (hr.mono (by decide)) gd (takes_of rfl rfl rfl rfl) rfl (av_cons (ev_var 0 (pv 0)) (av_cons ev_int av_nil)))) ev_int) (svs_one (sv_ret (ev_callQ h_pick rfl (hr.mono (by decide)) gd (takes_of rfl rfl rfl rfl) rfl (av_cons (ev_var 0 (pv 0)) (av_cons (EV.fz (ev_lst (av_cons ev_str (av_cons ev_str (av_cons ev_str (av_cons ev_str (av_cons ev_str (av_cons ev_str (av_cons ev_str (av_cons ev_str av_nil)))))))))) av_nil))))) svs_nil)
  (svs_cons (sv_asg (i := 1) sc_title.nd rfl (by first | exact .inl rfl | exact .inr rfl) ev_str)
  (svs_cons (sv_asg (i := 2) sc_title.nd rfl (by first | exact .inl rfl | exact .inr rfl) (EV.fz (ev_callQ h_pick rfl (hr.mono (by decide)) gd (takes_of rfl rfl rfl rfl) rfl (av_cons (ev_var 0 (pv 0)) (av_cons (ev_var 1 (pv 1)) av_nil)))))
  (svs_cons (sv_for (passes_of rfl) rfl (iv_rng1 rfl T.b_range (av_cons (EV.fz (ev_callQ h_pick rfl (hr.mono (by decide)) gd (takes_of rfl rfl rfl rfl) rfl (av_cons (ev_var 0 (pv 0)) (av_cons (EV.fz (ev_lst (av_cons ev_int (av_cons ev_int (av_cons ev_int (av_cons ev_int (av_cons ev_int av_nil))))))) av_nil)))) av_nil)) (gv_name (i := 3) sc_title.nd rfl (by first | exact .inl rfl | exact .inr rfl)) (svs_one (sv_asg (i := 2) sc_title.nd rfl (by first | exact .inl rfl | exact .inr rfl) (ev_add (ev_var 2 (pv 2)) (EV.fz (ev_callQ h_pick rfl (hr.mono (by decide)) gd (takes_of rfl rfl rfl rfl) rfl (av_cons (ev_var 0 (pv 0)) (av_cons (ev_add (ev_var 1 (pv 1)) ev_str) av_nil))))))))
  (svs_one (sv_ret (ev_var 2 (pv 2))))))))
abbrev s_titles : Stmt := topS 39
abbrev n_titles : List Str := ["reel", "many", "found", "turn", "fresh", "spare", "each", "k"]
theorem sc_titles : FnScope n_titles ["reel", "many"] (defScope s_titles) := ⟨rfl, rfl, rfl, by decide +kernel, rfl, by decide +kernel, by decide +kernel⟩
def b_titles (c : Cs) : DS → Fl :=
  (seqS (asgS 2 (lstD aNil))
  (seqS (forS (iR1 (aCons (var 1) aNil)) (nameG 3) (seqS (asgS 4 (fz (callD 1 (m_title c) (aCons (var 0) aNil))))
  (seqS (asgS 5 (fz (compD true [6] [6] (iLst (fz (compD true [7] [7] (iR1 (aCons (var 1) aNil)) (cst (.bl true)) (bin addD (cst (.str "q")) (liftL strC (aCons (var 7) aNil)))))) (bin (inD true) (var 6) (var 2)) (var 6))))
  (guardS (isLst · 2) (appS 2 (aCons (iteD (bin (inD false) (var 4) (var 2)) (bin ixD (var 5) (cst (.int 0))) (var 4)) aNil))))))
  (retMov 2)))
def m_titles (c : Cs) : List Sl → Fo := runD 2 8 (b_titles c)
set_option maxRecDepth 100000 in
set_option maxHeartbeats 8000000 in
theorem ok_titles {P : Program} {w : World} {K : Fr} {mg : Str → Option Value} {base : Heap} {c : Cs} (T : Txt K mg c) (D : DefIn K mg "_law_titles" s_titles ["reel", "many"]) (h_title : DefOk P w K mg base "_law_title" 3 ["reel"] (m_title c)) : DefOk P w K mg base "_law_titles" 4 ["reel", "many"] (m_titles c) :=
  D.ok fun f fd F => fn_D F sc_titles fun cdv A outer s H E hr gd =>
  (svs_cons (sv_asg (i := 2) sc_titles.nd rfl (by first | exact .inl rfl | exact .inr rfl) (ev_lst av_nil))
  (svs_cons (sv_for (passes_of rfl) rfl (iv_rng1 rfl T.b_range (av_cons (ev_var 1 (pv 1)) av_nil)) (gv_name (i := 3) sc_titles.nd rfl (by first | exact .inl rfl | exact .inr rfl)) (svs_cons (sv_asg (i := 4) sc_titles.nd rfl (by first | exact .inl rfl | exact .inr rfl) (EV.fz (ev_callQ h_title rfl (hr.mono (by decide)) gd (takes_of rfl rfl rfl rfl) rfl (av_cons (ev_var 0 (pv 0)) av_nil))))
  (svs_cons (sv_fzL (sv_setLc (own := [("each", 6)]) (i := 5) rfl sc_titles.nd rfl rfl (sw_true rfl rfl rfl rfl) (iv_list (EV.fz (ev_comp (own := [("k", 7)]) rfl sc_titles.nd (iv_rng1 rfl T.b_range (av_cons (ev_var 1 (pv 1)) av_nil)) (blkOk_by (own := [("k", 7)]) (by kernel_rfl)) (fun _ _ _ _ _ => (nv_name (i := 7) sc_titles.nd rfl (by first | exact .inl rfl | exact .inr rfl))) (fun _ _ _ _ _ => cv_nil) (fun _ _ _ _ _ => (ev_add ev_str (ev_strC rfl T.b_str (av_cons (ev_var 7 (pv 7)) av_nil))))))) (blkOk_by (own := [("each", 6)]) (N := n_titles) (sc := defScope s_titles) (by decide +kernel)) (fun _ _ _ _ _ => (nv_name (i := 6) sc_titles.nd rfl (by first | exact .inl rfl | exact .inr rfl))) (fun _ _ _ _ _ => (cv_one (tv_notin (ev_var 6 (pv 6)) (ev_var 2 (pv 2))))) (fun _ _ _ _ _ => (ev_var 6 (pv 6)))))
  (svs_one (sv_app 2 (pv 2) (av_cons (ev_ife (tv_in (ev_var 4 (pv 4)) (ev_var 2 (pv 2))) (ev_ix (ev_var 5 (pv 5)) ev_int) (ev_var 4 (pv 4))) av_nil))))))
  (svs_one (sv_retMov 2 (pv 2)))))
abbrev s_spans : Stmt := topS 40
abbrev n_spans : List Str := ["many", "found", "near", "far"]
theorem sc_spans : FnScope n_spans ["many"] (defScope s_spans) := ⟨rfl, rfl, rfl, by decide +kernel, rfl, by decide +kernel, by decide +kernel⟩
def b_spans (c : Cs) : DS → Fl :=
  (seqS (asgS 1 (fz (lstD aNil)))
  (seqS (forS (iR1 (aCons (var 0) aNil)) (nameG 2) (asgS 1 (fz (bin addD (var 1) (fz (compD true [3] [3] (iR2 (aCons (fz (bin addD (var 2) (cst (.int 1)))) (aCons (var 0) aNil))) (cst (.bl true)) (tupD (aCons (var 2) (aCons (var 3) aNil)))))))))
  (retS (var 1))))
def m_spans (c : Cs) : List Sl → Fo := runD 1 4 (b_spans c)
set_option maxRecDepth 100000 in
set_option maxHeartbeats 8000000 in
theorem ok_spans {P : Program} {w : World} {K : Fr} {mg : Str → Option Value} {base : Heap} {c : Cs} (T : Txt K mg c) (D : DefIn K mg "_law_spans" s_spans ["many"])  : DefOk P w K mg base "_law_spans" 1 ["many"] (m_spans c) :=
  D.ok fun f fd F => fn_D F sc_spans fun cdv A outer s H E hr gd =>
  (svs_cons (sv_asg (i := 1) sc_spans.nd rfl (by first | exact .inl rfl | exact .inr rfl) (EV.fz (ev_lst av_nil)))
  (svs_cons (sv_for (passes_of rfl) rfl (iv_rng1 rfl T.b_range (av_cons (ev_var 0 (pv 0)) av_nil)) (gv_name (i := 2) sc_spans.nd rfl (by first | exact .inl rfl | exact .inr rfl)) (svs_one (sv_asg (i := 1) sc_spans.nd rfl (by first | exact .inl rfl | exact .inr rfl) (EV.fz (ev_add (ev_var 1 (pv 1)) (EV.fz (ev_comp (own := [("far", 3)]) rfl sc_spans.nd (iv_rng2 rfl T.b_range (av_cons (EV.fz (ev_add (ev_var 2 (pv 2)) ev_int)) (av_cons (ev_var 0 (pv 0)) av_nil))) (blkOk_by (own := [("far", 3)]) (N := n_spans) (sc := defScope s_spans) (by decide +kernel)) (fun _ _ _ _ _ => (nv_name (i := 3) sc_spans.nd rfl (by first | exact .inl rfl | exact .inr rfl))) (fun _ _ _ _ _ => cv_nil) (fun _ _ _ _ _ => (ev_tup (av_cons (ev_var 2 (pv 2)) (av_cons (ev_var 3 (pv 3)) av_nil)))))))))))
  (svs_one (sv_ret (ev_var 1 (pv 1))))))
abbrev s_great : Stmt := topS 41
abbrev n_great : List Str := ["reel", "form"]
theorem sc_great : FnScope n_great ["reel"] (defScope s_great) := ⟨rfl, rfl, rfl, by decide +kernel, rfl, by decide +kernel, by decide +kernel⟩
def b_great (c : Cs) : DS → Fl :=
  (seqS (asgS 1 (fz (callD 2 (m_upto c) (aCons (var 0) (aCons (cst (.int 6)) aNil)))))
  (seqS (ifS (bin (eqD false) (var 1) (cst (.int 4))) (retS (bin addD (fz (bin mulD (fz (callD 2 (m_upto c) (aCons (var 0) (aCons (bin powD (cst (.int 10)) (cst (.int 15))) aNil)))) (bin powD (cst (.int 10)) (cst (.int 15))))) (fz (callD 2 (m_upto c) (aCons (var 0) (aCons (bin powD (cst (.int 10)) (cst (.int 15))) aNil)))))) skipS)
  (seqS (ifS (bin (eqD false) (var 1) (cst (.int 5))) (retS (bin subD (bin powD (cst (.int 10)) (cst (.int 30))) (fz (callD 2 (m_upto c) (aCons (var 0) (aCons (cst (.int 3)) aNil)))))) skipS)
  (retS (iteD (bin (eqD false) (var 1) (cst (.int 0))) (cst (.int 0)) (fz (callD 2 (m_upto c) (aCons (var 0) (aCons (iteD (bin (eqD false) (var 1) (cst (.int 3))) (cst (.int 60)) (cst (.int 6))) aNil)))))))))
def m_great (c : Cs) : List Sl → Fo := runD 1 2 (b_great c)
set_option maxRecDepth 100000 in
set_option maxHeartbeats 8000000 in
theorem ok_great {P : Program} {w : World} {K : Fr} {mg : Str → Option Value} {base : Heap} {c : Cs} (T : Txt K mg c) (D : DefIn K mg "_law_great" s_great ["reel"]) (h_upto : DefOk P w K mg base "_law_upto" 1 ["reel", "many"] (m_upto c)) : DefOk P w K mg base "_law_great" 2 ["reel"] (m_great c) :=
  D.ok fun f fd F => fn_D F sc_great fun cdv A outer s H E hr gd =>
  (svs_cons (sv_asg (i := 1) sc_great.nd rfl (by first | exact .inl rfl | exact .inr rfl) (EV.fz (ev_callQ h_upto rfl (hr.mono (by decide)) gd (takes_of rfl rfl rfl rfl) rfl (av_cons (ev_var 0 (pv 0)) (av_cons ev_int av_nil)))))
  (svs_cons (sv_if (tv_eq hr (ev_var 1 (pv 1)) ev_int) (svs_one (sv_ret (ev_add (EV.fz (ev_mul (EV.fz (ev_callQ h_upto rfl (hr.mono (by decide)) gd (takes_of rfl rfl rfl rfl) rfl (av_cons (ev_var 0 (pv 0)) (av_cons (ev_pow ev_int ev_int) av_nil)))) (ev_pow ev_int ev_int))) (EV.fz (ev_callQ h_upto rfl (hr.mono (by decide)) gd (takes_of rfl rfl rfl rfl) rfl (av_cons (ev_var 0 (pv 0)) (av_cons (ev_pow ev_int ev_int) av_nil))))))) svs_nil)
  (svs_cons (sv_if (tv_eq hr (ev_var 1 (pv 1)) ev_int) (svs_one (sv_ret (ev_sub (ev_pow ev_int ev_int) (EV.fz (ev_callQ h_upto rfl (hr.mono (by decide)) gd (takes_of rfl rfl rfl rfl) rfl (av_cons (ev_var 0 (pv 0)) (av_cons ev_int av_nil))))))) svs_nil)
  (svs_one (sv_ret (ev_ife (tv_eq hr (ev_var 1 (pv 1)) ev_int) ev_int (EV.fz (ev_callQ h_upto rfl (hr.mono (by decide)) gd (takes_of rfl rfl rfl rfl) rfl (av_cons (ev_var 0 (pv 0)) (av_cons (ev_ife (tv_eq hr (ev_var 1 (pv 1)) ev_int) ev_int ev_int) av_nil))))))))))
abbrev s_numbers : Stmt := topS 42
abbrev n_numbers : List Str := ["reel", "many", "form", "base", "found", "turn", "few", "near"]
theorem sc_numbers : FnScope n_numbers ["reel", "many"] (defScope s_numbers) := ⟨rfl, rfl, rfl, by decide +kernel, rfl, by decide +kernel, by decide +kernel⟩
def b_numbers (c : Cs) : DS → Fl :=
  (seqS (parO3 2 3 4 (fz (callD 2 (m_upto c) (aCons (var 0) (aCons (cst (.int 4)) aNil)))) (fz (callD 1 (m_great c) (aCons (var 0) aNil))) (lstD aNil))
  (seqS (forS (iR1 (aCons (bin fdivD (fz (bin mulD (var 1) (bin subD (var 1) (cst (.int 1))))) (cst (.int 2))) aNil)) (nameG 5) (seqS (asgS 6 (fz (callD 2 (m_upto c) (aCons (var 0) (aCons (cst (.int 5)) aNil)))))
  (seqS (asgS 7 (liftL min2 (aCons (bin powD (cst (.int 10)) (cst (.int 30))) (aCons (fz (bin addD (var 3) (fz (callD 2 (m_upto c) (aCons (var 0) (aCons (cst (.int 3)) aNil)))))) aNil))))
  (guardS (isLst · 4) (appS 4 (aCons (bin ixD (fz (lstD (aCons (var 6) (aCons (fz (callD 2 (m_pick c) (aCons (var 0) (aCons (fz (lstD (aCons (cst (.int 0)) (aCons (cst (.int 0)) (aCons (var 6) aNil))))) aNil)))) (aCons (var 7) (aCons (fz (callD 1 (m_great c) (aCons (var 0) aNil))) aNil)))))) (var 2)) aNil))))))
  (seqS (frzS 4) (retS (liftL tupC (aCons (var 4) aNil))))))
def m_numbers (c : Cs) : List Sl → Fo := runD 2 8 (b_numbers c)
set_option maxRecDepth 100000 in
set_option maxHeartbeats 8000000 in
theorem ok_numbers {P : Program} {w : World} {K : Fr} {mg : Str → Option Value} {base : Heap} {c : Cs} (T : Txt K mg c) (D : DefIn K mg "_law_numbers" s_numbers ["reel", "many"]) (h_upto : DefOk P w K mg base "_law_upto" 1 ["reel", "many"] (m_upto c)) (h_great : DefOk P w K mg base "_law_great" 2 ["reel"] (m_great c)) (h_pick : DefOk P w K mg base "_law_pick" 2 ["reel", "menu"] (m_pick c)) : DefOk P w K mg base "_law_numbers" 3 ["reel", "many"] (m_numbers c) :=
  D.ok fun f fd F => fn_D F sc_numbers fun cdv A outer s H E hr gd =>
  (svs_cons (sv_parO3 (i := 2) (j := 3) (l := 4) rfl sc_numbers.nd rfl rfl rfl (by decide) (by decide) (by decide) rfl rfl rfl (EV.fz (ev_callQ h_upto rfl (hr.mono (by decide)) gd (takes_of rfl rfl rfl rfl) rfl (av_cons (ev_var 0 (pv 0)) (av_cons ev_int av_nil)))) (EV.fz (ev_callQ h_great rfl (hr.mono (by decide)) gd (takes_of rfl rfl rfl rfl) rfl (av_cons (ev_var 0 (pv 0)) av_nil))) (ev_lst av_nil))
  (svs_cons (sv_for (passes_of rfl) rfl (iv_rng1 rfl T.b_range (av_cons (ev_fdiv (EV.fz (ev_mul (ev_var 1 (pv 1)) (ev_sub (ev_var 1 (pv 1)) ev_int))) ev_int) av_nil)) (gv_name (i := 5) sc_numbers.nd rfl (by first | exact .inl rfl | exact .inr rfl)) (svs_cons (sv_asg (i := 6) sc_numbers.nd rfl (by first | exact .inl rfl | exact .inr rfl) (EV.fz (ev_callQ h_upto rfl (hr.mono (by decide)) gd (takes_of rfl rfl rfl rfl) rfl (av_cons (ev_var 0 (pv 0)) (av_cons ev_int av_nil)))))
  (svs_cons (sv_asg (i := 7) sc_numbers.nd rfl (by first | exact .inl rfl | exact .inr rfl) (ev_min2 rfl rfl T.b_min (av_cons (ev_pow ev_int ev_int) (av_cons (EV.fz (ev_add (ev_var 3 (pv 3)) (EV.fz (ev_callQ h_upto rfl (hr.mono (by decide)) gd (takes_of rfl rfl rfl rfl) rfl (av_cons (ev_var 0 (pv 0)) (av_cons ev_int av_nil)))))) av_nil))))
  (svs_one (sv_app 4 (pv 4) (av_cons (ev_ix (EV.fz (ev_lst (av_cons (ev_var 6 (pv 6)) (av_cons (EV.fz (ev_callQ h_pick rfl (hr.mono (by decide)) gd (takes_of rfl rfl rfl rfl) rfl (av_cons (ev_var 0 (pv 0)) (av_cons (EV.fz (ev_lst (av_cons ev_int (av_cons ev_int (av_cons (ev_var 6 (pv 6)) av_nil))))) av_nil)))) (av_cons (ev_var 7 (pv 7)) (av_cons (EV.fz (ev_callQ h_great rfl (hr.mono (by decide)) gd (takes_of rfl rfl rfl rfl) rfl (av_cons (ev_var 0 (pv 0)) av_nil))) av_nil)))))) (ev_var 2 (pv 2))) av_nil))))))
  (svs_frz 4 (svs_one (sv_ret (ev_tupC rfl T.b_tuple (av_cons (ev_var 4 (pv 4)) av_nil)))))))
abbrev s_lots : Stmt := topS 43
abbrev n_lots : List Str := ["many", "found", "at", "lot"]
theorem sc_lots : FnScope n_lots ["many"] (defScope s_lots) := ⟨rfl, rfl, rfl, by decide +kernel, rfl, by decide +kernel, by decide +kernel⟩
def b_lots (c : Cs) : DS → Fl :=
  (seqS (asgS 1 (fz (lstD (aCons (fz (lstD aNil)) aNil))))
  (seqS (forS (iR1 (aCons (var 0) aNil)) (nameG 2) (asgS 1 (fz (bin addD (var 1) (fz (compD true [3] [3] (iLst (var 1)) (cst (.bl true)) (fz (bin addD (var 3) (fz (lstD (aCons (var 2) aNil)))))))))))
  (retS (compD true [3] [3] (iLst (var 1)) (chainD ltD ltD (cst (.int 0)) (liftL lenD (aCons (var 3) aNil)) (var 0)) (var 3)))))
def m_lots (c : Cs) : List Sl → Fo := runD 1 4 (b_lots c)
set_option maxRecDepth 100000 in
set_option maxHeartbeats 8000000 in
theorem ok_lots {P : Program} {w : World} {K : Fr} {mg : Str → Option Value} {base : Heap} {c : Cs} (T : Txt K mg c) (D : DefIn K mg "_law_lots" s_lots ["many"])  : DefOk P w K mg base "_law_lots" 1 ["many"] (m_lots c) :=
  D.ok fun f fd F => fn_D F sc_lots fun cdv A outer s H E hr gd =>
  (svs_cons (sv_asg (i := 1) sc_lots.nd rfl (by first | exact .inl rfl | exact .inr rfl) (EV.fz (ev_lst (av_cons (EV.fz (ev_lst av_nil)) av_nil))))
  (svs_cons (sv_for (passes_of rfl) rfl (iv_rng1 rfl T.b_range (av_cons (ev_var 0 (pv 0)) av_nil)) (gv_name (i := 2) sc_lots.nd rfl (by first | exact .inl rfl | exact .inr rfl)) (svs_one (sv_asg (i := 1) sc_lots.nd rfl (by first | exact .inl rfl | exact .inr rfl) (EV.fz (ev_add (ev_var 1 (pv 1)) (EV.fz (ev_comp (own := [("lot", 3)]) rfl sc_lots.nd (iv_list (ev_var 1 (pv 1))) (blkOk_by (own := [("lot", 3)]) (N := n_lots) (sc := defScope s_lots) (by decide +kernel)) (fun _ _ _ _ _ => (nv_name (i := 3) sc_lots.nd rfl (by first | exact .inl rfl | exact .inr rfl))) (fun _ _ _ _ _ => cv_nil) (fun _ _ _ _ _ => (EV.fz (ev_add (ev_var 3 (pv 3)) (EV.fz (ev_lst (av_cons (ev_var 2 (pv 2)) av_nil)))))))))))))
  (svs_one (sv_ret (ev_comp (own := [("lot", 3)]) rfl sc_lots.nd (iv_list (ev_var 1 (pv 1))) (blkOk_by (own := [("lot", 3)]) (N := n_lots) (sc := defScope s_lots) (by decide +kernel)) (fun _ _ _ _ _ => (nv_name (i := 3) sc_lots.nd rfl (by first | exact .inl rfl | exact .inr rfl))) (fun _ _ _ _ _ => (cv_one (tv_chain op_lt op_lt cmpD_ok cmpD_ok ev_int (ev_len rfl T.b_len (av_cons (ev_var 3 (pv 3)) av_nil)) (ev_var 0 (pv 0))))) (fun _ _ _ _ _ => (ev_var 3 (pv 3))))))))
abbrev s_out : Stmt := topS 44
abbrev n_out : List Str := ["many", "numbers", "lot", "total", "at", "near", "far"]
theorem sc_out : FnScope n_out ["many", "numbers", "lot"] (defScope s_out) := ⟨rfl, rfl, rfl, by decide +kernel, rfl, by decide +kernel, by decide +kernel⟩
def b_out (c : Cs) : DS → Fl :=
  (seqS (asgT (tupD (aCons (cst (.int 0)) (aCons (cst (.int 0)) aNil))) (tupG [(nameG 3), (nameG 4)]))
  (seqS (forS (iLst (fz (callD 1 (m_spans c) (aCons (var 0) aNil)))) (tupG [(nameG 5), (nameG 6)]) (seqS (asgS 3 (fz (bin addD (var 3) (iteD (bin (eqD true) (bin (inD false) (var 5) (var 2)) (bin (inD false) (var 6) (var 2))) (bin ixD (var 1) (var 4)) (cst (.int 0))))))
  (asgS 4 (fz (bin addD (var 4) (cst (.int 1)))))))
  (retS (var 3))))
def m_out (c : Cs) : List Sl → Fo := runD 3 7 (b_out c)
set_option maxRecDepth 100000 in
set_option maxHeartbeats 8000000 in
theorem ok_out {P : Program} {w : World} {K : Fr} {mg : Str → Option Value} {base : Heap} {c : Cs} (T : Txt K mg c) (D : DefIn K mg "_law_out" s_out ["many", "numbers", "lot"]) (h_spans : DefOk P w K mg base "_law_spans" 1 ["many"] (m_spans c)) : DefOk P w K mg base "_law_out" 2 ["many", "numbers", "lot"] (m_out c) :=
  D.ok fun f fd F => fn_D F sc_out fun cdv A outer s H E hr gd =>
  (svs_cons (sv_asgT (ev_tup (av_cons ev_int (av_cons ev_int av_nil))) (gv_tup rfl (gvs_cons (gv_name (i := 3) sc_out.nd rfl (by first | exact .inl rfl | exact .inr rfl)) (gvs_cons (gv_name (i := 4) sc_out.nd rfl (by first | exact .inl rfl | exact .inr rfl)) gvs_nil))))
  (svs_cons (sv_for (passes_of rfl) rfl (iv_list (EV.fz (ev_callQ h_spans rfl (hr.mono (by decide)) gd (takes_of rfl rfl rfl rfl) rfl (av_cons (ev_var 0 (pv 0)) av_nil)))) (gv_tup rfl (gvs_cons (gv_name (i := 5) sc_out.nd rfl (by first | exact .inl rfl | exact .inr rfl)) (gvs_cons (gv_name (i := 6) sc_out.nd rfl (by first | exact .inl rfl | exact .inr rfl)) gvs_nil))) (svs_cons (sv_asg (i := 3) sc_out.nd rfl (by first | exact .inl rfl | exact .inr rfl) (EV.fz (ev_add (ev_var 3 (pv 3)) (ev_ife (tv_ne hr (ev_in (ev_var 5 (pv 5)) (ev_var 2 (pv 2))) (ev_in (ev_var 6 (pv 6)) (ev_var 2 (pv 2)))) (ev_ix (ev_var 1 (pv 1)) (ev_var 4 (pv 4))) ev_int))))
  (svs_one (sv_asg (i := 4) sc_out.nd rfl (by first | exact .inl rfl | exact .inr rfl) (EV.fz (ev_add (ev_var 4 (pv 4)) ev_int))))))
  (svs_one (sv_ret (ev_var 3 (pv 3))))))
abbrev s_names : Stmt := topS 45
abbrev n_names : List Str := ["isles", "lot", "at"]
theorem sc_names : FnScope n_names ["isles", "lot"] (defScope s_names) := ⟨rfl, rfl, rfl, by decide +kernel, rfl, by decide +kernel, by decide +kernel⟩
noncomputable def b_names (c : Cs) : DS → Fl :=
  (retS (liftL tupC (aCons (fz (compD true [2] [2] (iLst (fz (liftL sortC (aCons (var 1) aNil)))) (cst (.bl true)) (bin ixD (var 0) (var 2)))) aNil)))
noncomputable def m_names (c : Cs) : List Sl → Fo := runD 2 3 (b_names c)
set_option maxRecDepth 100000 in
set_option maxHeartbeats 8000000 in
theorem ok_names {P : Program} {w : World} {K : Fr} {mg : Str → Option Value} {base : Heap} {c : Cs} (T : Txt K mg c) (D : DefIn K mg "_law_names" s_names ["isles", "lot"])  : DefOk P w K mg base "_law_names" 1 ["isles", "lot"] (m_names c) :=
  D.ok fun f fd F => fn_D F sc_names fun cdv A outer s H E hr gd =>
  (svs_one (sv_ret (ev_tupC rfl T.b_tuple (av_cons (EV.fz (ev_comp (own := [("at", 2)]) rfl sc_names.nd (iv_list (EV.fz (ev_sortC hr.units rfl T.b_sorted (av_cons (ev_var 1 (pv 1)) av_nil)))) (blkOk_by (own := [("at", 2)]) (N := n_names) (sc := defScope s_names) (by decide +kernel)) (fun _ _ _ _ _ => (nv_name (i := 2) sc_names.nd rfl (by first | exact .inl rfl | exact .inr rfl))) (fun _ _ _ _ _ => cv_nil) (fun _ _ _ _ _ => (ev_ix (ev_var 0 (pv 0)) (ev_var 2 (pv 2)))))) av_nil))))
abbrev s_ringed : Stmt := topS 46
abbrev n_ringed : List Str := ["reel", "many", "number", "at", "found", "near", "far"]
theorem sc_ringed : FnScope n_ringed ["reel", "many"] (defScope s_ringed) := ⟨rfl, rfl, rfl, by decide +kernel, rfl, by decide +kernel, by decide +kernel⟩
def b_ringed (c : Cs) : DS → Fl :=
  (seqS (parO3 2 3 4 (bin addD (cst (.int 1)) (fz (callD 1 (m_great c) (aCons (var 0) aNil)))) (fz (callD 2 (m_upto c) (aCons (var 0) (aCons (bin mulD (cst (.int 2)) (var 1)) aNil)))) (lstD aNil))
  (seqS (forS (iLst (fz (callD 1 (m_spans c) (aCons (var 1) aNil)))) (tupG [(nameG 5), (nameG 6)]) (guardS (isLst · 4) (appS 4 (aCons (iteD (orD (bin (eqD false) (bin subD (var 6) (var 5)) (cst (.int 1))) (bin (eqD false) (bin subD (var 6) (var 5)) (bin subD (var 1) (cst (.int 1))))) (liftL min2 (aCons (bin powD (cst (.int 10)) (cst (.int 30))) (aCons (var 2) aNil))) (cst (.int 0))) aNil))))
  (seqS (ifS (bin ltD (var 3) (liftL lenD (aCons (var 4) aNil))) (asgT (liftL min2 (aCons (bin powD (cst (.int 10)) (cst (.int 30))) (aCons (fz (bin addD (bin ixD (var 4) (var 3)) (cst (.int 1)))) aNil))) (subG 4 (var 3))) skipS)
  (seqS (frzS 4) (retS (liftL tupC (aCons (var 4) aNil)))))))
def m_ringed (c : Cs) : List Sl → Fo := runD 2 7 (b_ringed c)
set_option maxRecDepth 100000 in
set_option maxHeartbeats 8000000 in
theorem ok_ringed {P : Program} {w : World} {K : Fr} {mg : Str → Option Value} {base : Heap} {c : Cs} (T : Txt K mg c) (D : DefIn K mg "_law_ringed" s_ringed ["reel", "many"]) (h_great : DefOk P w K mg base "_law_great" 2 ["reel"] (m_great c)) (h_upto : DefOk P w K mg base "_law_upto" 1 ["reel", "many"] (m_upto c)) (h_spans : DefOk P w K mg base "_law_spans" 1 ["many"] (m_spans c)) : DefOk P w K mg base "_law_ringed" 3 ["reel", "many"] (m_ringed c) :=
  D.ok fun f fd F => fn_D F sc_ringed fun cdv A outer s H E hr gd =>
  (svs_cons (sv_parO3 (i := 2) (j := 3) (l := 4) rfl sc_ringed.nd rfl rfl rfl (by decide) (by decide) (by decide) rfl rfl rfl (ev_add ev_int (EV.fz (ev_callQ h_great rfl (hr.mono (by decide)) gd (takes_of rfl rfl rfl rfl) rfl (av_cons (ev_var 0 (pv 0)) av_nil)))) (EV.fz (ev_callQ h_upto rfl (hr.mono (by decide)) gd (takes_of rfl rfl rfl rfl) rfl (av_cons (ev_var 0 (pv 0)) (av_cons (ev_mul ev_int (ev_var 1 (pv 1))) av_nil)))) (ev_lst av_nil))
  (svs_cons (sv_for (passes_of rfl) rfl (iv_list (EV.fz (ev_callQ h_spans rfl (hr.mono (by decide)) gd (takes_of rfl rfl rfl rfl) rfl (av_cons (ev_var 1 (pv 1)) av_nil)))) (gv_tup rfl (gvs_cons (gv_name (i := 5) sc_ringed.nd rfl (by first | exact .inl rfl | exact .inr rfl)) (gvs_cons (gv_name (i := 6) sc_ringed.nd rfl (by first | exact .inl rfl | exact .inr rfl)) gvs_nil))) (svs_one (sv_app 4 (pv 4) (av_cons (ev_ife (TW.tv (tw_or (tv_eq hr (ev_sub (ev_var 6 (pv 6)) (ev_var 5 (pv 5))) ev_int) (tw_one (tv_eq hr (ev_sub (ev_var 6 (pv 6)) (ev_var 5 (pv 5))) (ev_sub (ev_var 1 (pv 1)) ev_int))))) (ev_min2 rfl rfl T.b_min (av_cons (ev_pow ev_int ev_int) (av_cons (ev_var 2 (pv 2)) av_nil))) ev_int) av_nil))))
  (svs_cons (sv_if (tv_lt (ev_var 3 (pv 3)) (ev_len rfl T.b_len (av_cons (ev_var 4 (pv 4)) av_nil))) (svs_one (sv_asgT (ev_min2 rfl rfl T.b_min (av_cons (ev_pow ev_int ev_int) (av_cons (EV.fz (ev_add (ev_ix (ev_var 4 (pv 4)) (ev_var 3 (pv 3))) ev_int)) av_nil))) (gv_sub 4 (pv 4) (ev_var 3 (pv 3)) (by intro C fs S S' z; first | cases z | (unfold var at z; split at z <;> cases z))))) svs_nil)
  (svs_frz 4 (svs_one (sv_ret (ev_tupC rfl T.b_tuple (av_cons (ev_var 4 (pv 4)) av_nil))))))))
abbrev s_right : Stmt := topS 47
abbrev n_right : List Str := ["reel", "lap", "many", "isles", "numbers", "some", "least", "rows", "due", "here", "lot", "row", "total", "size"]
theorem sc_right : FnScope n_right ["reel"] (defScope s_right) := ⟨rfl, rfl, rfl, by decide +kernel, rfl, by decide +kernel, by decide +kernel⟩
noncomputable def b_right (c : Cs) : DS → Fl :=
  (seqS (forS (iR1 (aCons (cst (.int 3)) aNil)) (nameG 1) (seqS (asgS 2 (bin addD (cst (.int 2)) (fz (callD 2 (m_upto c) (aCons (var 0) (aCons (cst (.int 4)) aNil))))))
  (seqS (asgS 3 (fz (callD 2 (m_titles c) (aCons (var 0) (aCons (var 2) aNil)))))
  (seqS (asgS 4 (iteD (bin (eqD false) (fz (callD 2 (m_upto c) (aCons (var 0) (aCons (cst (.int 3)) aNil)))) (cst (.int 0))) (fz (callD 2 (m_ringed c) (aCons (var 0) (aCons (var 2) aNil)))) (fz (callD 2 (m_numbers c) (aCons (var 0) (aCons (var 2) aNil))))))
  (seqS (asgS 5 (fz (compD true [10] [10] (iLst (fz (callD 1 (m_lots c) (aCons (var 2) aNil)))) (cst (.bl true)) (tupD (aCons (fz (callD 3 (m_out c) (aCons (var 2) (aCons (var 4) (aCons (var 10) aNil))))) (aCons (liftL lenD (aCons (var 10) aNil)) (aCons (fz (liftL sortC (aCons (var 10) aNil))) aNil)))))))
  (seqS (asgS 6 (liftL minC (aCons (fz (compD true [11] [11] (iLst (var 5)) (cst (.bl true)) (bin ixD (var 11) (cst (.int 0))))) aNil)))
  (seqS (asgS 7 (fz (liftL sortC (aCons (fz (compD false [12, 13, 10] [12, 13, 10] (iLst (var 5)) (andD (bin (eqD false) (var 12) (var 6)) (bin (inD false) (cst (.int 0)) (var 10))) (tupD (aCons (var 13) (aCons (var 10) aNil))))) aNil))))
  (seqS (asgS 8 (liftL tupC (aCons (fz (compD false [13, 10] [13, 10] (iLst (var 7)) (cst (.bl true)) (fz (callD 2 (m_names c) (aCons (var 3) (aCons (var 10) aNil)))))) aNil)))
  (seqS (asgS 9 (fz (makeD c.Sea 2 (m_Sea_init c) (aCons (liftL tupX (aCons (var 3) aNil)) aNil))))
  (ifS (bin (eqD true) (liftL reprC (aCons (fz (lstD (aCons (fz (callD 2 (m_least_cuts c) (aCons (var 9) (aCons (var 4) aNil)))) (aCons (fz (callK [1, 0] 2 (m_least_cuts c) (aCons (var 4) (aCons (var 9) aNil)))) aNil)))) aNil)) (liftL reprC (aCons (fz (lstD (aCons (var 8) (aCons (var 8) aNil)))) aNil))) (retS (cst (.bl false))) skipS))))))))))
  (retS (cst (.bl true))))
noncomputable def m_right (c : Cs) : List Sl → Fo := runD 1 14 (b_right c)
set_option maxRecDepth 100000 in
set_option maxHeartbeats 8000000 in
theorem ok_right {P : Program} {w : World} {K : Fr} {mg : Str → Option Value} {base : Heap} {c : Cs} (T : Txt K mg c) (D : DefIn K mg "_law_right" s_right ["reel"]) (h_upto : DefOk P w K mg base "_law_upto" 1 ["reel", "many"] (m_upto c)) (h_titles : DefOk P w K mg base "_law_titles" 4 ["reel", "many"] (m_titles c)) (h_ringed : DefOk P w K mg base "_law_ringed" 3 ["reel", "many"] (m_ringed c)) (h_numbers : DefOk P w K mg base "_law_numbers" 3 ["reel", "many"] (m_numbers c)) (h_lots : DefOk P w K mg base "_law_lots" 1 ["many"] (m_lots c)) (h_out : DefOk P w K mg base "_law_out" 2 ["many", "numbers", "lot"] (m_out c)) (h_names : DefOk P w K mg base "_law_names" 1 ["isles", "lot"] (m_names c)) (h_Sea_init : MakeIn P w K mg base c.Sea 3 2 (m_Sea_init c)) (h_least_cuts : DefO P w K mg base "least_cuts" 5 ["sea", "bridges"] (m_least_cuts c)) (hk_least_cuts : DefOK P w K mg base "least_cuts" 5 ["sea", "bridges"] ["bridges", "sea"] [1, 0] (m_least_cuts c)) : DefOk P w K mg base "_law_right" 6 ["reel"] (m_right c) :=
  D.ok fun f fd F => fn_D F sc_right fun cdv A outer s H E hr gd =>
  (svs_cons (sv_for (passes_of rfl) rfl (iv_rng1 rfl T.b_range (av_cons ev_int av_nil)) (gv_name (i := 1) sc_right.nd rfl (by first | exact .inl rfl | exact .inr rfl)) (svs_cons (sv_asg (i := 2) sc_right.nd rfl (by first | exact .inl rfl | exact .inr rfl) (ev_add ev_int (EV.fz (ev_callQ h_upto rfl (hr.mono (by decide)) gd (takes_of rfl rfl rfl rfl) rfl (av_cons (ev_var 0 (pv 0)) (av_cons ev_int av_nil))))))
  (svs_cons (sv_asg (i := 3) sc_right.nd rfl (by first | exact .inl rfl | exact .inr rfl) (EV.fz (ev_callQ h_titles rfl (hr.mono (by decide)) gd (takes_of rfl rfl rfl rfl) rfl (av_cons (ev_var 0 (pv 0)) (av_cons (ev_var 2 (pv 2)) av_nil)))))
  (svs_cons (sv_asg (i := 4) sc_right.nd rfl (by first | exact .inl rfl | exact .inr rfl) (ev_ife (tv_eq hr (EV.fz (ev_callQ h_upto rfl (hr.mono (by decide)) gd (takes_of rfl rfl rfl rfl) rfl (av_cons (ev_var 0 (pv 0)) (av_cons ev_int av_nil)))) ev_int) (EV.fz (ev_callQ h_ringed rfl (hr.mono (by decide)) gd (takes_of rfl rfl rfl rfl) rfl (av_cons (ev_var 0 (pv 0)) (av_cons (ev_var 2 (pv 2)) av_nil)))) (EV.fz (ev_callQ h_numbers rfl (hr.mono (by decide)) gd (takes_of rfl rfl rfl rfl) rfl (av_cons (ev_var 0 (pv 0)) (av_cons (ev_var 2 (pv 2)) av_nil))))))
  (svs_cons (sv_fzL (sv_setLc (own := [("lot", 10)]) (i := 5) rfl sc_right.nd rfl rfl (sw_true rfl rfl rfl rfl) (iv_list (EV.fz (ev_callQ h_lots rfl (hr.mono (by decide)) gd (takes_of rfl rfl rfl rfl) rfl (av_cons (ev_var 2 (pv 2)) av_nil)))) (blkOk_by (own := [("lot", 10)]) (N := n_right) (sc := defScope s_right) (by decide +kernel)) (fun _ _ _ _ _ => (nv_name (i := 10) sc_right.nd rfl (by first | exact .inl rfl | exact .inr rfl))) (fun _ _ _ _ _ => cv_nil) (fun _ _ _ _ _ => (ev_tup (av_cons (EV.fz (ev_callQ h_out rfl (hr.mono (by decide)) gd takesW0 rfl (av_cons (ev_var 2 (pv 2)) (av_cons (ev_var 4 (pv 4)) (av_cons (ev_var 10 (pv 10)) av_nil))))) (av_cons (ev_len rfl T.b_len (av_cons (ev_var 10 (pv 10)) av_nil)) (av_cons (EV.fz (ev_sortC hr.units rfl T.b_sorted (av_cons (ev_var 10 (pv 10)) av_nil))) av_nil)))))))
  (svs_cons (sv_asg (i := 6) sc_right.nd rfl (by first | exact .inl rfl | exact .inr rfl) (ev_min1 rfl rfl T.b_min (av_cons (EV.fz (ev_comp (own := [("row", 11)]) rfl sc_right.nd (iv_list (ev_var 5 (pv 5))) (blkOk_by (own := [("row", 11)]) (N := n_right) (sc := defScope s_right) (by decide +kernel)) (fun _ _ _ _ _ => (nv_name (i := 11) sc_right.nd rfl (by first | exact .inl rfl | exact .inr rfl))) (fun _ _ _ _ _ => cv_nil) (fun _ _ _ _ _ => (ev_ix (ev_var 11 (pv 11)) ev_int)))) av_nil)))
  (svs_cons (sv_asg (i := 7) sc_right.nd rfl (by first | exact .inl rfl | exact .inr rfl) (EV.fz (ev_sortC hr.units rfl T.b_sorted (av_cons (EV.fz (ev_comp (own := [("total", 12), ("size", 13), ("lot", 10)]) rfl sc_right.nd (iv_list (ev_var 5 (pv 5))) (blkOk_by (own := [("total", 12), ("size", 13), ("lot", 10)]) (N := n_right) (sc := defScope s_right) (by decide +kernel)) (fun _ _ _ _ _ => (nv_tup rfl (nvs_cons (i := 12) sc_right.nd rfl (by first | exact .inl rfl | exact .inr rfl) (nvs_cons (i := 13) sc_right.nd rfl (by first | exact .inl rfl | exact .inr rfl) (nvs_cons (i := 10) sc_right.nd rfl (by first | exact .inl rfl | exact .inr rfl) nvs_nil))))) (fun _ _ _ _ _ => (cv_one (TW.tv (tw_and (tv_eq hr (ev_var 12 (pv 12)) (ev_var 6 (pv 6))) (tw_one (tv_in ev_int (ev_var 10 (pv 10)))))))) (fun _ _ _ _ _ => (ev_tup (av_cons (ev_var 13 (pv 13)) (av_cons (ev_var 10 (pv 10)) av_nil)))))) av_nil))))
  (svs_cons (sv_asg (i := 8) sc_right.nd rfl (by first | exact .inl rfl | exact .inr rfl) (ev_tupC rfl T.b_tuple (av_cons (EV.fz (ev_comp (own := [("size", 13), ("lot", 10)]) rfl sc_right.nd (iv_list (ev_var 7 (pv 7))) (blkOk_by (own := [("size", 13), ("lot", 10)]) (N := n_right) (sc := defScope s_right) (by decide +kernel)) (fun _ _ _ _ _ => (nv_tup rfl (nvs_cons (i := 13) sc_right.nd rfl (by first | exact .inl rfl | exact .inr rfl) (nvs_cons (i := 10) sc_right.nd rfl (by first | exact .inl rfl | exact .inr rfl) nvs_nil)))) (fun _ _ _ _ _ => cv_nil) (fun _ _ _ _ _ => (EV.fz (ev_callQ h_names rfl (hr.mono (by decide)) gd takesW0 rfl (av_cons (ev_var 3 (pv 3)) (av_cons (ev_var 10 (pv 10)) av_nil))))))) av_nil)))
  (svs_cons (sv_asg (i := 9) sc_right.nd rfl (by first | exact .inl rfl | exact .inr rfl) (EV.fz (ev_make h_Sea_init (hr.mono (by decide)) (takes_of rfl rfl rfl rfl) rfl T.g_Sea (av_cons (ev_tupX rfl T.b_tuple (av_cons (ev_var 3 (pv 3)) av_nil)) av_nil))))
  (svs_one (sv_if (tv_ne hr (ev_repr hr gd rfl T.b_repr (av_cons (EV.fz (ev_lst (av_cons (EV.fz (ev_callO h_least_cuts rfl (hr.mono (by decide)) (takes_of rfl rfl rfl rfl) rfl (av_cons (ev_var 9 (pv 9)) (av_cons (ev_var 4 (pv 4)) av_nil)))) (av_cons (EV.fz (ev_callK hk_least_cuts rfl (hr.mono (by decide)) (takes_of rfl rfl rfl rfl) rfl (kv_cons (ev_var 4 (pv 4)) (kv_cons (ev_var 9 (pv 9)) kv_nil)))) av_nil)))) av_nil)) (ev_repr hr gd rfl T.b_repr (av_cons (EV.fz (ev_lst (av_cons (ev_var 8 (pv 8)) (av_cons (ev_var 8 (pv 8)) av_nil)))) av_nil))) (svs_one (sv_ret ev_bl)) svs_nil)))))))))))
  (svs_one (sv_ret ev_bl)))
abbrev s_law : Stmt := topS 48
abbrev n_law : List Str := ["script", "turn"]
theorem sc_law : FnScope n_law ["script"] (defScope s_law) := ⟨rfl, rfl, rfl, by decide +kernel, rfl, by decide +kernel, by decide +kernel⟩
noncomputable def b_law (c : Cs) : DS → Fl :=
  (retS (liftL allC (aCons (fz (compD true [1] [1] (iR1 (aCons (liftL max2 (aCons (cst (.int 2)) (aCons (liftL min2 (aCons (liftL lenD (aCons (var 0) aNil)) (aCons (cst (.int 5)) aNil))) aNil))) aNil)) (cst (.bl true)) (fz (callF (m_right c) (callD 2 (m_reel c) (aCons (var 0) (aCons (var 1) aNil))))))) aNil)))
noncomputable def m_law (c : Cs) : List Sl → Fo := runD 1 2 (b_law c)
set_option maxRecDepth 100000 in
set_option maxHeartbeats 8000000 in
theorem ok_lawF {P : Program} {w : World} {K : Fr} {mg : Str → Option Value} {base : Heap} {c : Cs} (T : Txt K mg c) {f : Addr} {fd : FuncData} (F : Fun K "law" "law" s_law f fd) (h_reel : DefOk P w K mg base "_law_reel" 1 ["script", "turn"] (m_reel c)) (h_right : DefOk P w K mg base "_law_right" 6 ["reel"] (m_right c)) : FnG P w K mg base (L2.CX P w) 7 f fd ["script"] (spD K 1 (m_law c)) :=
  fn_D F sc_law fun cdv A outer s H E hr gd =>
  (svs_one (sv_ret (ev_all rfl rfl T.b_all (av_cons (EV.fz (ev_comp (own := [("turn", 1)]) rfl sc_law.nd (iv_rng1 rfl T.b_range (av_cons (ev_max2 rfl rfl T.b_max (av_cons ev_int (av_cons (ev_min2 rfl rfl T.b_min (av_cons (ev_len rfl T.b_len (av_cons (ev_var 0 (pv 0)) av_nil)) (av_cons ev_int av_nil))) av_nil))) av_nil)) (blkOk_by (own := [("turn", 1)]) (N := n_law) (sc := defScope s_law) (by decide +kernel)) (fun _ _ _ _ _ => (nv_name (i := 1) sc_law.nd rfl (by first | exact .inl rfl | exact .inr rfl))) (fun _ _ _ _ _ => cv_nil) (fun _ _ _ _ _ => (EV.fz (ev_callF h_right rfl (hr.mono (by decide)) gd takesW0 rfl (ev_callQ h_reel rfl (hr.mono (by decide)) gd takesW0 rfl (av_cons (ev_var 0 (pv 0)) (av_cons (ev_var 1 (pv 1)) av_nil)))))))) av_nil))))
set_option maxHeartbeats 4000000 in
theorem all_mk {l : PySem.W.OpenLaw} {w : World} {K : Fr} {h : Heap} {mg : Str → Option Value} {cs : List (Addr × Addr)} {fa fl aSea cd_in_order P_in_order : Addr} (X0 : K.In h) (G0 : h.Ns mainGlobals mg) (hfa : mg "law" = some (.ref fa))
    (g_Sea : PySem.W.nsIn K mainGlobals "Sea" = some (some (.ref aSea)))
    (b_abs : PySem.W.nsIn K mainGlobals "abs" = some none)
    (b_all : PySem.W.nsIn K mainGlobals "all" = some none)
    (b_bool : PySem.W.nsIn K mainGlobals "bool" = some none)
    (b_divmod : PySem.W.nsIn K mainGlobals "divmod" = some none)
    (b_enumerate : PySem.W.nsIn K mainGlobals "enumerate" = some none)
    (b_int : PySem.W.nsIn K mainGlobals "int" = some none)
    (b_isinstance : PySem.W.nsIn K mainGlobals "isinstance" = some none)
    (b_len : PySem.W.nsIn K mainGlobals "len" = some none)
    (b_list : PySem.W.nsIn K mainGlobals "list" = some none)
    (b_max : PySem.W.nsIn K mainGlobals "max" = some none)
    (b_min : PySem.W.nsIn K mainGlobals "min" = some none)
    (b_range : PySem.W.nsIn K mainGlobals "range" = some none)
    (b_repr : PySem.W.nsIn K mainGlobals "repr" = some none)
    (b_sorted : PySem.W.nsIn K mainGlobals "sorted" = some none)
    (b_str : PySem.W.nsIn K mainGlobals "str" = some none)
    (b_tuple : PySem.W.nsIn K mainGlobals "tuple" = some none)
    (b_zip : PySem.W.nsIn K mainGlobals "zip" = some none)
    (c_LETTERS : ConstI K "LETTERS" (.str "abcdefghijklmnopqrstuvwxyz"))
    (c_LETTERS_AND_DIGITS : ConstI K "LETTERS_AND_DIGITS" (.str "abcdefghijklmnopqrstuvwxyz0123456789"))
    (c_MOST_BRIDGES : ConstI K "MOST_BRIDGES" (.int 1000000000000000000000000000000))
    (c_MOST_ISLANDS : ConstI K "MOST_ISLANDS" (.int 5))
    (c_MOST_SIGNS : ConstI K "MOST_SIGNS" (.int 8))
    (cl_Sea : Cls K aSea)
    (na_Sea_islands : PySem.W.findIn K (.ref aSea) "_islands" = some none)
    (na_Sea_pairs : PySem.W.findIn K (.ref aSea) "_pairs" = some none)
    (ci_Sea : PySem.W.isClsIn K aSea = true)
    (ti_Sea : PySem.W.typeIn K (.ref aSea) = some (.type "type"))
    (ki_Sea_NoneType : PySem.W.subIn K (.type "NoneType") (.ref aSea) = some false)
    (ki_Sea_bool : PySem.W.subIn K (.type "bool") (.ref aSea) = some false)
    (ki_Sea_int : PySem.W.subIn K (.type "int") (.ref aSea) = some false)
    (ki_Sea_str : PySem.W.subIn K (.type "str") (.ref aSea) = some false)
    (ki_Sea_list : PySem.W.subIn K (.type "list") (.ref aSea) = some false)
    (ki_Sea_tuple : PySem.W.subIn K (.type "tuple") (.ref aSea) = some false)
    (ki_Sea_dict : PySem.W.subIn K (.type "dict") (.ref aSea) = some false)
    (ik_Sea : InsK K aSea)
    (D_is_name : DefIn K mg "is_name" s_is_name ["value"])
    (D_check_islands : DefIn K mg "check_islands" s_check_islands ["islands"])
    (D_pairs_of : DefIn K mg "pairs_of" s_pairs_of ["islands"])
    (D_Sea_init : MakeF K aSea "Sea.__init__" s_Sea_init ["self", "islands"])
    (D_Sea_islands : PropF K aSea "islands" "Sea.islands" s_Sea_islands)
    (D_Sea_pairs : PropF K aSea "pairs" "Sea.pairs" s_Sea_pairs)
    (D_Sea_len : MethF K aSea "__len__" "Sea.__len__" s_Sea_len ["self"])
    (D_is_integer : DefIn K mg "is_integer" s_is_integer ["value"])
    (D_is_within : DefIn K mg "is_within" s_is_within ["value", "least", "most"])
    (D_wrong_places : DefIn K mg "wrong_places" s_wrong_places ["values", "many", "least", "most"])
    (D_check_sea : DefIn K mg "check_sea" s_check_sea ["sea"])
    (D_check_bridges : DefIn K mg "check_bridges" s_check_bridges ["sea", "bridges"])
    (D_index_pairs : DefIn K mg "index_pairs" s_index_pairs ["many"])
    (D_lots_of : DefIn K mg "lots_of" s_lots_of ["many"])
    (D_has : DefIn K mg "has" s_has ["lot", "index"])
    (D_parts : DefIn K mg "parts" s_parts ["lot", "one", "other"])
    (D_indexes_in : DefIn K mg "indexes_in" s_indexes_in ["many", "lot"])
    (D_in_order : DefInC K mg "in_order" s_in_order ["tuples"] cd_in_order)
    (D_leading_out : DefIn K mg "leading_out" s_leading_out ["many", "bridges"])
    (D_least_cuts : DefIn K mg "least_cuts" s_least_cuts ["sea", "bridges"])
    (D_reel : DefIn K mg "_law_reel" s_reel ["script", "turn"])
    (D_upto : DefIn K mg "_law_upto" s_upto ["reel", "many"])
    (D_pick : DefIn K mg "_law_pick" s_pick ["reel", "menu"])
    (D_title : DefIn K mg "_law_title" s_title ["reel"])
    (D_titles : DefIn K mg "_law_titles" s_titles ["reel", "many"])
    (D_spans : DefIn K mg "_law_spans" s_spans ["many"])
    (D_great : DefIn K mg "_law_great" s_great ["reel"])
    (D_numbers : DefIn K mg "_law_numbers" s_numbers ["reel", "many"])
    (D_lots : DefIn K mg "_law_lots" s_lots ["many"])
    (D_out : DefIn K mg "_law_out" s_out ["many", "numbers", "lot"])
    (D_names : DefIn K mg "_law_names" s_names ["isles", "lot"])
    (D_ringed : DefIn K mg "_law_ringed" s_ringed ["reel", "many"])
    (D_right : DefIn K mg "_law_right" s_right ["reel"])
    (LP_in_order : (P_in_order ∈ Nm.ts ∧ Nm.nm P_in_order = "in_order.<locals>.<lambda>") ∧ (cd_in_order, P_in_order) ∈ cs)
    {oc kV dc pm cd ct : Value} {od an : Option Addr} {sl : Array (Option Value)}
    (aL : PySem.W.nsIn K mainGlobals "law" = some (some (.ref fl)))
    (lL : K.lookup fl = some ⟨oc, od, .func (PySem.W.fnOf "law" "law" (defArgs s_law) (defBody s_law) (defScope s_law) .none kV dc pm an cd ct), sl⟩)
    (cL : PySem.W.codeIn K cd "law" = true)
    (kL : PySem.W.keepIn K (.ref fl) = true)
    (law_true : ∀ c : Cs, ∀ ns : List Int, ns.length ≤ 63 → ∃ as, m_law c [.fr (.scr ns)] = .ret (.v (.bl true)) as) :
    ∃ fd : FuncData, (∀ (s : Shared) (u : Value), BindsTo s fd ⟨[u], []⟩ [("script", u)]) ∧ ∀ base : Heap, K.In base → base.Ns mainGlobals mg → (∀ p ∈ cs, LamX.TabB base mg p.1 p.2) → FnG l.prog w K mg base (L2.CX l.prog w) 7 fa fd ["script"] (spLaw K 63) := by
  have e := hfa.symm.trans (PySem.W.mg_of X0 G0 aL)
  cases e
  let c : Cs := ⟨aSea⟩
  have isi_Sea : IsiC K aSea (tab_Sea c) := by
    refine ⟨fun t ht => ?_, fun C' b hb => ?_⟩
    · simp only [List.mem_cons, List.not_mem_nil, or_false] at ht
      rcases ht with rfl | rfl | rfl | rfl | rfl | rfl | rfl
      · exact kit_own ci_Sea ti_Sea ki_Sea_NoneType rfl
      · exact kit_own ci_Sea ti_Sea ki_Sea_bool rfl
      · exact kit_own ci_Sea ti_Sea ki_Sea_int rfl
      · exact kit_own ci_Sea ti_Sea ki_Sea_str rfl
      · exact kit_own ci_Sea ti_Sea ki_Sea_list rfl
      · exact kit_own ci_Sea ti_Sea ki_Sea_tuple rfl
      · exact kit_own ci_Sea ti_Sea ki_Sea_dict rfl
    · unfold tab_Sea at hb
      split at hb
      · rename_i e0
        cases hb
        have e0 : C' = aSea := e0
        subst e0
        exact ⟨kit_same, ik_Sea⟩
      cases hb
  have T : Txt K mg c := ⟨PySem.W.mg_none_of X0 G0 b_abs, PySem.W.mg_none_of X0 G0 b_all, PySem.W.mg_none_of X0 G0 b_bool, PySem.W.mg_none_of X0 G0 b_divmod, PySem.W.mg_none_of X0 G0 b_enumerate, PySem.W.mg_none_of X0 G0 b_int, PySem.W.mg_none_of X0 G0 b_isinstance, PySem.W.mg_none_of X0 G0 b_len, PySem.W.mg_none_of X0 G0 b_list, PySem.W.mg_none_of X0 G0 b_max, PySem.W.mg_none_of X0 G0 b_min, PySem.W.mg_none_of X0 G0 b_range, PySem.W.mg_none_of X0 G0 b_repr, PySem.W.mg_none_of X0 G0 b_sorted, PySem.W.mg_none_of X0 G0 b_str, PySem.W.mg_none_of X0 G0 b_tuple, PySem.W.mg_none_of X0 G0 b_zip, c_LETTERS.at_ X0 G0, c_LETTERS_AND_DIGITS.at_ X0 G0, c_MOST_BRIDGES.at_ X0 G0, c_MOST_ISLANDS.at_ X0 G0, c_MOST_SIGNS.at_ X0 G0, PySem.W.mg_of X0 G0 g_Sea, cl_Sea, na_Sea_islands, na_Sea_pairs, isi_Sea⟩
  refine ⟨PySem.W.fnOf "law" "law" (defArgs s_law) (defBody s_law) (defScope s_law) .none kV dc pm an cd ct, fun s v => .of_eq rfl, fun base _ _ tbs => ?_⟩
  have tb_in_order : LamIn mg base cd_in_order P_in_order "in_order.<locals>.<lambda>" := ⟨tbs _ LP_in_order.2, LP_in_order.1.1, LP_in_order.1.2⟩
  have h_def_is_name : DefO l.prog w K mg base "is_name" 1 ["value"] (m_is_name c) := ok_is_name T D_is_name 
  have h_def_check_islands : DefO l.prog w K mg base "check_islands" 2 ["islands"] (m_check_islands c) := ok_check_islands T D_check_islands h_def_is_name
  have h_def_pairs_of : DefO l.prog w K mg base "pairs_of" 1 ["islands"] (m_pairs_of c) := ok_pairs_of T D_pairs_of 
  have h_make_Sea_init : MakeIn l.prog w K mg base aSea 3 2 (m_Sea_init c) := D_Sea_init.make (fun f fd F => ok_Sea_init T h_def_check_islands h_def_pairs_of F)
  have h_prop_Sea_islands : PropIn l.prog w K mg base aSea "islands" 1 (m_Sea_islands c) := D_Sea_islands.prop (fun f fd F => ok_Sea_islands T  F)
  have h_prop_Sea_pairs : PropIn l.prog w K mg base aSea "pairs" 1 (m_Sea_pairs c) := D_Sea_pairs.prop (fun f fd F => ok_Sea_pairs T  F)
  have h_met_Sea_len : MetOk l.prog w K mg base aSea "__len__" 1 1 (m_Sea_len c) := D_Sea_len.met (fun f fd F => ok_Sea_len T  F)
  have h_def_is_integer : DefO l.prog w K mg base "is_integer" 1 ["value"] (m_is_integer c) := ok_is_integer T D_is_integer 
  have h_def_is_within : DefO l.prog w K mg base "is_within" 2 ["value", "least", "most"] (m_is_within c) := ok_is_within T D_is_within h_def_is_integer
  have h_def_wrong_places : DefO l.prog w K mg base "wrong_places" 3 ["values", "many", "least", "most"] (m_wrong_places c) := ok_wrong_places T D_wrong_places h_def_is_within
  have h_def_check_sea : DefO l.prog w K mg base "check_sea" 1 ["sea"] (m_check_sea c) := ok_check_sea T D_check_sea 
  have h_def_check_bridges : DefO l.prog w K mg base "check_bridges" 4 ["sea", "bridges"] (m_check_bridges c) := ok_check_bridges T D_check_bridges h_def_wrong_places h_prop_Sea_pairs
  have h_def_index_pairs : DefO l.prog w K mg base "index_pairs" 1 ["many"] (m_index_pairs c) := ok_index_pairs T D_index_pairs 
  have h_def_lots_of : DefO l.prog w K mg base "lots_of" 1 ["many"] (m_lots_of c) := ok_lots_of T D_lots_of 
  have h_def_has : DefO l.prog w K mg base "has" 1 ["lot", "index"] (m_has c) := ok_has T D_has 
  have h_def_parts : DefO l.prog w K mg base "parts" 2 ["lot", "one", "other"] (m_parts c) := ok_parts T D_parts h_def_has
  have h_def_indexes_in : DefO l.prog w K mg base "indexes_in" 2 ["many", "lot"] (m_indexes_in c) := ok_indexes_in T D_indexes_in h_def_has
  have h_def_in_order : DefO l.prog w K mg base "in_order" 4 ["tuples"] (m_in_order c) := ok_in_order T tb_in_order D_in_order 
  have h_def_leading_out : DefO l.prog w K mg base "leading_out" 3 ["many", "bridges"] (m_leading_out c) := ok_leading_out T D_leading_out h_def_index_pairs h_def_lots_of h_def_parts
  have h_def_least_cuts : DefO l.prog w K mg base "least_cuts" 5 ["sea", "bridges"] (m_least_cuts c) := ok_least_cuts T D_least_cuts h_def_check_sea h_def_check_bridges h_met_Sea_len h_def_leading_out h_def_lots_of h_def_has h_def_indexes_in h_def_in_order h_prop_Sea_islands
  have h_dk_bridges_sea_least_cuts : DefOK l.prog w K mg base "least_cuts" 5 ["sea", "bridges"] ["bridges", "sea"] [1, 0] (m_least_cuts c) := D_least_cuts.k rfl (fun _ _ _ _ _ _ ws hw => match ws, hw with | [_, _], _ => rfl) (fun f fd F => (fk_least_cuts T h_def_check_sea h_def_check_bridges h_met_Sea_len h_def_leading_out h_def_lots_of h_def_has h_def_indexes_in h_def_in_order h_prop_Sea_islands F))
  have h_def_reel : DefOk l.prog w K mg base "_law_reel" 1 ["script", "turn"] (m_reel c) := ok_reel T D_reel 
  have h_def_upto : DefOk l.prog w K mg base "_law_upto" 1 ["reel", "many"] (m_upto c) := ok_upto T D_upto 
  have h_def_pick : DefOk l.prog w K mg base "_law_pick" 2 ["reel", "menu"] (m_pick c) := ok_pick T D_pick h_def_upto
  have h_def_title : DefOk l.prog w K mg base "_law_title" 3 ["reel"] (m_title c) := ok_title T D_title h_def_upto h_def_pick
  have h_def_titles : DefOk l.prog w K mg base "_law_titles" 4 ["reel", "many"] (m_titles c) := ok_titles T D_titles h_def_title
  have h_def_spans : DefOk l.prog w K mg base "_law_spans" 1 ["many"] (m_spans c) := ok_spans T D_spans 
  have h_def_great : DefOk l.prog w K mg base "_law_great" 2 ["reel"] (m_great c) := ok_great T D_great h_def_upto
  have h_def_numbers : DefOk l.prog w K mg base "_law_numbers" 3 ["reel", "many"] (m_numbers c) := ok_numbers T D_numbers h_def_upto h_def_great h_def_pick
  have h_def_lots : DefOk l.prog w K mg base "_law_lots" 1 ["many"] (m_lots c) := ok_lots T D_lots 
  have h_def_out : DefOk l.prog w K mg base "_law_out" 2 ["many", "numbers", "lot"] (m_out c) := ok_out T D_out h_def_spans
  have h_def_names : DefOk l.prog w K mg base "_law_names" 1 ["isles", "lot"] (m_names c) := ok_names T D_names 
  have h_def_ringed : DefOk l.prog w K mg base "_law_ringed" 3 ["reel", "many"] (m_ringed c) := ok_ringed T D_ringed h_def_great h_def_upto h_def_spans
  have h_def_right : DefOk l.prog w K mg base "_law_right" 6 ["reel"] (m_right c) := ok_right T D_right h_def_upto h_def_titles h_def_ringed h_def_numbers h_def_lots h_def_out h_def_names h_make_Sea_init h_def_least_cuts h_dk_bridges_sea_least_cuts
  exact law_FnG (ok_lawF T (fun_mk lL cL kL) h_def_reel h_def_right) (law_true c)
end Law
namespace Law
open PySem PySem.Spec PyProof.Rows L2 DL
variable [DL.Nm]
def reel (a b k : Int) : D := .lst [.int a, .int b, .int k]
def st1 (a k : Int) : Int := (a * 48119 + (k + 1) * (k + 1) * 31 + 5) % 2147483543
def st2 (a k : Int) : Int := (st1 a k * (25013 + st1 a k % 7001) + 3) % 2147483579
theorem upto_1 (c : Cs) {a b k n : Int} (hn : 0 < n) (hn2 : n.natAbs.log2 < 9000) (hb : 0 < b) :
    m_upto c [.ow true (reel a b k), .fr (.int n)] = .ret (.v (.int (b % n))) [.ow true (reel a (b / n) k), .fr (.int n)] := by
  simp [m_upto, b_upto, reel, divW, runD, seqS, ifS, DL.bin, bnd, lift2, var, cst, R.get, fz, asgS, putN, freeSl, retS, asgT, tupG, seqG, nameG, subG, isLst, liftL, aNil, aCons, gets, vals, lstD, tupD, gtD, ltD, leD, geD, cmpD, ixD, atI, ixN, divC, upA, skipS, addD, subD, mulD, modD, fdivD, intC, absC, lenD, callD, callS, bws, toArgs, backS, findA, notD, iteD, expS, hn, hn2, hb]
theorem upto_2 (c : Cs) {a b k n : Int} (hn : 0 < n) (hn2 : n.natAbs.log2 < 9000) (hb : ¬ 0 < b) (hk : 0 ≤ k) (hk2 : k < 2 ^ 40) :
    m_upto c [.ow true (reel a b k), .fr (.int n)] = .ret (.v (.int (st2 a k / 128 % n))) [.ow true (reel (st2 a k) b (k + 1)), .fr (.int n)] := by
  have h1 : mulOk (k + 1) (k + 1) = true := mulOk_l (by omega) (by omega)
  have h2 : mulOk (st1 a k) (25013 + st1 a k % 7001) = true := mulOk_l (by unfold st1; omega) (by unfold st1; omega)
  have h3 : ∀ i : Int, mulOk i 48119 = true := fun i => mulOk_r (by omega) (by omega)
  have h4 : ∀ i : Int, mulOk i 31 = true := fun i => mulOk_r (by omega) (by omega)
  have e : (a * 48119 + (k + 1) * (k + 1) * 31 + 5) % 2147483543 = st1 a k := rfl
  simp [m_upto, b_upto, reel, divW, runD, seqS, ifS, DL.bin, bnd, lift2, var, cst, R.get, fz, asgS, putN, freeSl, retS, asgT, tupG, seqG, nameG, subG, isLst, liftL, aNil, aCons, gets, vals, lstD, tupD, gtD, ltD, leD, geD, cmpD, ixD, atI, ixN, divC, upA, skipS, addD, subD, mulD, modD, fdivD, intC, absC, lenD, callD, callS, bws, toArgs, backS, findA, notD, iteD, expS, hn, hn2, hb, h1, h2, h3, h4, e, st2]

end Law
namespace Law
open PySem PySem.Spec PyProof.Rows L2 DL
variable [DL.Nm]
/-- a reel that has been drawn from N times at the most -/
def RAt (N : Nat) (d : D) : Prop := ∃ a b k, d = reel a b k ∧ 0 ≤ k ∧ k ≤ N
theorem RAt.mono {N M : Nat} {d : D} (h : RAt N d) (l : N ≤ M) : RAt M d := by
  obtain ⟨a, b, k, e, h1, h2⟩ := h
  exact ⟨a, b, k, e, h1, by omega⟩
theorem upto_w (c : Cs) {N : Nat} {d : D} {n : Int} (h : RAt N d) (hN : N < 2 ^ 40) (hn : 0 < n) (hn2 : n < 2 ^ 120) :
    ∃ r d', m_upto c [.ow true d, .fr (.int n)] = .ret (.v (.int r)) [.ow true d', .fr (.int n)] ∧ 0 ≤ r ∧ r < n ∧ RAt (N + 1) d' := by
  have h9 : n.natAbs.log2 < 9000 := by
    have z : n.natAbs ≠ 0 := by omega
    have b : n.natAbs < 2 ^ 120 := by omega
    have := (Nat.log2_lt z).mpr b
    omega
  obtain ⟨a, b, k, rfl, h1, h2⟩ := h
  by_cases hb : 0 < b
  · exact ⟨_, _, upto_1 c hn h9 hb, Int.emod_nonneg _ (by omega), Int.emod_lt_of_pos _ hn, a, b / n, k, rfl, h1, by omega⟩
  · exact ⟨_, _, upto_2 c hn h9 hb h1 (by omega), Int.emod_nonneg _ (by omega), Int.emod_lt_of_pos _ hn, _, b, k + 1, rfl, by omega, by omega⟩
theorem upto_ok (c : Cs) {N : Nat} {d : D} {n : Int} (h : RAt N d) (hN : N < 2 ^ 40) (hn : 0 < n) (hn2 : n < 1073741824) :
    ∃ r d', m_upto c [.ow true d, .fr (.int n)] = .ret (.v (.int r)) [.ow true d', .fr (.int n)] ∧ 0 ≤ r ∧ r < n ∧ RAt (N + 1) d' := upto_w c h hN hn (by omega)
theorem atI_in {α : Type} {xs : List α} {r : Int} (h0 : 0 ≤ r) (h1 : r < xs.length) : ∃ x, atI xs r = some x ∧ x ∈ xs := by
  have l : r.toNat < xs.length := by omega
  refine ⟨xs[r.toNat], ?_, List.getElem_mem l⟩
  simp [atI, ixN, h0, h1, l]
theorem pick_l (c : Cs) {N : Nat} {d : D} {ds : List D} (h : RAt N d) (hN : N < 2 ^ 40) (hn : 0 < ds.length) (hn2 : ds.length < 1000) :
    ∃ x d', m_pick c [.ow true d, .fr (.lst ds)] = .ret (.v x) [.ow true d', .fr (.lst ds)] ∧ x ∈ ds ∧ RAt (N + 1) d' := by
  obtain ⟨r, d', e, h0, h1, hr⟩ := upto_ok c (n := ds.length) h hN (by omega) (by omega)
  obtain ⟨x, ex, hx⟩ := atI_in h0 h1
  refine ⟨x, d', ?_, hx, hr⟩
  simp [m_pick, b_pick, runD, retS, DL.bin, bnd, lift2, var, R.get, fz, liftL, aNil, aCons, gets, ixD, upA, lenD, callD, callS, bws, toArgs, backS, findA, e, ex]
theorem pick_o (c : Cs) {N : Nat} {d : D} {ds : List D} (h : RAt N d) (hN : N < 2 ^ 40) (hn : 0 < ds.length) (hn2 : ds.length < 1000) :
    ∃ x d', m_pick c [.ow true d, .ow true (.lst ds)] = .ret (.v x) [.ow true d', .ow true (.lst ds)] ∧ x ∈ ds ∧ RAt (N + 1) d' := by
  obtain ⟨r, d', e, h0, h1, hr⟩ := upto_ok c (n := ds.length) h hN (by omega) (by omega)
  obtain ⟨x, ex, hx⟩ := atI_in h0 h1
  refine ⟨x, d', ?_, hx, hr⟩
  simp [m_pick, b_pick, runD, retS, DL.bin, bnd, lift2, var, R.get, fz, liftL, aNil, aCons, gets, ixD, upA, lenD, callD, callS, bws, toArgs, backS, findA, e, ex]
theorem pick_s (c : Cs) {N : Nat} {d : D} {z : Str} (h : RAt N d) (hN : N < 2 ^ 40) (hn : 0 < z.length) (hn2 : z.length < 1000) :
    ∃ x d', m_pick c [.ow true d, .fr (.str z)] = .ret (.v (.str ⟨#[x]⟩)) [.ow true d', .fr (.str z)] ∧ x ∈ z.cps.toList ∧ RAt (N + 1) d' := by
  obtain ⟨r, d', e, h0, h1, hr⟩ := upto_ok c (n := z.length) h hN (by omega) (by omega)
  obtain ⟨x, ex, hx⟩ := atI_in (xs := z.cps.toList) h0 (by simpa [Str.length] using h1)
  refine ⟨x, d', ?_, hx, hr⟩
  have hz : z.length ≤ sizeLine := by
    rw [sizeLine_eq]
    omega
  simp [m_pick, b_pick, runD, retS, DL.bin, bnd, lift2, var, R.get, fz, liftL, aNil, aCons, gets, ixD, upA, lenD, callD, callS, bws, toArgs, backS, findA, e, ex, hz]

end Law
namespace Law
open PySem PySem.Spec PyProof.Rows L2 DL
variable [DL.Nm]
/-! ### lists of texts -/
def OkS (xs : List Str) : Prop := ∀ x ∈ xs, PyData.strOk x = true
theorem OkS.tl {x : Str} {xs : List Str} (h : OkS (x :: xs)) : OkS xs := fun y hy => h y (List.mem_cons_of_mem _ hy)
theorem OkS.hd {x : Str} {xs : List Str} (h : OkS (x :: xs)) : PyData.strOk x = true := h x List.mem_cons_self
theorem py_strs : ∀ xs : List Str, D.pys (xs.map D.str) = some (xs.map PyData.str)
  | [] => rfl
  | x :: xs => by simp [D.pys, D.py, py_strs xs]
theorem py_lst (xs : List Str) : D.py (.lst (xs.map D.str)) = some (.list (xs.map PyData.str)) := by simp [D.py, py_strs]
theorem py_tup (xs : List Str) : D.py (.tup (xs.map D.str)) = some (.tuple (xs.map PyData.str)) := by simp [D.py, py_strs]
theorem lay_strs : ∀ {xs : List Str}, OkS xs → PyData.canLayAll0 (xs.map PyData.str) = true
  | [], _ => by simp [PyData.canLayAll0]
  | x :: xs, h => by simp [PyData.canLayAll0, PyData.canLay0, lay_strs h.tl, h.hd]
theorem dep_strs : ∀ xs : List Str, PyData.depthAll (xs.map PyData.str) = 0
  | [] => by simp [PyData.depthAll]
  | x :: xs => by simp [PyData.depthAll, PyData.depth, dep_strs xs]
theorem shp_lst {xs : List Str} (h : OkS xs) : SeqAt.shaped (.list (xs.map PyData.str)) = true := by simp [SeqAt.shaped, PyData.canLay0, PyData.depth, lay_strs h, dep_strs]
theorem shp_tup {xs : List Str} (h : OkS xs) : SeqAt.shaped (.tuple (xs.map PyData.str)) = true := by simp [SeqAt.shaped, PyData.canLay0, PyData.depth, lay_strs h, dep_strs]
theorem eqv_strs : ∀ xs ys : List Str, PyData.eqvAll (xs.map PyData.str) (ys.map PyData.str) = decide (xs = ys)
  | [], [] => by simp [PyData.eqvAll]
  | [], _ :: _ => by simp [PyData.eqvAll]
  | _ :: _, [] => by simp [PyData.eqvAll]
  | x :: xs, y :: ys => by
    simp only [List.map_cons, PyData.eqvAll, PyData.eqv, eqv_strs xs ys]
    by_cases h : x = y
    · subst h
      simp
    · simp [h]
theorem eq_lst {xs ys : List Str} (h : OkS xs) (h' : OkS ys) : eqD false (.lst (xs.map D.str)) (.lst (ys.map D.str)) = some (.v (.bl (decide (xs = ys)))) := by
  simp [eqD, eqP, py_lst, shp_lst h, shp_lst h', PyData.eqv, eqv_strs]
theorem ne_lst {xs ys : List Str} (h : OkS xs) (h' : OkS ys) : eqD true (.lst (xs.map D.str)) (.lst (ys.map D.str)) = some (.v (.bl (!decide (xs = ys)))) := by
  simp [eqD, eqP, py_lst, shp_lst h, shp_lst h', PyData.eqv, eqv_strs]
theorem eq_tup {xs ys : List Str} (h : OkS xs) (h' : OkS ys) : eqD false (.tup (xs.map D.str)) (.tup (ys.map D.str)) = some (.v (.bl (decide (xs = ys)))) := by
  simp [eqD, eqP, py_tup, shp_tup h, shp_tup h', PyData.eqv, eqv_strs]
theorem eq_str {x y : Str} : eqD false (.str x) (.str y) = some (.v (.bl (decide (x = y)))) := by simp [eqD]
theorem ne_str {x y : Str} : eqD true (.str x) (.str y) = some (.v (.bl (!decide (x = y)))) := by simp [eqD]
theorem shp_int (i : Int) : SeqAt.shaped (.int i) = true := by
  simp [SeqAt.shaped, PyData.canLay0, PyData.depth]
theorem eq_int (i j : Int) : eqD false (.int i) (.int j) = some (.v (.bl (decide (i = j)))) := by
  by_cases z : i = j
  · subst z
    simp [eqD, eqP, D.py, shp_int, PyData.eqv]
  · simp [eqD, eqP, D.py, shp_int, PyData.eqv, z]
/-- x in a list of texts -/
theorem flats_strs : ∀ xs : List Str, D.flats (xs.map D.str) = some (xs.map V.str)
  | [] => rfl
  | x :: xs => by simp [D.flats, D.flat, flats_strs xs]
theorem inV_strs (x : Str) : ∀ xs : List Str, inV (.str x) (xs.map V.str) = decide (x ∈ xs)
  | [] => by simp [inV]
  | y :: ys => by
    have ih := inV_strs x ys
    unfold inV at ih ⊢
    rw [List.map_cons, List.any_cons, ih]
    by_cases h : x = y
    · subst h
      simp [eqV]
    · have h' : ¬ y = x := fun z => h z.symm
      simp [eqV, h, h']
theorem in_lst (x : Str) (xs : List Str) (ng : Bool) : inD ng (.str x) (.lst (xs.map D.str)) = some (.v (.bl (xor ng (decide (x ∈ xs))))) := by
  cases ng <;> simp [inD, D.flat, flats_strs, inV_strs]
theorem in_tup (x : Str) (xs : List Str) (ng : Bool) : inD ng (.str x) (.tup (xs.map D.str)) = some (.v (.bl (xor ng (decide (x ∈ xs))))) := by
  cases ng <;> simp [inD, D.flat, flats_strs, inV_strs]

/-! ### names -/
def low (k : Nat) : Bool := decide (97 ≤ k ∧ k ≤ 122)
def lod (k : Nat) : Bool := low k || decide (48 ≤ k ∧ k ≤ 57)
/-- the signs of a name -/
def NmL (l : List Nat) : Bool := (match l with
  | [] => false
  | k :: _ => low k) && decide (l.length ≤ 8) && l.all lod
def Nm (x : Str) : Bool := NmL x.cps.toList

end Law
namespace Law
open PySem PySem.Spec PyProof.Rows L2 DL
variable [DL.Nm]
def NmP (l : List Nat) : Bool := (match l with
  | [] => false
  | k :: _ => low k) && l.all lod
theorem Nm_of {x : Str} (h : NmP x.cps.toList = true) (l : x.length ≤ 8) : Nm x = true := by
  unfold NmP at h
  unfold Nm NmL
  rw [Bool.and_eq_true] at h
  rw [Bool.and_eq_true, Bool.and_eq_true]
  exact ⟨⟨h.1, decide_eq_true (by simpa [Str.length] using l)⟩, h.2⟩
theorem NmP_app {l : List Nat} {k : Nat} (h : NmP l = true) (hk : lod k = true) : NmP (l ++ [k]) = true := by
  cases l with
  | nil => simp [NmP] at h
  | cons a r =>
    simp only [NmP, List.cons_append, List.all_cons, List.all_append, Bool.and_eq_true] at h ⊢
    exact ⟨h.1, h.2.1, h.2.2, hk, rfl⟩
theorem Nm_P {x : Str} (h : Nm x = true) : NmP x.cps.toList = true ∧ x.length ≤ 8 ∧ 0 < x.length := by
  unfold Nm NmL at h
  rw [Bool.and_eq_true, Bool.and_eq_true] at h
  obtain ⟨⟨h1, h2⟩, h3⟩ := h
  refine ⟨?_, by simpa [Str.length] using h2, ?_⟩
  · unfold NmP
    rw [Bool.and_eq_true]
    exact ⟨h1, h3⟩
  · cases e : x.cps.toList with
    | nil => rw [e] at h1; cases h1
    | cons a r =>
      have : x.cps.toList.length = r.length + 1 := by rw [e]; rfl
      simp [Str.length] at this ⊢
      omega
theorem lod_lt {k : Nat} (h : lod k = true) : k < 123 ∧ k ≠ 32 ∧ 48 ≤ k := by
  unfold lod low at h
  simp at h
  omega
theorem Nm_lod {x : Str} (h : Nm x = true) {k : Nat} (hk : k ∈ x.cps.toList) : lod k = true := by
  have := (Nm_P h).1
  unfold NmP at this
  rw [Bool.and_eq_true] at this
  exact List.all_eq_true.mp this.2 k hk
theorem Nm_ok {x : Str} (h : Nm x = true) : PyData.strOk x = true := by
  unfold PyData.strOk
  rw [Array.all_eq_true_iff_forall_mem]
  intro k hk
  have := lod_lt (Nm_lod h (by simpa using hk))
  simp
  omega
theorem letters_in : ∀ k ∈ ("abcdefghijklmnopqrstuvwxyz" : Str).cps.toList, low k = true := by decide +kernel
theorem both_in : ∀ k ∈ (("abcdefghijklmnopqrstuvwxyz" : Str) ++ ("0123456789" : Str)).cps.toList, lod k = true := by decide +kernel
theorem both_len : (("abcdefghijklmnopqrstuvwxyz" : Str) ++ ("0123456789" : Str)).length = 36 := by decide +kernel
theorem both_sz : ("abcdefghijklmnopqrstuvwxyz" : Str).length + ("0123456789" : Str).length ≤ sizeLine := by decide +kernel
/-- one more sign -/
def tBody (c : Cs) : DS → Fl := asgS 2 (DL.bin addD (var 2) (fz (callD 2 (m_pick c) (aCons (var 0) (aCons (DL.bin addD (var 1) (cst (.str "0123456789"))) aNil)))))
def okSl (s : Sl) : Prop := s = .un ∨ ∃ e, s = .fr e
theorem title_loop (c : Cs) : ∀ (ds : List D) (N : Nat) (d : D) (f : Str) (s3 : Sl), RAt N d → N + ds.length < 2 ^ 40 → okSl s3 → NmP f.cps.toList = true → f.length + ds.length ≤ 8 →
    ∃ d' f' s', forD (nameG 3) (tBody c) ds [.ow true d, .fr (.str "abcdefghijklmnopqrstuvwxyz"), .fr (.str f), s3] = .nx [.ow true d', .fr (.str "abcdefghijklmnopqrstuvwxyz"), .fr (.str f'), s'] ∧ RAt (N + ds.length) d' ∧ Nm f' = true
  | [], N, d, f, s3, h, hN, _, hf, hl => ⟨d, f, s3, rfl, h, Nm_of hf (by simpa using hl)⟩
  | x :: ds, N, d, f, s3, h, hN, hs, hf, hl => by
    have hl' : f.length + 1 + ds.length ≤ 8 := by simp at hl; omega
    obtain ⟨k, d1, e, hk, h1⟩ := pick_s c (z := ("abcdefghijklmnopqrstuvwxyz" : Str) ++ ("0123456789" : Str)) h (by omega) (by rw [both_len]; omega) (by rw [both_len]; omega)
    have hsz : f.length + (⟨#[k]⟩ : Str).length ≤ sizeLine := by
      rw [sizeLine_eq]
      simp [Str.length] at hl' ⊢
      omega
    have turn : (match nameG 3 x [.ow true d, .fr (.str "abcdefghijklmnopqrstuvwxyz"), .fr (.str f), s3] with
        | .nx S1 => tBody c S1
        | o => o) = .nx [.ow true d1, .fr (.str "abcdefghijklmnopqrstuvwxyz"), .fr (.str (f ++ (⟨#[k]⟩ : Str))), .fr x] := by
      rcases hs with rfl | ⟨e0, rfl⟩ <;> simp [tBody, runD, seqS, ifS, DL.bin, bnd, lift2, var, cst, R.get, fz, asgS, putN, freeSl, retS, asgT, tupG, seqG, nameG, subG, isLst, liftL, aNil, aCons, gets, vals, lstD, tupD, gtD, ltD, leD, geD, cmpD, ixD, atI, ixN, divC, upA, skipS, addD, subD, mulD, modD, fdivD, intC, absC, lenD, callD, callS, bws, toArgs, backS, findA, notD, iteD, expS, both_sz, hsz, e]
    have hx : nameG 3 x [.ow true d, .fr (.str "abcdefghijklmnopqrstuvwxyz"), .fr (.str f), s3] = .nx [.ow true d, .fr (.str "abcdefghijklmnopqrstuvwxyz"), .fr (.str f), .fr x] := by
      rcases hs with rfl | ⟨e0, rfl⟩ <;> simp [nameG, freeSl]
    rw [hx] at turn
    have tl' : (f ++ (⟨#[k]⟩ : Str)).cps.toList = f.cps.toList ++ [k] := TL.tl_append f ⟨#[k]⟩
    have ln : (f ++ (⟨#[k]⟩ : Str)).length = f.length + 1 := by
      have := congrArg List.length tl'
      simpa [Str.length] using this
    obtain ⟨d2, f2, s2, e2, h2, hf2⟩ := title_loop c ds (N + 1) d1 (f ++ (⟨#[k]⟩ : Str)) (.fr x) h1 (by simp at hN; omega) (.inr ⟨x, rfl⟩) (by rw [tl']; exact NmP_app hf (both_in k hk)) (by rw [ln]; omega)
    refine ⟨d2, f2, s2, ?_, h2.mono (by simp; omega), hf2⟩
    unfold forD
    rw [hx]
    dsimp only at turn ⊢
    rw [turn]
    exact e2

end Law
namespace Law
open PySem PySem.Spec PyProof.Rows L2 DL
variable [DL.Nm]
def words8 : List Str := ["islands", "island", "sea", "way", "in", "out", "a", "b"]
theorem words8_ok : ∀ x ∈ words8, Nm x = true := by decide +kernel
theorem rng_length (lo : Int) (n : Nat) : (rng lo n).length = n := by simp [rng]
theorem title_ok (c : Cs) {N : Nat} {d : D} (h : RAt N d) (hN : N < 2 ^ 39) :
    ∃ x d', m_title c [.ow true d] = .ret (.v (.str x)) [.ow true d'] ∧ Nm x = true ∧ RAt (N + 20) d' := by
  obtain ⟨r, d1, e1, r0, r1, h1⟩ := upto_ok c (n := 4) h (by omega) (by omega) (by omega)
  have z4 : (8 : Nat) ≤ sizeLine := by decide
  have z5 : (5 : Nat) ≤ sizeLine := by decide
  by_cases hr : r = 0
  · subst hr
    obtain ⟨x, d2, e2, hx, h2⟩ := pick_l c (ds := words8.map D.str) h1 (by omega) (by decide) (by decide)
    obtain ⟨w, hw, rfl⟩ := List.mem_map.mp hx
    refine ⟨w, d2, ?_, words8_ok w hw, h2.mono (by omega)⟩
    simp only [words8, List.map_cons, List.map_nil] at e2
    simp [m_title, b_title, runD, seqS, ifS, DL.bin, bnd, lift2, var, cst, R.get, fz, asgS, putN, freeSl, retS, asgT, tupG, seqG, nameG, subG, isLst, liftL, aNil, aCons, gets, vals, lstD, tupD, gtD, ltD, leD, geD, cmpD, ixD, atI, ixN, divC, upA, skipS, addD, subD, mulD, modD, fdivD, intC, absC, lenD, callD, callS, bws, toArgs, backS, findA, notD, iteD, expS, e1, e2, eq_int, z4]
  · obtain ⟨k, d2, e2, hk, h2⟩ := pick_s c (z := "abcdefghijklmnopqrstuvwxyz") h1 (by omega) (by decide +kernel) (by decide +kernel)
    obtain ⟨y, d3, e3, hy, h3⟩ := pick_l c (ds := [.int 0, .int 0, .int 1, .int 2, .int 7]) h2 (by omega) (by decide) (by decide)
    have hy' : ∃ m : Nat, y = .int (m : Int) ∧ m ≤ 7 := by
      simp at hy
      rcases hy with rfl | rfl | rfl | rfl
      · exact ⟨0, rfl, by omega⟩
      · exact ⟨1, rfl, by omega⟩
      · exact ⟨2, rfl, by omega⟩
      · exact ⟨7, rfl, by omega⟩
    obtain ⟨m, rfl, hm⟩ := hy'
    have sm : smallI (m : Int) = true := by
      unfold smallI
      simp
      omega
    have hf : NmP (⟨#[k]⟩ : Str).cps.toList = true := by
      have := letters_in k hk
      simp [NmP, this, lod]
    obtain ⟨d4, f4, s4, e4, h4, hf4⟩ := title_loop c (rng 0 m) (N + 1 + 1 + 1) d3 ⟨#[k]⟩ .un h3 (by rw [rng_length]; omega) (.inl rfl) hf (by rw [rng_length]; simp [Str.length]; omega)
    rw [rng_length] at h4
    refine ⟨f4, d4, ?_, hf4, h4.mono (by omega)⟩
    have e4' := e4
    unfold tBody at e4'
    have mm : ((m : Int)).toNat = m := by omega
    simp [m_title, b_title, forS, iR1, runD, seqS, ifS, DL.bin, bnd, lift2, var, cst, R.get, fz, asgS, putN, freeSl, retS, asgT, tupG, seqG, nameG, subG, isLst, liftL, aNil, aCons, gets, vals, lstD, tupD, gtD, ltD, leD, geD, cmpD, ixD, atI, ixN, divC, upA, skipS, addD, subD, mulD, modD, fdivD, intC, absC, lenD, callD, callS, bws, toArgs, backS, findA, notD, iteD, expS, e1, e2, e3, eq_int, hr, z5, sm] at e4' ⊢
    simp [e4', upA]

end Law
namespace Law
open PySem PySem.Spec PyProof.Rows L2 DL
variable [DL.Nm]
/-! ### a comprehension whose parts change nothing -/
theorem lc_pure {i : Nat} {c f : DS → Out} {p : D → Bool} {g : D → D} {S : DS} (hi : i < S.length) : ∀ ds : List D, (∀ d ∈ ds, c (S.set i (.fr d)) = .ok (.v (.bl (p d))) (S.set i (.fr d))) → (∀ d ∈ ds, p d = true → f (S.set i (.fr d)) = .ok (.v (g d)) (S.set i (.fr d))) →
    lcG true [i] [i] (elemT c f) ds (S.set i .un) = some ((ds.filter p).map g, S.set i .un)
  | [], _, _ => rfl
  | d :: ds, hc, hf => by
    have ih := lc_pure hi ds (fun e he => hc e (List.mem_cons_of_mem _ he)) fun e he => hf e (List.mem_cons_of_mem _ he)
    have hb : bindD true [i] d (S.set i .un) = some (S.set i (.fr d)) := by simp [bindD, putD]
    have okw : okW (S.set i (.fr d)) [i] = true := by simp [okW, hi]
    have wi : wipeS (S.set i (.fr d)) [i] = S.set i .un := by simp [wipeS]
    unfold lcG
    rw [hb]
    have h1 := hc d List.mem_cons_self
    cases hp : p d with
    | true =>
      have h2 := hf d List.mem_cons_self hp
      rw [hp] at h1
      simp only [elemT, h1, h2, okw, wi, ih, List.filter_cons, hp, if_true, List.map_cons, List.singleton_append]
    | false =>
      rw [hp] at h1
      simp only [elemT, h1, okw, wi, ih, List.filter_cons, hp, if_true, List.nil_append, Bool.false_eq_true, if_false]
theorem comp_pure {i : Nat} {fi : DS → IOut} {c f : DS → Out} (p : D → Bool) (g : D → D) {S : DS} {ds : List D} {s : Sl} (hfi : fi S = .ok ds S) (hs : S[i]? = some s) (ok : okSl s) (hc : ∀ d ∈ ds, c (S.set i (.fr d)) = .ok (.v (.bl (p d))) (S.set i (.fr d))) (hf : ∀ d ∈ ds, p d = true → f (S.set i (.fr d)) = .ok (.v (g d)) (S.set i (.fr d)))
    (hl : ds.length ≤ sizeLine) : compD true [i] [i] fi c f S = .ok (.ow (.lst ((ds.filter p).map g))) S := by
  have hi : i < S.length := (List.getElem?_eq_some_iff.mp hs).1
  have e : okW S [i] = true := by
    rcases ok with rfl | ⟨e0, rfl⟩ <;> simp [okW, hs]
  have w : wipeS S [i] = S.set i .un := by simp [wipeS]
  have r : restS S (S.set i .un) [i] = S := by
    have e1 : S[i] = s := by
      rw [List.getElem?_eq_getElem hi] at hs
      exact Option.some.inj hs
    subst e1
    simp [restS, hs, List.set_getElem_self hi]
  have hlen : ((ds.filter p).map g).length ≤ sizeLine := by
    rw [List.length_map]
    exact Nat.le_trans (List.length_filter_le p ds) hl
  unfold compD compG
  rw [hfi]
  simp only [e, w, lc_pure hi ds hc hf, r, hlen, if_true, List.all_cons, List.contains_cons, beq_self_eq_true, Bool.true_or, List.all_nil, Bool.and_self]
/-! ### a name that is not there yet -/
theorem sub_len : ∀ {l xs : List Str}, l.Nodup → (∀ x ∈ l, x ∈ xs) → l.length ≤ xs.length
  | [], _, _, _ => Nat.zero_le _
  | x :: l, xs, nd, h => by
    rw [List.nodup_cons] at nd
    have hx := h x List.mem_cons_self
    have ih := sub_len (l := l) (xs := xs.erase x) nd.2 fun y hy => by
      have ne : y ≠ x := fun z => nd.1 (by rw [← z]; exact hy)
      exact (List.mem_erase_of_ne ne).mpr (h y (List.mem_cons_of_mem _ hy))
    have := List.length_erase_of_mem hx
    have pos : 0 < xs.length := List.length_pos_of_mem hx
    simp only [List.length_cons]
    omega
theorem spare_one {l xs : List Str} (nd : l.Nodup) (h : xs.length < l.length) : ∃ y ys, l.filter (fun x => !decide (x ∈ xs)) = y :: ys ∧ y ∈ l ∧ y ∉ xs := by
  cases e : l.filter (fun x => !decide (x ∈ xs)) with
  | nil =>
    have := sub_len nd (xs := xs) fun x hx => by
      have := List.filter_eq_nil_iff.mp e x hx
      simpa using this
    omega
  | cons y ys =>
    have : y ∈ l.filter (fun x => !decide (x ∈ xs)) := by rw [e]; exact List.mem_cons_self
    rw [List.mem_filter] at this
    exact ⟨y, ys, rfl, this.1, by simpa using this.2⟩

end Law
namespace Law
open PySem PySem.Spec PyProof.Rows L2 DL
variable [DL.Nm]
/-- a text and the numbers from 0 on -/
def nums (a : Str) (n : Nat) : List Str := (List.range n).map fun (k : Nat) => a ++ (Str.ofString (toString ((k : Nat) : Int)))
def gNum (a : Str) : D → D
  | .int k => .str (a ++ Str.ofString (toString k))
  | d => d
theorem nums_rng (a : Str) (n : Nat) : ((rng 0 n).filter fun _ => true).map (gNum a) = (nums a n).map D.str := by
  have : (rng 0 n).filter (fun _ => true) = rng 0 n := by simp
  rw [this]
  unfold rng nums
  rw [List.map_map, List.map_map]
  refine List.map_congr_left fun k _ => ?_
  show gNum a (.int (0 + (k : Int))) = D.str (a ++ Str.ofString (toString ((k : Nat) : Int)))
  rw [Int.zero_add]
  rfl
theorem qs_ok : ∀ n : Nat, n ≤ 5 → (nums "q" n).Nodup ∧ (∀ x ∈ nums "q" n, Nm x = true) ∧ (nums "q" n).length = n := by decide +kernel
theorem ns_ok : (nums "n" 7).Nodup ∧ (∀ x ∈ nums "n" 7, Nm x = true) ∧ (nums "n" 7).length = 7 := by decide +kernel
/-- the comprehension ['q' + str(k) for k in range(..)] -/
theorem nums_comp {i : Nat} {a : Str} {n : Nat} {fi : DS → IOut} {S : DS} {s : Sl} (hfi : fi S = .ok (rng 0 n) S) (hs : S[i]? = some s) (ok : okSl s) (hn : n ≤ 100) (ha : a.length ≤ 10) :
    compD true [i] [i] fi (cst (.bl true)) (DL.bin addD (cst (.str a)) (liftL strC (aCons (var i) aNil))) S = .ok (.ow (.lst ((nums a n).map D.str))) S := by
  have hi : i < S.length := (List.getElem?_eq_some_iff.mp hs).1
  rw [← nums_rng]
  refine comp_pure (fun _ => true) (gNum a) hfi hs ok (fun d _ => rfl) (fun d hd _ => ?_) (by rw [rng_length, sizeLine_eq]; omega)
  obtain ⟨k, hk, rfl⟩ := List.mem_map.mp hd
  have hk := List.mem_range.mp hk
  have e0 : ((0 : Int) + (k : Int)) = (k : Int) := by omega
  have key : ∀ k : Nat, k < 100 → (k : Int).natAbs.log2 < 1920 ∧ (Str.ofString (toString (k : Int))).length ≤ 3 := by decide +kernel
  obtain ⟨k1, k2⟩ := key k (by omega)
  have hstr : strC [.int (k : Int)] = some (.v (.str (Str.ofString (toString (k : Int))))) := by
    show (if (k : Int).natAbs.log2 < 1920 then some (R.v (.str (Str.ofString (toString (k : Int))))) else none) = _
    rw [if_pos k1]
  have hg : gNum a (.int (k : Int)) = .str (a ++ Str.ofString (toString (k : Int))) := rfl
  have sz : a.length + (Str.ofString (toString (k : Int))).length ≤ sizeLine := by
    rw [sizeLine_eq]
    omega
  rw [e0, hg]
  generalize Str.ofString (toString (k : Int)) = z at hstr sz ⊢
  simp [runD, seqS, ifS, DL.bin, bnd, lift2, var, cst, R.get, fz, asgS, putN, freeSl, retS, asgT, tupG, seqG, nameG, subG, isLst, liftL, aNil, aCons, gets, vals, lstD, tupD, gtD, ltD, leD, geD, cmpD, ixD, atI, ixN, divC, upA, skipS, addD, subD, mulD, modD, fdivD, intC, absC, lenD, callD, callS, bws, toArgs, backS, findA, notD, iteD, expS, hstr, hi, sz]
def pOut (xs : List Str) : D → Bool
  | .str x => !decide (x ∈ xs)
  | _ => false
theorem filter_strs (p : D → Bool) : ∀ l : List Str, ((l.map D.str).filter p).map id = (l.filter fun x => p (.str x)).map D.str
  | [] => rfl
  | x :: l => by
    have ih := filter_strs p l
    simp only [List.map_cons, List.filter_cons]
    cases h : p (.str x) <;> simp [h] <;> simpa using ih
/-- [each for each in .. if each not in xs], xs a list of texts in slot j -/
theorem out_comp {i j : Nat} {l xs : List Str} {fi : DS → IOut} {S : DS} {s sj : Sl} (hfi : fi S = .ok (l.map D.str) S) (hs : S[i]? = some s) (ok : okSl s) (hij : i ≠ j) (hj : S[j]? = some sj) (hsj : sj = .fr (.lst (xs.map D.str)) ∨ ∃ b, sj = .ow b (.lst (xs.map D.str))) (hl : l.length ≤ 100) :
    compD true [i] [i] fi (DL.bin (inD true) (var i) (var j)) (var i) S = .ok (.ow (.lst ((l.filter fun x => !decide (x ∈ xs)).map D.str))) S := by
  have hi : i < S.length := (List.getElem?_eq_some_iff.mp hs).1
  have e := filter_strs (pOut xs) l
  have e' : (l.filter fun x => pOut xs (.str x)) = l.filter fun x => !decide (x ∈ xs) := rfl
  rw [← e', ← e]
  refine comp_pure (pOut xs) id hfi hs ok (fun d hd => ?_) (fun d hd _ => ?_) (by rw [List.length_map, sizeLine_eq]; omega)
  · obtain ⟨x, _, rfl⟩ := List.mem_map.mp hd
    have hj' : ∀ t : Sl, (S.set i t)[j]? = some sj := fun t => by rw [List.getElem?_set_ne hij]; exact hj
    rcases hsj with rfl | ⟨b, rfl⟩ <;> simp [DL.bin, bnd, lift2, var, R.get, hi, hj', in_lst, pOut]
  · simp [var, hi]

end Law
namespace Law
open PySem PySem.Spec PyProof.Rows L2 DL
variable [DL.Nm]
/-- names, apart -/
def Row (xs : List Str) : Prop := (∀ x ∈ xs, Nm x = true) ∧ xs.Nodup
theorem Row.snoc {xs : List Str} {x : Str} (h : Row xs) (hx : Nm x = true) (n : x ∉ xs) : Row (xs ++ [x]) := by
  refine ⟨fun y hy => ?_, ?_⟩
  · rcases List.mem_append.mp hy with hy | hy
    · exact h.1 y hy
    · rw [List.mem_singleton.mp hy]
      exact hx
  · rw [List.nodup_append]
    refine ⟨h.2, by simp, fun a ha b hb => ?_⟩
    rw [List.mem_singleton.mp hb]
    exact fun z => n (by rw [← z]; exact ha)
theorem fz_ok {f : DS → Out} {S S' : DS} {d : D} (h : f S = .ok (.ow d) S') : fz f S = .ok (.v d) S' := by
  unfold fz
  rw [h]
theorem iLst_ok {f : DS → Out} {S S' : DS} {ds : List D} (h : f S = .ok (.v (.lst ds)) S') : iLst f S = .ok ds S' := by
  unfold iLst
  rw [h]
theorem seq_nx {g h : DS → Fl} {S S' : DS} (e : g S = .nx S') : seqS g h S = h S' := by
  unfold seqS
  rw [e]
theorem asg_v {f : DS → Out} {S S' : DS} {d : D} {i : Nat} (h : f S = .ok (.v d) S') (fs : freeSl S' i = true) : asgS i f S = .nx (S'.set i (.fr d)) := by
  unfold asgS
  rw [h]
  show putN i (.v d) S' = _
  unfold putN
  rw [if_pos fs]
def S8 (d : D) (m : Nat) (xs : List Str) (s3 s4 s5 : Sl) : DS := [.ow true d, .fr (.int (m : Int)), .ow false (.lst (xs.map D.str)), s3, s4, s5, .un, .un]
def qComp : DS → Out := compD true [7] [7] (iR1 (aCons (var 1) aNil)) (cst (.bl true)) (DL.bin addD (cst (.str "q")) (liftL strC (aCons (var 7) aNil)))
def sComp : DS → Out := compD true [6] [6] (iLst (fz qComp)) (DL.bin (inD true) (var 6) (var 2)) (var 6)
theorem qComp_ok {d : D} {m : Nat} {xs : List Str} {s3 s4 s5 : Sl} (hm : m ≤ 5) : qComp (S8 d m xs s3 s4 s5) = .ok (.ow (.lst ((nums "q" m).map D.str))) (S8 d m xs s3 s4 s5) := by
  have sm : smallI (m : Int) = true := by
    unfold smallI
    simp
    omega
  have hf : iR1 (aCons (var 1) aNil) (S8 d m xs s3 s4 s5) = .ok (rng 0 m) (S8 d m xs s3 s4 s5) := by
    simp [iR1, aCons, aNil, var, sm, S8]
  have hs : (S8 d m xs s3 s4 s5)[7]? = some .un := rfl
  have ha : ("q" : Str).length ≤ 10 := by decide +kernel
  have h100 : m ≤ 100 := by omega
  unfold qComp
  exact nums_comp hf hs (.inl rfl) h100 ha
theorem sComp_ok {d : D} {m : Nat} {xs : List Str} {s3 s4 s5 : Sl} (hm : m ≤ 5) : sComp (S8 d m xs s3 s4 s5) = .ok (.ow (.lst (((nums "q" m).filter fun x => !decide (x ∈ xs)).map D.str))) (S8 d m xs s3 s4 s5) := by
  have hf : iLst (fz qComp) (S8 d m xs s3 s4 s5) = .ok ((nums "q" m).map D.str) (S8 d m xs s3 s4 s5) := by
    exact iLst_ok (fz_ok (qComp_ok hm))
  have ln := (qs_ok m hm).2.2
  have hs : (S8 d m xs s3 s4 s5)[6]? = some .un := rfl
  have hj : (S8 d m xs s3 s4 s5)[2]? = some (.ow false (.lst (xs.map D.str))) := rfl
  have h100 : (nums "q" m).length ≤ 100 := by
    rw [ln]
    omega
  unfold sComp
  exact out_comp hf hs (.inl rfl) (by decide) hj (.inr ⟨false, rfl⟩) h100
def tsA (c : Cs) : DS → Fl := asgS 4 (fz (callD 1 (m_title c) (aCons (var 0) aNil)))
def tsC : DS → Fl := guardS (isLst · 2) (appS 2 (aCons (iteD (DL.bin (inD false) (var 4) (var 2)) (DL.bin ixD (var 5) (cst (.int 0))) (var 4)) aNil))
def tsBody (c : Cs) : DS → Fl := seqS (tsA c) (seqS (asgS 5 (fz sComp)) tsC)
theorem tsA_ok (c : Cs) {d d1 : D} {m : Nat} {x : Str} {xs : List Str} {s3 s4 s5 : Sl} (h4 : okSl s4) (e1 : m_title c [.ow true d] = .ret (.v (.str x)) [.ow true d1]) : tsA c (S8 d m xs s3 s4 s5) = .nx (S8 d1 m xs s3 (.fr (.str x)) s5) := by
  rcases h4 with rfl | ⟨_, rfl⟩ <;> simp [tsA, S8, runD, seqS, ifS, DL.bin, bnd, lift2, var, cst, R.get, fz, asgS, putN, freeSl, retS, asgT, tupG, seqG, nameG, subG, isLst, liftL, aNil, aCons, gets, vals, lstD, tupD, gtD, ltD, leD, geD, cmpD, ixD, atI, ixN, divC, upA, skipS, addD, subD, mulD, modD, fdivD, intC, absC, lenD, callD, callS, bws, toArgs, backS, findA, notD, iteD, expS, e1]
theorem tsC_ok {d : D} {m : Nat} {x z : Str} {xs zs : List Str} {s3 : Sl} (sz : xs.length < sizeLine) : tsC (S8 d m xs s3 (.fr (.str x)) (.fr (.lst ((z :: zs).map D.str)))) = .nx (S8 d m (xs ++ [if x ∈ xs then z else x]) s3 (.fr (.str x)) (.fr (.lst ((z :: zs).map D.str)))) := by
  by_cases hin : x ∈ xs <;> simp [tsC, S8, guardS, appS, runD, seqS, ifS, DL.bin, bnd, lift2, var, cst, R.get, fz, asgS, putN, freeSl, retS, asgT, tupG, seqG, nameG, subG, isLst, liftL, aNil, aCons, gets, vals, lstD, tupD, gtD, ltD, leD, geD, cmpD, ixD, atI, ixN, divC, upA, skipS, addD, subD, mulD, modD, fdivD, intC, absC, lenD, callD, callS, bws, toArgs, backS, findA, notD, iteD, expS, in_lst, hin, sz]
theorem S8_5 {d : D} {m : Nat} {xs : List Str} {s3 s4 s5 t : Sl} : (S8 d m xs s3 s4 s5).set 5 t = S8 d m xs s3 s4 t := rfl
theorem titles_turn (c : Cs) {N m : Nat} {d : D} {xs : List Str} {s3 s4 s5 : Sl} (h : RAt N d) (hN : N < 2 ^ 38) (hm : m ≤ 5) (h4 : okSl s4) (h5 : okSl s5) (hx : Row xs) (hl : xs.length < m) :
    ∃ d' y s4' s5', tsBody c (S8 d m xs s3 s4 s5) = .nx (S8 d' m (xs ++ [y]) s3 s4' s5') ∧ okSl s4' ∧ okSl s5' ∧ RAt (N + 20) d' ∧ Row (xs ++ [y]) := by
  obtain ⟨x, d1, e1, hx1, h1⟩ := title_ok c h (by omega)
  obtain ⟨nd, nm, ln⟩ := qs_ok m hm
  obtain ⟨z, zs, ez, hz, hzx⟩ := spare_one (l := nums "q" m) (xs := xs) nd (by omega)
  have f5 : freeSl (S8 d1 m xs s3 (.fr (.str x)) s5) 5 = true := by
    rcases h5 with rfl | ⟨_, rfl⟩ <;> rfl
  have sz : xs.length < sizeLine := by
    rw [sizeLine_eq]
    omega
  refine ⟨d1, if x ∈ xs then z else x, .fr (.str x), .fr (.lst ((z :: zs).map D.str)), ?_, .inr ⟨_, rfl⟩, .inr ⟨_, rfl⟩, h1, ?_⟩
  · have e5 := asg_v (i := 5) (fz_ok (sComp_ok (d := d1) (xs := xs) (s3 := s3) (s4 := .fr (.str x)) (s5 := s5) hm)) f5
    rw [ez, S8_5] at e5
    exact (seq_nx (tsA_ok c h4 e1)).trans ((seq_nx e5).trans (tsC_ok sz))
  · by_cases hin : x ∈ xs
    · rw [if_pos hin]
      exact hx.snoc (nm z hz) hzx
    · rw [if_neg hin]
      exact hx.snoc hx1 hin

end Law
namespace Law
open PySem PySem.Spec PyProof.Rows L2 DL
variable [DL.Nm]
theorem forD_nx {bd : D → DS → Fl} {b : DS → Fl} {x : D} {ds : List D} {S S1 S2 : DS} (h1 : bd x S = .nx S1) (h2 : b S1 = .nx S2) : forD bd b (x :: ds) S = forD bd b ds S2 := by
  rw [forD, h1]
  dsimp only
  rw [h2]
theorem forS_ok {fi : DS → IOut} {bd : D → DS → Fl} {b : DS → Fl} {S S' : DS} {ds : List D} (h : fi S = .ok ds S') : forS fi bd b S = forD bd b ds S' := by
  unfold forS
  rw [h]
theorem name3_8 {d : D} {m : Nat} {xs : List Str} {s3 s4 s5 : Sl} (x : D) (h3 : okSl s3) : nameG 3 x (S8 d m xs s3 s4 s5) = .nx (S8 d m xs (.fr x) s4 s5) := by
  rcases h3 with rfl | ⟨_, rfl⟩ <;> rfl
theorem titles_loop (c : Cs) {m : Nat} (hm : m ≤ 5) : ∀ (ds : List D) (N : Nat) (d : D) (xs : List Str) (s3 s4 s5 : Sl), RAt N d → N + 20 * ds.length < 2 ^ 37 → okSl s3 → okSl s4 → okSl s5 → Row xs → xs.length + ds.length ≤ m →
    ∃ d' ys s3' s4' s5', forD (nameG 3) (tsBody c) ds (S8 d m xs s3 s4 s5) = .nx (S8 d' m ys s3' s4' s5') ∧ RAt (N + 20 * ds.length) d' ∧ Row ys ∧ ys.length = xs.length + ds.length
  | [], N, d, xs, s3, s4, s5, h, _, _, _, _, hx, _ => ⟨d, xs, s3, s4, s5, by rw [forD], h, hx, rfl⟩
  | x :: ds, N, d, xs, s3, s4, s5, h, hN, h3, h4, h5, hx, hl => by
    simp only [List.length_cons] at hN hl ⊢
    obtain ⟨d1, y, t4, t5, e1, k4, k5, h1, hx1⟩ := titles_turn c (s3 := .fr x) h (by omega) hm h4 h5 hx (by omega)
    obtain ⟨d2, ys, u3, u4, u5, e2, h2, hy, hly⟩ := titles_loop c hm ds (N + 20) d1 (xs ++ [y]) (.fr x) t4 t5 h1 (by omega) (.inr ⟨x, rfl⟩) k4 k5 hx1 (by simp; omega)
    refine ⟨d2, ys, u3, u4, u5, (forD_nx (name3_8 x h3) e1).trans e2, h2.mono (by omega), hy, ?_⟩
    rw [hly]
    simp
    omega
def tsAll (c : Cs) : DS → Fl := seqS (asgS 2 (lstD aNil)) (seqS (forS (iR1 (aCons (var 1) aNil)) (nameG 3) (tsBody c)) (retMov 2))
theorem titles_b (c : Cs) : b_titles c = tsAll c := rfl
theorem titles_ok (c : Cs) {N m : Nat} {d : D} (h : RAt N d) (hN : N < 2 ^ 36) (hm : m ≤ 5) :
    ∃ xs d', m_titles c [.ow true d, .fr (.int (m : Int))] = .ret (.ow (.lst (xs.map D.str))) [.ow true d', .fr (.int (m : Int))] ∧ Row xs ∧ xs.length = m ∧ RAt (N + 100) d' := by
  obtain ⟨d1, ys, s3, s4, s5, e, h1, hy, hl⟩ := titles_loop c hm (rng 0 m) N d [] .un .un .un h (by rw [rng_length]; omega) (.inl rfl) (.inl rfl) (.inl rfl) ⟨fun x hx => (List.not_mem_nil hx).elim, List.nodup_nil⟩ (by rw [rng_length]; simp)
  rw [rng_length] at h1 hl
  simp only [List.length_nil, Nat.zero_add] at hl
  have sm : smallI (m : Int) = true := by
    unfold smallI
    simp
    omega
  have e0 : asgS 2 (lstD aNil) [.ow true d, .fr (.int (m : Int)), .un, .un, .un, .un, .un, .un] = .nx (S8 d m [] .un .un .un) := by
    simp [runD, seqS, ifS, DL.bin, bnd, lift2, var, cst, R.get, fz, asgS, putN, freeSl, retS, asgT, tupG, seqG, nameG, subG, isLst, liftL, aNil, aCons, gets, vals, lstD, tupD, gtD, ltD, leD, geD, cmpD, ixD, atI, ixN, divC, upA, skipS, addD, subD, mulD, modD, fdivD, intC, absC, lenD, callD, callS, bws, toArgs, backS, findA, notD, iteD, expS, S8]
  have ei : iR1 (aCons (var 1) aNil) (S8 d m [] .un .un .un) = .ok (rng 0 m) (S8 d m [] .un .un .un) := by
    simp [iR1, aCons, aNil, var, sm, S8]
  have er : retMov 2 (S8 d1 m ys s3 s4 s5) = .rt (.ow (.lst (ys.map D.str))) [.ow true d1, .fr (.int (m : Int)), .un, s3, s4, s5, .un, .un] := rfl
  have all : tsAll c [.ow true d, .fr (.int (m : Int)), .un, .un, .un, .un, .un, .un] = .rt (.ow (.lst (ys.map D.str))) [.ow true d1, .fr (.int (m : Int)), .un, s3, s4, s5, .un, .un] :=
    (seq_nx e0).trans ((seq_nx ((forS_ok ei).trans e)).trans er)
  refine ⟨ys, d1, ?_, hy, hl, h1.mono (by omega)⟩
  have key : ∀ g : DS → Fl, g [.ow true d, .fr (.int (m : Int)), .un, .un, .un, .un, .un, .un] = .rt (.ow (.lst (ys.map D.str))) [.ow true d1, .fr (.int (m : Int)), .un, s3, s4, s5, .un, .un] → runD 2 8 g [.ow true d, .fr (.int (m : Int))] = .ret (.ow (.lst (ys.map D.str))) [.ow true d1, .fr (.int (m : Int))] := by
    intro g hg
    have hg' : g ([.ow true d, .fr (.int (m : Int))] ++ List.replicate (8 - 2) .un) = .rt (.ow (.lst (ys.map D.str))) [.ow true d1, .fr (.int (m : Int)), .un, s3, s4, s5, .un, .un] := hg
    unfold runD
    rw [hg']
    rfl
  exact key (b_titles c) (by rw [titles_b]; exact all)

end Law
namespace Law
open PySem PySem.Spec PyProof.Rows L2 DL
variable [DL.Nm]
theorem cut_from (xs : List Str) {k : Nat} (h : k ≤ xs.length) : cutL (xs.map D.str) (some (k : Int)) none = (xs.drop k).map D.str := by
  unfold cutL
  rw [HT.sIx_nat, HT.sIx_none, List.length_map, Nat.min_eq_left h, List.map_drop]
  rw [List.take_of_length_le (by simp)]
theorem cut_to (xs : List Str) {k : Nat} (h : k ≤ xs.length) : cutL (xs.map D.str) none (some (k : Int)) = (xs.take k).map D.str := by
  unfold cutL
  rw [HT.sIx_nat, HT.sIx_none, List.length_map, Nat.min_eq_left h, List.map_take]
  simp
theorem Row.perm {xs ys : List Str} (h : Row xs) (p : xs.Perm ys) : Row ys := ⟨fun y hy => h.1 y (p.mem_iff.mpr hy), p.nodup_iff.mp h.2⟩
theorem Row.sub {xs ys : List Str} (h : Row xs) (p : ys.Sublist xs) : Row ys := ⟨fun y hy => h.1 y (p.subset hy), h.2.sublist p⟩
theorem Row.cons {xs : List Str} {x : Str} (h : Row xs) (hx : Nm x = true) (n : x ∉ xs) : Row (x :: xs) := ⟨fun y hy => by
  rcases List.mem_cons.mp hy with rfl | hy
  · exact hx
  · exact h.1 y hy, List.nodup_cons.mpr ⟨n, h.2⟩⟩
/-- rows of names of a sea -/
def Sea5 (xs : List Str) : Prop := Row xs ∧ 2 ≤ xs.length ∧ xs.length ≤ 5
theorem ifS_t {f : DS → Out} {g h : DS → Fl} {S S' : DS} (e : f S = .ok (.v (.bl true)) S') : ifS f g h S = g S' := by
  unfold ifS
  rw [e]
theorem ifS_f {f : DS → Out} {g h : DS → Fl} {S S' : DS} (e : f S = .ok (.v (.bl false)) S') : ifS f g h S = h S' := by
  unfold ifS
  rw [e]
theorem seq_rt {g h : DS → Fl} {S S' : DS} {r : R} (e : g S = .rt r S') : seqS g h S = .rt r S' := by
  unfold seqS
  rw [e]
theorem retS_ok {f : DS → Out} {S S' : DS} {r : R} (e : f S = .ok r S') : retS f S = .rt r S' := by
  unfold retS
  rw [e]
theorem add_l {f g : DS → Out} {S : DS} {xs ys : List Str} (h1 : f S = .ok (.ow (.lst (xs.map D.str))) S) (h2 : g S = .ok (.ow (.lst (ys.map D.str))) S) (hl : xs.length + ys.length ≤ sizeLine) : DL.bin addD (fz f) (fz g) S = .ok (.ow (.lst ((xs ++ ys).map D.str))) S := by
  have f1 := fz_ok h1
  have f2 := fz_ok h2
  have hl' : (xs.map D.str).length + (ys.map D.str).length ≤ sizeLine := by simpa using hl
  unfold DL.bin bnd
  rw [f1]
  dsimp only
  rw [f2]
  show lift2 addD (.v (.lst (xs.map D.str))) (.v (.lst (ys.map D.str))) S = _
  have key : ∀ A B : List D, A.length + B.length ≤ sizeLine → lift2 addD (.v (.lst A)) (.v (.lst B)) S = .ok (.ow (.lst (A ++ B))) S := fun A B h => by
    simp [lift2, R.get, addD, h]
  rw [key _ _ hl', List.map_append]
theorem if_skip {f : DS → Out} {g h : DS → Fl} {S : DS} (e : f S = .ok (.v (.bl false)) S) : seqS (ifS f g skipS) h S = h S := seq_nx (ifS_f e)
theorem if_ret {f e : DS → Out} {h : DS → Fl} {S S' : DS} {r : R} (e1 : f S = .ok (.v (.bl true)) S) (e2 : e S = .ok r S') : seqS (ifS f (retS e) skipS) h S = .rt r S' := seq_rt ((ifS_t e1).trans (retS_ok e2))
theorem run_rt {n N : Nat} {g : DS → Fl} {args as : List Sl} {S' : DS} {r : R} (h : g (args ++ List.replicate (N - n) .un) = .rt r S') (hr : ∀ i, r ≠ .bw i) (u : upA args S' = some as) : runD n N g args = .ret r as := by
  unfold runD
  rw [h]
  cases r with
  | bw i => exact (hr i rfl).elim
  | v d => simp [u]
  | ow d => simp [u]

end Law
namespace Law
open PySem PySem.Spec PyProof.Rows L2 DL
variable [DL.Nm]
def SR (ns : List Int) (t : Int) (s2 s3 s4 : Sl) : DS := [.fr (.scr ns), .fr (.int t), s2, s3, s4]
def rStir : DS → Fl := asgS 2 (DL.bin modD (liftL intC (aCons (DL.bin addD (DL.bin mulD (var 2) (cst (.int 52361))) (var 3)) aNil)) (cst (.int 2147483543)))
def rA : DS → Fl := asgS 2 (DL.bin addD (cst (.int 70001)) (DL.bin mulD (cst (.int 613)) (var 1)))
def rB : DS → Fl := forS (iLst (fz (sliceD (var 0) (cst .non) (intO (cst (.int 5)))))) (nameG 3) rStir
def rC : DS → Fl := asgS 4 (iteD (DL.bin ltD (var 1) (liftL lenD (aCons (var 0) aNil))) (DL.bin ixD (var 0) (var 1)) (DL.bin addD (DL.bin mulD (cst (.int 11)) (var 1)) (cst (.int 4))))
def rE1 : DS → Out := DL.bin modD (liftL intC (aCons (DL.bin addD (DL.bin addD (DL.bin mulD (var 2) (cst (.int 23))) (DL.bin mulD (var 4) (cst (.int 41)))) (cst (.int 9))) aNil)) (cst (.int 2147483543))
def rE2 : DS → Out := iteD (DL.bin geD (liftL absC (aCons (var 4) aNil)) (DL.bin powD (cst (.int 10)) (cst (.int 17)))) (liftL absC (aCons (var 4) aNil)) (cst (.int 0))
def rE : DS → Out := lstD (aCons rE1 (aCons rE2 (aCons (cst (.int 0)) aNil)))
theorem reel_b (c : Cs) : b_reel c = seqS rA (seqS rB (seqS rC (retS rE))) := rfl
theorem mr {i j : Int} (h : -(2 ^ 64) < j) (h2 : j < 2 ^ 64) : mulOk i j = true := mulOk_r h h2
theorem rA_ok {ns : List Int} {t : Int} : rA (SR ns t .un .un .un) = .nx (SR ns t (.fr (.int (70001 + 613 * t))) .un .un) := by
  have h : mulOk 613 t = true := mulOk_l (by omega) (by omega)
  simp [rA, SR, runD, seqS, ifS, DL.bin, bnd, lift2, var, cst, R.get, fz, asgS, putN, freeSl, retS, asgT, tupG, seqG, nameG, subG, isLst, liftL, aNil, aCons, gets, vals, lstD, tupD, gtD, ltD, leD, geD, cmpD, ixD, atI, ixN, divC, upA, skipS, addD, subD, mulD, modD, fdivD, intC, absC, lenD, callD, callS, bws, toArgs, backS, findA, notD, iteD, expS, h]
theorem rStir_ok {ns : List Int} {t v x : Int} : rStir (SR ns t (.fr (.int v)) (.fr (.int x)) .un) = .nx (SR ns t (.fr (.int ((v * 52361 + x) % 2147483543))) (.fr (.int x)) .un) := by
  have h : mulOk v 52361 = true := mr (by omega) (by omega)
  simp [rStir, SR, runD, seqS, ifS, DL.bin, bnd, lift2, var, cst, R.get, fz, asgS, putN, freeSl, retS, asgT, tupG, seqG, nameG, subG, isLst, liftL, aNil, aCons, gets, vals, lstD, tupD, gtD, ltD, leD, geD, cmpD, ixD, atI, ixN, divC, upA, skipS, addD, subD, mulD, modD, fdivD, intC, absC, lenD, callD, callS, bws, toArgs, backS, findA, notD, iteD, expS, h]
theorem rLoop {ns : List Int} {t : Int} : ∀ (xs : List Int) (v : Int) (s3 : Sl), okSl s3 → ∃ v' s', forD (nameG 3) rStir (xs.map D.int) (SR ns t (.fr (.int v)) s3 .un) = .nx (SR ns t (.fr (.int v')) s' .un)
  | [], v, s3, _ => ⟨v, s3, by rw [List.map_nil, forD]⟩
  | x :: xs, v, s3, h => by
    obtain ⟨v', s', e⟩ := rLoop xs ((v * 52361 + x) % 2147483543) (.fr (.int x)) (.inr ⟨_, rfl⟩)
    have n : nameG 3 (.int x) (SR ns t (.fr (.int v)) s3 .un) = .nx (SR ns t (.fr (.int v)) (.fr (.int x)) .un) := by
      rcases h with rfl | ⟨_, rfl⟩ <;> rfl
    exact ⟨v', s', (forD_nx n rStir_ok).trans e⟩
theorem rB_ok {ns : List Int} {t v : Int} : ∃ v' s', rB (SR ns t (.fr (.int v)) .un .un) = .nx (SR ns t (.fr (.int v')) s' .un) := by
  have e : iLst (fz (sliceD (var 0) (cst .non) (intO (cst (.int 5))))) (SR ns t (.fr (.int v)) .un .un) = .ok ((cutL ns none (some 5)).map D.int) (SR ns t (.fr (.int v)) .un .un) := by
    simp [iLst, SR, runD, seqS, ifS, DL.bin, bnd, lift2, var, cst, R.get, fz, asgS, putN, freeSl, retS, asgT, tupG, seqG, nameG, subG, isLst, liftL, aNil, aCons, gets, vals, lstD, tupD, gtD, ltD, leD, geD, cmpD, ixD, atI, ixN, divC, upA, skipS, addD, subD, mulD, modD, fdivD, intC, absC, lenD, callD, callS, bws, toArgs, backS, findA, notD, iteD, expS, sliceD, intO, optI, slD]
  obtain ⟨v', s', h⟩ := rLoop (ns := ns) (t := t) (cutL ns none (some 5)) v .un (.inl rfl)
  exact ⟨v', s', (forS_ok e).trans h⟩
theorem rC_ok {ns : List Int} {t : Nat} {s2 s3 : Sl} : ∃ o : Int, rC (SR ns (t : Int) s2 s3 .un) = .nx (SR ns (t : Int) s2 s3 (.fr (.int o))) := by
  by_cases h : t < ns.length
  · have h' : (t : Int) < (ns.length : Int) := by omega
    have a : atI ns (t : Int) = some ns[t] := by
      simp [atI, ixN, h]
    refine ⟨ns[t], ?_⟩
    have hc : iteD (DL.bin ltD (var 1) (liftL lenD (aCons (var 0) aNil))) (DL.bin ixD (var 0) (var 1)) (DL.bin addD (DL.bin mulD (cst (.int 11)) (var 1)) (cst (.int 4))) (SR ns (t : Int) s2 s3 .un) = .ok (.v (.int ns[t])) (SR ns (t : Int) s2 s3 .un) := by
      simp [SR, iteD, DL.bin, bnd, lift2, var, cst, R.get, liftL, aCons, aNil, gets, lenD, cmpD, ixD, a, h]
    exact asg_v hc rfl
  · have h' : ¬ (t : Int) < (ns.length : Int) := by omega
    have hm : mulOk 11 (t : Int) = true := mulOk_l (by omega) (by omega)
    refine ⟨11 * (t : Int) + 4, ?_⟩
    have hc : iteD (DL.bin ltD (var 1) (liftL lenD (aCons (var 0) aNil))) (DL.bin ixD (var 0) (var 1)) (DL.bin addD (DL.bin mulD (cst (.int 11)) (var 1)) (cst (.int 4))) (SR ns (t : Int) s2 s3 .un) = .ok (.v (.int (11 * (t : Int) + 4))) (SR ns (t : Int) s2 s3 .un) := by
      simp [SR, iteD, DL.bin, bnd, lift2, var, cst, R.get, liftL, aCons, aNil, gets, lenD, cmpD, mulD, addD, h, hm]
    exact asg_v hc rfl
theorem rE_ok {ns : List Int} {t v o : Int} {s3 : Sl} : ∃ a b : Int, rE (SR ns t (.fr (.int v)) s3 (.fr (.int o))) = .ok (.ow (reel a b 0)) (SR ns t (.fr (.int v)) s3 (.fr (.int o))) := by
  have h1 : mulOk v 23 = true := mr (by omega) (by omega)
  have h2 : mulOk o 41 = true := mr (by omega) (by omega)
  have e1 : rE1 (SR ns t (.fr (.int v)) s3 (.fr (.int o))) = .ok (.v (.int ((v * 23 + o * 41 + 9) % 2147483543))) (SR ns t (.fr (.int v)) s3 (.fr (.int o))) := by
    simp [rE1, SR, runD, seqS, ifS, DL.bin, bnd, lift2, var, cst, R.get, fz, asgS, putN, freeSl, retS, asgT, tupG, seqG, nameG, subG, isLst, liftL, aNil, aCons, gets, vals, lstD, tupD, gtD, ltD, leD, geD, cmpD, ixD, atI, ixN, divC, upA, skipS, addD, subD, mulD, modD, fdivD, intC, absC, lenD, callD, callS, bws, toArgs, backS, findA, notD, iteD, expS, h1, h2]
  have pw : powD (.int 10) (.int 17) = some (.v (.int 100000000000000000)) := by
    simp [powD]
  have e2 : ∃ b, rE2 (SR ns t (.fr (.int v)) s3 (.fr (.int o))) = .ok (.v (.int b)) (SR ns t (.fr (.int v)) s3 (.fr (.int o))) := by
    by_cases h : (100000000000000000 : Int) ≤ (if o < 0 then -o else o)
    · refine ⟨if o < 0 then -o else o, ?_⟩
      simp [rE2, SR, iteD, DL.bin, bnd, lift2, var, cst, R.get, liftL, aCons, aNil, gets, cmpD, absC, pw, h]
    · refine ⟨0, ?_⟩
      simp [rE2, SR, iteD, DL.bin, bnd, lift2, var, cst, R.get, liftL, aCons, aNil, gets, cmpD, absC, pw, h]
  obtain ⟨b, e2⟩ := e2
  refine ⟨(v * 23 + o * 41 + 9) % 2147483543, b, ?_⟩
  have z3 : (3 : Nat) ≤ sizeLine := by decide
  generalize SR ns t (.fr (.int v)) s3 (.fr (.int o)) = S at e1 e2 ⊢
  simp [rE, lstD, aCons, aNil, e1, e2, cst, vals, z3, reel]
theorem reel_ok (c : Cs) (ns : List Int) (t : Nat) : ∃ d, m_reel c [.fr (.scr ns), .fr (.int (t : Int))] = .ret (.ow d) [.fr (.scr ns), .fr (.int (t : Int))] ∧ RAt 0 d := by
  obtain ⟨v, s3, eB⟩ := rB_ok (ns := ns) (t := (t : Int)) (v := 70001 + 613 * (t : Int))
  obtain ⟨o, eC⟩ := rC_ok (ns := ns) (t := t) (s2 := .fr (.int v)) (s3 := s3)
  obtain ⟨a, b, eE⟩ := rE_ok (ns := ns) (t := (t : Int)) (v := v) (o := o) (s3 := s3)
  refine ⟨reel a b 0, ?_, a, b, 0, rfl, by omega, by omega⟩
  have all := (seq_nx (h := seqS rB (seqS rC (retS rE))) (rA_ok (ns := ns) (t := (t : Int)))).trans ((seq_nx (h := seqS rC (retS rE)) eB).trans ((seq_nx (h := retS rE) eC).trans (retS_ok eE)))
  rw [← reel_b c] at all
  exact run_rt (n := 2) (N := 5) (g := b_reel c) all (by intro i z; cases z) rfl

end Law
namespace Law
open PySem PySem.Spec PyProof.Rows L2 DL
variable [DL.Nm]
theorem low_mem : ∀ k : Nat, k < 123 → low k = true → k ∈ ("abcdefghijklmnopqrstuvwxyz" : Str).cps.toList := by decide +kernel
theorem lod_mem : ∀ k : Nat, k < 123 → lod k = true → k ∈ ("abcdefghijklmnopqrstuvwxyz0123456789" : Str).cps.toList := by decide +kernel
theorem kit_str : kitB "str" "str" = some true := by decide +kernel
theorem kit_tup : kitB "tuple" "tuple" = some true := by decide +kernel
def SI (x : Str) (s1 : Sl) : DS := [.fr (.str x), s1]
def iA : DS → Out := orD (notD (liftL isiB (aCons (var 0) (aCons (cst (.ty "str")) aNil)))) (orD (DL.bin ltD (liftL lenD (aCons (var 0) aNil)) (cst (.int 1))) (DL.bin gtD (liftL lenD (aCons (var 0) aNil)) (cst (.int 8))))
def iB : DS → Out := DL.bin (inD false) (DL.bin ixD (var 0) (cst (.int 0))) (cst (.str "abcdefghijklmnopqrstuvwxyz"))
def iC : DS → Out := compD true [1] [1] (iStrD (var 0)) (cst (.bl true)) (DL.bin (inD false) (var 1) (cst (.str "abcdefghijklmnopqrstuvwxyz0123456789")))
theorem is_name_b (c : Cs) : b_is_name c = seqS (ifS iA (retS (cst (.bl false))) skipS) (retS (andD iB (liftL allC (aCons (fz iC) aNil)))) := rfl
theorem bLs_true : ∀ ds : List D, bLs (ds.map fun _ => D.bl true) = some (ds.map fun _ => true)
  | [] => rfl
  | d :: ds => by simp [bLs, bLs_true ds]
theorem iA_ok {x : Str} (h : Nm x = true) : iA (SI x .un) = .ok (.v (.bl false)) (SI x .un) := by
  obtain ⟨_, h8, h0⟩ := Nm_P h
  have z : x.length ≤ sizeLine := by rw [sizeLine_eq]; omega
  have a1 : ¬ (x.length : Int) < 1 := by omega
  have a2 : ¬ (8 : Int) < x.length := by omega
  have b1 : decide ((x.length : Int) < 1) = false := decide_eq_false a1
  have b2 : decide ((8 : Int) < (x.length : Int)) = false := decide_eq_false a2
  simp only [iA, SI, orD, notD, DL.bin, bnd, lift2, var, cst, R.get, liftL, aCons, aNil, gets, isiB, tyN, kit_str, lenD, cmpD, List.getElem?_cons_zero, if_pos z, b1, b2, Bool.not_true]
theorem iB_ok {x : Str} (h : Nm x = true) : iB (SI x .un) = .ok (.v (.bl true)) (SI x .un) := by
  obtain ⟨hp, h8, h0⟩ := Nm_P h
  have z : x.length ≤ sizeLine := by rw [sizeLine_eq]; omega
  cases e : x.cps.toList with
  | nil =>
    have q : x.length = x.cps.toList.length := by simp [Str.length]
    rw [e] at q
    simp at q
    omega
  | cons k r =>
    have hk : low k = true := by
      rw [e] at hp
      unfold NmP at hp
      rw [Bool.and_eq_true] at hp
      exact hp.1
    have hm := low_mem k (lod_lt (by simp [lod, hk])).1 hk
    have ha : atI (k :: r) 0 = some k := by simp [atI, ixN]
    have e1 : DL.bin ixD (var 0) (cst (.int 0)) (SI x .un) = .ok (.v (.str ⟨#[k]⟩)) (SI x .un) := by
      simp only [SI, DL.bin, bnd, lift2, var, cst, R.get, ixD, List.getElem?_cons_zero, if_pos z, e, ha]
    have e2 : inD false (.str ⟨#[k]⟩) (.str "abcdefghijklmnopqrstuvwxyz") = some (.v (.bl true)) := by
      simp only [inD, if_neg Bool.false_ne_true, decide_eq_true hm]
    generalize SI x .un = S at e1 ⊢
    simp only [iB]
    unfold DL.bin bnd at e1 ⊢
    simp only [e1]
    simp only [cst, lift2, R.get, e2]
theorem iC_ok {x : Str} (h : Nm x = true) : iC (SI x .un) = .ok (.ow (.lst ((DL.signs x).map fun _ => D.bl true))) (SI x .un) := by
  obtain ⟨hp, h8, h0⟩ := Nm_P h
  have hf : iStrD (var 0) (SI x .un) = .ok (DL.signs x) (SI x .un) := rfl
  have hs : (SI x .un)[1]? = some .un := rfl
  have hl : (DL.signs x).length ≤ sizeLine := by
    rw [sizeLine_eq]
    have q : (DL.signs x).length = x.length := by simp [DL.signs, Str.length]
    omega
  have e : ((DL.signs x).filter fun _ => true) = DL.signs x := by simp
  have key := comp_pure (c := cst (.bl true)) (f := DL.bin (inD false) (var 1) (cst (.str "abcdefghijklmnopqrstuvwxyz0123456789"))) (fun _ => true) (fun _ => D.bl true) hf hs (.inl rfl) (fun d _ => rfl) (fun d hd _ => by
    unfold DL.signs at hd
    obtain ⟨k, hk, rfl⟩ := List.mem_map.mp hd
    have hk := Nm_lod h hk
    have hm := lod_mem k (lod_lt hk).1 hk
    have e2 : inD false (.str ⟨#[k]⟩) (.str "abcdefghijklmnopqrstuvwxyz0123456789") = some (.v (.bl true)) := by
      simp only [inD, if_neg Bool.false_ne_true, decide_eq_true hm]
    have e1 : var 1 ((SI x .un).set 1 (.fr (.str ⟨#[k]⟩))) = .ok (.v (.str ⟨#[k]⟩)) ((SI x .un).set 1 (.fr (.str ⟨#[k]⟩))) := rfl
    generalize (SI x .un).set 1 (.fr (.str ⟨#[k]⟩)) = S at e1 ⊢
    simp only [DL.bin, bnd, e1, cst, lift2, R.get, e2]) hl
  rw [e] at key
  exact key
theorem lift1 {o : List D → Option R} {f : DS → Out} {S S' : DS} {d : D} {r : R} (h : f S = .ok (.v d) S') (ho : o [d] = some r) : liftL o (aCons f aNil) S = .ok r S' := by
  simp only [liftL, aCons, aNil, h, gets, R.get, ho]
theorem and_t {f g : DS → Out} {S S' : DS} (h : f S = .ok (.v (.bl true)) S') : andD f g S = g S' := by
  unfold andD bnd
  rw [h]
theorem is_name_ok (c : Cs) {x : Str} (h : Nm x = true) : m_is_name c [.fr (.str x)] = .ret (.v (.bl true)) [.fr (.str x)] := by
  have ha : allC [.lst ((DL.signs x).map fun _ => D.bl true)] = some (.v (.bl true)) := by
    simp only [allC, bLs_true]
    simp
  have all := (if_skip (g := retS (cst (.bl false))) (h := retS (andD iB (liftL allC (aCons (fz iC) aNil)))) (iA_ok h)).trans (retS_ok ((and_t (iB_ok h)).trans (lift1 (fz_ok (iC_ok h)) ha)))
  rw [← is_name_b c] at all
  exact run_rt (n := 1) (N := 2) (g := b_is_name c) all (by intro i z; cases z) rfl

end Law
namespace Law
open PySem PySem.Spec PyProof.Rows L2 DL
variable [DL.Nm]
def enumF : Nat → List Str → List D
  | _, [] => []
  | k, y :: ys => .tup [.int (k : Int), .str y] :: enumF (k + 1) ys
theorem enumF_idx : ∀ (ys : List Str) (k : Nat), (ys.map D.str).mapIdx (fun i d => D.tup [.int ((k + i : Nat) : Int), d]) = enumF k ys
  | [], k => rfl
  | y :: ys, k => by
    rw [List.map_cons, List.mapIdx_cons, enumF, ← enumF_idx ys (k + 1)]
    congr 1
    refine congrArg (fun f => List.mapIdx f (ys.map D.str)) ?_
    funext i d
    have e : k + (i + 1) = k + 1 + i := by omega
    rw [e]
theorem enumL_F (xs : List Str) : enumL (xs.map D.str) = enumF 0 xs := by
  rw [← enumF_idx xs 0]
  unfold enumL
  refine congrArg (fun f => List.mapIdx f (xs.map D.str)) ?_
  funext i d
  have e : (0 + i : Nat) = i := by omega
  rw [e]
def SC (xs : List Str) (s1 s2 : Sl) : DS := [.fr (.tup (xs.map D.str)), s1, s2]
def kA : DS → Out := orD (notD (liftL isiB (aCons (var 0) (aCons (cst (.ty "tuple")) aNil)))) (DL.bin ltD (liftL lenD (aCons (var 0) aNil)) (cst (.int 2)))
def kN (c : Cs) : DS → Out := notD (fz (callD 1 (m_is_name c) (aCons (var 2) aNil)))
def kS : DS → Out := sliceD (var 0) (cst .non) (intO (var 1))
def kB (c : Cs) : DS → Out := orD (DL.bin (eqD false) (var 1) (cst (.int 5))) (orD (kN c) (DL.bin (inD false) (var 2) (fz kS)))
theorem check_b (c : Cs) : b_check_islands c = seqS (ifS kA (fun _ => .stuck) skipS) (forS (iEnT (aCons (var 0) aNil)) (tupG [nameG 1, nameG 2]) (ifS (kB c) (fun _ => .stuck) skipS)) := rfl
theorem or_f {f g : DS → Out} {S S' : DS} (h : f S = .ok (.v (.bl false)) S') : orD f g S = g S' := by
  unfold orD bnd
  rw [h]
theorem not_v {f : DS → Out} {S S' : DS} {b : Bool} (h : f S = .ok (.v (.bl b)) S') : notD f S = .ok (.v (.bl (!b))) S' := by
  unfold notD bnd
  rw [h]
theorem bin_v {o : D → D → Option R} {f g : DS → Out} {S S1 S2 : DS} {a b : D} {r : R} (h1 : f S = .ok (.v a) S1) (h2 : g S1 = .ok (.v b) S2) (h : o a b = some r) : DL.bin o f g S = .ok r S2 := by
  unfold DL.bin bnd
  rw [h1]
  dsimp only
  rw [h2]
  simp only [lift2, R.get, h]
theorem fz_v {f : DS → Out} {S S' : DS} {d : D} (h : f S = .ok (.v d) S') : fz f S = .ok (.v d) S' := by
  unfold fz
  rw [h]
theorem call1_v {m : List Sl → Fo} {i : Nat} {S : DS} {d d' : D} (hi : S[i]? = some (.fr d)) (h : m [.fr d] = .ret (.v d') [.fr d]) : callD 1 m (aCons (var i) aNil) S = .ok (.v d') S := by
  have b : backS S [.v d] [.fr d] = S := by
    unfold backS
    apply List.ext_getElem?
    intro j
    rw [List.getElem?_mapIdx]
    cases e : S[j]? with
    | none => rfl
    | some s => cases s <;> rfl
  simp only [callD, aCons, aNil, var, hi, callS, bws, toArgs, List.length_singleton, if_true, h, b, List.nodup_nil]
theorem kA_ok {xs : List Str} (h : Sea5 xs) : kA (SC xs .un .un) = .ok (.v (.bl false)) (SC xs .un .un) := by
  have e1 : liftL isiB (aCons (var 0) (aCons (cst (.ty "tuple")) aNil)) (SC xs .un .un) = .ok (.v (.bl true)) (SC xs .un .un) := by
    simp only [SC, liftL, aCons, aNil, var, cst, gets, R.get, isiB, tyN, kit_tup, List.getElem?_cons_zero]
  have e2 : liftL lenD (aCons (var 0) aNil) (SC xs .un .un) = .ok (.v (.int (xs.length : Int))) (SC xs .un .un) := by
    simp only [SC, liftL, aCons, aNil, var, gets, R.get, lenD, List.getElem?_cons_zero, List.length_map]
  have l : ¬ (xs.length : Int) < 2 := by have := h.2.1; omega
  have e3 : cmpD (fun i j => decide (i < j)) (.int (xs.length : Int)) (.int 2) = some (.v (.bl false)) := by
    simp only [cmpD, decide_eq_false l]
  exact (or_f (not_v e1)).trans (bin_v e2 rfl e3)
theorem kB_ok (c : Cs) {pre ys : List Str} {y : Str} (h : Sea5 (pre ++ y :: ys)) : kB c (SC (pre ++ y :: ys) (.fr (.int (pre.length : Int))) (.fr (.str y))) = .ok (.v (.bl false)) (SC (pre ++ y :: ys) (.fr (.int (pre.length : Int))) (.fr (.str y))) := by
  have hl : pre.length < (pre ++ y :: ys).length := by simp
  have h5 := h.2.2
  have hy : Nm y = true := h.1.1 y (by simp)
  have np : y ∉ pre := by
    have := h.1.2
    rw [List.nodup_append] at this
    exact fun z => this.2.2 y z y List.mem_cons_self rfl
  have ne : ¬ (pre.length : Int) = 5 := by omega
  have e1 : DL.bin (eqD false) (var 1) (cst (.int 5)) (SC (pre ++ y :: ys) (.fr (.int (pre.length : Int))) (.fr (.str y))) = .ok (.v (.bl false)) (SC (pre ++ y :: ys) (.fr (.int (pre.length : Int))) (.fr (.str y))) := bin_v rfl rfl (by rw [eq_int, decide_eq_false ne])
  have e2 : kN c (SC (pre ++ y :: ys) (.fr (.int (pre.length : Int))) (.fr (.str y))) = .ok (.v (.bl false)) (SC (pre ++ y :: ys) (.fr (.int (pre.length : Int))) (.fr (.str y))) := not_v (fz_v (call1_v rfl (is_name_ok c hy)))
  have sl : slD none (some (pre.length : Int)) (.tup ((pre ++ y :: ys).map D.str)) = some (.v (.tup (pre.map D.str))) := by
    have sd : ∀ (lo hi : Option Int) (ds : List D), slD lo hi (.tup ds) = if HT.sIx ds.length 0 lo = 0 ∧ HT.sIx ds.length ds.length hi = ds.length then none else some (.v (.tup (cutL ds lo hi))) := fun _ _ _ => rfl
    rw [sd, HT.sIx_none, HT.sIx_nat, if_neg (by rw [List.length_map]; omega), cut_to _ (by omega), List.take_left]
  have e3 : kS (SC (pre ++ y :: ys) (.fr (.int (pre.length : Int))) (.fr (.str y))) = .ok (.v (.tup (pre.map D.str))) (SC (pre ++ y :: ys) (.fr (.int (pre.length : Int))) (.fr (.str y))) := by
    simp only [kS, SC, sliceD, bnd, var, cst, intO, optI, R.get, List.getElem?_cons_zero, List.getElem?_cons_succ, sl]
  have e4 : inD false (.str y) (.tup (pre.map D.str)) = some (.v (.bl false)) := by
    rw [in_tup, decide_eq_false np]
    rfl
  exact (or_f e1).trans ((or_f e2).trans (bin_v rfl (fz_v e3) e4))
theorem bind12 {xs : List Str} {s1 s2 : Sl} {a b : D} (h1 : okSl s1) (h2 : okSl s2) : tupG [nameG 1, nameG 2] (.tup [a, b]) (SC xs s1 s2) = .nx (SC xs (.fr a) (.fr b)) := by
  rcases h1 with rfl | ⟨_, rfl⟩ <;> rcases h2 with rfl | ⟨_, rfl⟩ <;> rfl
theorem check_loop (c : Cs) : ∀ (ys pre : List Str) (s1 s2 : Sl), Sea5 (pre ++ ys) → okSl s1 → okSl s2 → ∃ s1' s2', forD (tupG [nameG 1, nameG 2]) (ifS (kB c) (fun _ => .stuck) skipS) (enumF pre.length ys) (SC (pre ++ ys) s1 s2) = .nx (SC (pre ++ ys) s1' s2')
  | [], pre, s1, s2, _, _, _ => ⟨s1, s2, by rw [enumF, forD]⟩
  | y :: ys, pre, s1, s2, h, h1, h2 => by
    have e : pre ++ y :: ys = (pre ++ [y]) ++ ys := by simp
    have ih := check_loop c ys (pre ++ [y]) (.fr (.int (pre.length : Int))) (.fr (.str y)) (by rw [← e]; exact h) (.inr ⟨_, rfl⟩) (.inr ⟨_, rfl⟩)
    rw [← e, List.length_append, List.length_singleton] at ih
    obtain ⟨t1, t2, ih⟩ := ih
    refine ⟨t1, t2, ?_⟩
    rw [enumF]
    exact (forD_nx (bind12 h1 h2) ((ifS_f (kB_ok c h)).trans rfl)).trans ih
theorem if_skip' {f : DS → Out} {g h : DS → Fl} {S : DS} (e : f S = .ok (.v (.bl false)) S) : seqS (ifS f g skipS) h S = h S := seq_nx (ifS_f e)
theorem run_nx {n N : Nat} {g : DS → Fl} {args as : List Sl} {S' : DS} (h : g (args ++ List.replicate (N - n) .un) = .nx S') (u : upA args S' = some as) : runD n N g args = .ret (.v .non) as := by
  unfold runD
  rw [h]
  simp only [u]
theorem check_ok (c : Cs) {xs : List Str} (h : Sea5 xs) : m_check_islands c [.fr (.tup (xs.map D.str))] = .ret (.v .non) [.fr (.tup (xs.map D.str))] := by
  obtain ⟨s1, s2, e⟩ := check_loop c xs [] .un .un h (.inl rfl) (.inl rfl)
  have ei : iEnT (aCons (var 0) aNil) (SC xs .un .un) = .ok (enumF 0 xs) (SC xs .un .un) := by
    rw [← enumL_F]
    rfl
  have all := (if_skip' (g := fun _ => .stuck) (h := forS (iEnT (aCons (var 0) aNil)) (tupG [nameG 1, nameG 2]) (ifS (kB c) (fun _ => .stuck) skipS)) (kA_ok h)).trans ((forS_ok ei).trans e)
  rw [← check_b c] at all
  exact run_nx (n := 1) (N := 3) (g := b_check_islands c) all rfl
/-! ### calls with plain arguments, in any state -/
theorem bws_v : ∀ ds : List D, bws (ds.map R.v) = []
  | [] => rfl
  | d :: ds => by
    rw [List.map_cons]
    show bws (ds.map R.v) = []
    exact bws_v ds
theorem toArgs_v (S : DS) : ∀ ds : List D, toArgs S (ds.map R.v) = some (ds.map Sl.fr)
  | [] => rfl
  | d :: ds => by simp only [List.map_cons, toArgs, toArgs_v S ds]
theorem findA_v (i : Nat) : ∀ (ds : List D) (as : List Sl), findA i (ds.map R.v) as = none
  | [], _ => by simp [findA]
  | d :: ds, [] => by simp [findA]
  | d :: ds, a :: as => by
    rw [List.map_cons]
    show findA i (ds.map R.v) as = none
    exact findA_v i ds as
theorem backS_p (S : DS) (ds : List D) (as : List Sl) : backS S (ds.map R.v) as = S := by
  unfold backS
  apply List.ext_getElem?
  intro j
  rw [List.getElem?_mapIdx]
  cases e : S[j]? with
  | none => rfl
  | some s =>
    simp only [Option.map_some, findA_v]
theorem callS_v {n : Nat} {m : List Sl → Fo} {ds : List D} {d : D} {as : List Sl} (S : DS) (hn : ds.length = n) (h : m (ds.map Sl.fr) = .ret (.v d) as) : callS n m (ds.map R.v) S = .ok (.v d) S := by
  unfold callS
  simp only [bws_v, List.nodup_nil, if_true, toArgs_v, List.length_map, hn, h, backS_p]
theorem callS_o {n : Nat} {m : List Sl → Fo} {ds : List D} {d : D} {as : List Sl} (S : DS) (hn : ds.length = n) (h : m (ds.map Sl.fr) = .ret (.ow d) as) : callS n m (ds.map R.v) S = .ok (.ow d) S := by
  unfold callS
  simp only [bws_v, List.nodup_nil, if_true, toArgs_v, List.length_map, hn, h, backS_p]
section
variable {S : DS} {f g h k : DS → Out} {a b e u d : D} {m : List Sl → Fo} {as : List Sl}
theorem ac0 : aNil S = .ok (([] : List D).map R.v) S := rfl
theorem acs {ga : DS → AOut} {ds : List D} (h1 : f S = .ok (.v a) S) (h2 : ga S = .ok (ds.map R.v) S) : aCons f ga S = .ok ((a :: ds).map R.v) S := by
  simp only [aCons, h1, h2, List.map_cons]
theorem cd_v {n : Nat} {ga : DS → AOut} {ds : List D} (hg : ga S = .ok (ds.map R.v) S) (hn : ds.length = n) (hm : m (ds.map Sl.fr) = .ret (.v d) as) : callD n m ga S = .ok (.v d) S := by
  unfold callD
  rw [hg]
  exact callS_v S hn hm
theorem cd_o {n : Nat} {ga : DS → AOut} {ds : List D} (hg : ga S = .ok (ds.map R.v) S) (hn : ds.length = n) (hm : m (ds.map Sl.fr) = .ret (.ow d) as) : callD n m ga S = .ok (.ow d) S := by
  unfold callD
  rw [hg]
  exact callS_o S hn hm
theorem c1_v (h1 : f S = .ok (.v a) S) (hm : m [.fr a] = .ret (.v d) as) : callD 1 m (aCons f aNil) S = .ok (.v d) S := cd_v (acs h1 ac0) rfl hm
theorem c1_o (h1 : f S = .ok (.v a) S) (hm : m [.fr a] = .ret (.ow d) as) : callD 1 m (aCons f aNil) S = .ok (.ow d) S := cd_o (acs h1 ac0) rfl hm
theorem c2_v (h1 : f S = .ok (.v a) S) (h2 : g S = .ok (.v b) S) (hm : m [.fr a, .fr b] = .ret (.v d) as) : callD 2 m (aCons f (aCons g aNil)) S = .ok (.v d) S := cd_v (acs h1 (acs h2 ac0)) rfl hm
theorem c2_o (h1 : f S = .ok (.v a) S) (h2 : g S = .ok (.v b) S) (hm : m [.fr a, .fr b] = .ret (.ow d) as) : callD 2 m (aCons f (aCons g aNil)) S = .ok (.ow d) S := cd_o (acs h1 (acs h2 ac0)) rfl hm
theorem c3_v (h1 : f S = .ok (.v a) S) (h2 : g S = .ok (.v b) S) (h3 : h S = .ok (.v e) S) (hm : m [.fr a, .fr b, .fr e] = .ret (.v d) as) : callD 3 m (aCons f (aCons g (aCons h aNil))) S = .ok (.v d) S := cd_v (acs h1 (acs h2 (acs h3 ac0))) rfl hm
theorem c4_v (h1 : f S = .ok (.v a) S) (h2 : g S = .ok (.v b) S) (h3 : h S = .ok (.v e) S) (h4 : k S = .ok (.v u) S) (hm : m [.fr a, .fr b, .fr e, .fr u] = .ret (.v d) as) : callD 4 m (aCons f (aCons g (aCons h (aCons k aNil)))) S = .ok (.v d) S := cd_v (acs h1 (acs h2 (acs h3 (acs h4 ac0)))) rfl hm
theorem c4_o (h1 : f S = .ok (.v a) S) (h2 : g S = .ok (.v b) S) (h3 : h S = .ok (.v e) S) (h4 : k S = .ok (.v u) S) (hm : m [.fr a, .fr b, .fr e, .fr u] = .ret (.ow d) as) : callD 4 m (aCons f (aCons g (aCons h (aCons k aNil)))) S = .ok (.ow d) S := cd_o (acs h1 (acs h2 (acs h3 (acs h4 ac0)))) rfl hm
theorem var_fr {i : Nat} {d : D} (h : S[i]? = some (.fr d)) : var i S = .ok (.v d) S := by
  unfold var
  rw [h]
theorem exp_v {S' : DS} (h : f S = .ok (.v d) S') : expS f S = .nx S' := by
  unfold expS
  rw [h]
theorem and_v {x y : Bool} (h1 : f S = .ok (.v (.bl x)) S) (h2 : g S = .ok (.v (.bl y)) S) : andD f g S = .ok (.v (.bl (x && y))) S := by
  unfold andD bnd
  rw [h1]
  cases x with
  | true => exact h2
  | false => rfl
theorem or_v {x y : Bool} (h1 : f S = .ok (.v (.bl x)) S) (h2 : g S = .ok (.v (.bl y)) S) : orD f g S = .ok (.v (.bl (x || y))) S := by
  unfold orD bnd
  rw [h1]
  cases x with
  | true => rfl
  | false => exact h2
theorem l2 {o : List D → Option R} {r : R} (h1 : f S = .ok (.v a) S) (h2 : g S = .ok (.v b) S) (ho : o [a, b] = some r) : liftL o (aCons f (aCons g aNil)) S = .ok r S := by
  simp only [liftL, aCons, aNil, h1, h2, gets, R.get, ho]
end
theorem wk_t {f : DS → Out} {S S' : DS} {ds : List D} (h : f S = .ok (.v (.tpx ds)) S') : wk f S = .ok (.v (.tup ds)) S' := by
  unfold wk
  rw [h]
  rfl
theorem wk_v {f : DS → Out} {S S' : DS} {d : D} (h : f S = .ok (.v d) S') : wk f S = .ok (.v (unx d)) S' := by
  unfold wk
  rw [h]

end Law
namespace Law
open PySem PySem.Spec PyProof.Rows L2 DL
variable [DL.Nm]
theorem slD_tup (lo hi : Option Int) (ds : List D) : slD lo hi (.tup ds) = if HT.sIx ds.length 0 lo = 0 ∧ HT.sIx ds.length ds.length hi = ds.length then none else some (.v (.tup (cutL ds lo hi))) := rfl
/-- the pairs of a row -/
def prs : List Str → List D
  | [] => []
  | y :: ys => (ys.map fun z => D.tup [.str y, .str z]) ++ prs ys
def SP (xs : List Str) (s1 s2 s3 : Sl) : DS := [.fr (.tup (xs.map D.str)), s1, s2, s3]
def pS : DS → Out := sliceD (var 0) (intO (fz (DL.bin addD (var 1) (cst (.int 1))))) (cst .non)
def pT : DS → Out := tupD (aCons (var 2) (aCons (var 3) aNil))
def pI : DS → Option (List D × DS) := innT (cst (.bl true)) (iTpl (fz pS)) true [3] [3] (elemT (cst (.bl true)) pT)
theorem pairs_b (c : Cs) : b_pairs_of c = retS (liftL tupC (aCons (fz (compG false [1, 2] [1, 2, 3] (iEnT (aCons (var 0) aNil)) pI)) aNil)) := rfl
theorem pI_ok {pre ys : List Str} {y : Str} : pI (SP (pre ++ y :: ys) (.fr (.int (pre.length : Int))) (.fr (.str y)) .un) = some (ys.map (fun z => D.tup [.str y, .str z]), SP (pre ++ y :: ys) (.fr (.int (pre.length : Int))) (.fr (.str y)) .un) := by
  have hl : pre.length < (pre ++ y :: ys).length := by simp
  have e0 : ((pre.length : Int) + 1) = ((pre.length + 1 : Nat) : Int) := by omega
  have dr : (pre ++ y :: ys).drop (pre.length + 1) = ys := by
    rw [show pre ++ y :: ys = (pre ++ [y]) ++ ys by simp, show pre.length + 1 = (pre ++ [y]).length by simp, List.drop_left]
  have sl : slD (some ((pre.length : Int) + 1)) none (.tup ((pre ++ y :: ys).map D.str)) = some (.v (.tup (ys.map D.str))) := by
    rw [e0, slD_tup, HT.sIx_none, HT.sIx_nat, if_neg (by rw [List.length_map]; omega), cut_from _ (by omega), dr]
  have e1 : iTpl (fz pS) (SP (pre ++ y :: ys) (.fr (.int (pre.length : Int))) (.fr (.str y)) .un) = .ok (ys.map D.str) (SP (pre ++ y :: ys) (.fr (.int (pre.length : Int))) (.fr (.str y)) .un) := by
    simp only [iTpl, fz, pS, SP, sliceD, bnd, var, cst, intO, optI, R.get, DL.bin, lift2, addD, List.getElem?_cons_zero, List.getElem?_cons_succ, sl]
  have z2 : (2 : Nat) ≤ sizeLine := by decide
  have key := lc_pure (i := 3) (c := cst (.bl true)) (f := pT) (p := fun _ => true) (g := fun d => D.tup [.str y, d]) (S := SP (pre ++ y :: ys) (.fr (.int (pre.length : Int))) (.fr (.str y)) .un) (by simp [SP]) (ys.map D.str) (fun _ _ => rfl) (fun d hd _ => by
    simp only [pT, SP, tupD, aCons, aNil, var, vals, List.set_cons_succ, List.set_cons_zero, List.getElem?_cons_zero, List.getElem?_cons_succ, List.length_cons, List.length_nil, Nat.zero_add, Nat.reduceAdd, if_pos z2])
  have ef : ((ys.map D.str).filter fun _ => true) = ys.map D.str := by simp
  rw [ef, List.map_map] at key
  have su : (SP (pre ++ y :: ys) (.fr (.int (pre.length : Int))) (.fr (.str y)) .un).set 3 .un = SP (pre ++ y :: ys) (.fr (.int (pre.length : Int))) (.fr (.str y)) .un := rfl
  rw [su] at key
  have ok : okW (SP (pre ++ y :: ys) (.fr (.int (pre.length : Int))) (.fr (.str y)) .un) [3] = true := rfl
  have wi : wipeS (SP (pre ++ y :: ys) (.fr (.int (pre.length : Int))) (.fr (.str y)) .un) [3] = SP (pre ++ y :: ys) (.fr (.int (pre.length : Int))) (.fr (.str y)) .un := rfl
  unfold pI innT
  simp only [cst, e1, ok, wi, key, List.all_cons, List.all_nil, List.contains_cons, beq_self_eq_true, Bool.true_or, Bool.and_self, if_true]
  rfl
theorem pairs_loop : ∀ (ys pre : List Str), lcG false [1, 2] [1, 2, 3] pI (enumF pre.length ys) (SP (pre ++ ys) .un .un .un) = some (prs ys, SP (pre ++ ys) .un .un .un)
  | [], pre => by rw [enumF, lcG, prs]
  | y :: ys, pre => by
    have e : pre ++ y :: ys = (pre ++ [y]) ++ ys := by simp
    have ih := pairs_loop ys (pre ++ [y])
    rw [← e, List.length_append, List.length_singleton] at ih
    have b : bindD false [1, 2] (.tup [.int (pre.length : Int), .str y]) (SP (pre ++ y :: ys) .un .un .un) = some (SP (pre ++ y :: ys) (.fr (.int (pre.length : Int))) (.fr (.str y)) .un) := rfl
    have ok : okW (SP (pre ++ y :: ys) (.fr (.int (pre.length : Int))) (.fr (.str y)) .un) [1, 2, 3] = true := rfl
    have wi : wipeS (SP (pre ++ y :: ys) (.fr (.int (pre.length : Int))) (.fr (.str y)) .un) [1, 2, 3] = SP (pre ++ y :: ys) .un .un .un := rfl
    rw [enumF, lcG, b]
    simp only [pI_ok, ok, wi, ih, if_true]
    rfl
theorem prs_len : ∀ ys : List Str, (prs ys).length ≤ ys.length * ys.length
  | [] => Nat.le_refl _
  | y :: ys => by
    have := prs_len ys
    rw [prs, List.length_append, List.length_map, List.length_cons]
    have e : (ys.length + 1) * (ys.length + 1) = ys.length * ys.length + ys.length + ys.length + 1 := by
      rw [Nat.add_mul, Nat.mul_add]
      omega
    omega
theorem pairs_ok (c : Cs) {xs : List Str} (h : xs.length ≤ 5) : m_pairs_of c [.fr (.tup (xs.map D.str))] = .ret (.v (.tup (prs xs))) [.fr (.tup (xs.map D.str))] := by
  have ei : iEnT (aCons (var 0) aNil) (SP xs .un .un .un) = .ok (enumF 0 xs) (SP xs .un .un .un) := by
    rw [← enumL_F]
    rfl
  have lp := pairs_loop xs []
  have ok : okW (SP xs .un .un .un) [1, 2, 3] = true := rfl
  have wi : wipeS (SP xs .un .un .un) [1, 2, 3] = SP xs .un .un .un := rfl
  have re : restS (SP xs .un .un .un) (SP xs .un .un .un) [1, 2, 3] = SP xs .un .un .un := rfl
  have sz : (prs xs).length ≤ sizeLine := by
    have h1 := prs_len xs
    have h2 : xs.length * xs.length ≤ 5 * 5 := Nat.mul_le_mul h h
    rw [sizeLine_eq]
    omega
  have cm : compG false [1, 2] [1, 2, 3] (iEnT (aCons (var 0) aNil)) pI (SP xs .un .un .un) = .ok (.ow (.lst (prs xs))) (SP xs .un .un .un) := by
    have lp : lcG false [1, 2] [1, 2, 3] pI (enumF 0 xs) (SP xs .un .un .un) = some (prs xs, SP xs .un .un .un) := lp
    have al : ([1, 2] : List Nat).all (fun i => ([1, 2, 3] : List Nat).contains i) = true := by decide
    unfold compG
    rw [ei]
    simp only [ok, wi, al, lp, re, Bool.and_self, if_true, if_pos sz]
  have all := retS_ok (lift1 (o := tupC) (fz_ok cm) rfl)
  rw [← pairs_b c] at all
  exact run_rt (n := 1) (N := 4) (g := b_pairs_of c) all (by intro i z; cases z) rfl

/-! ### the sea -/
def seaF (xs : List Str) : List (Str × D) := [("_islands", .tpx (xs.map D.str)), ("_pairs", .tup (prs xs))]
theorem ne_ip : ¬ (("_islands" : Str) = "_pairs") := by decide +kernel
theorem init_ok (c : Cs) {xs : List Str} (h : Sea5 xs) : m_Sea_init c [.ow true (.ins c.Sea []), .fr (.tpx (xs.map D.str))] = .ret (.v .non) [.ow true (.ins c.Sea (seaF xs)), .fr (.tpx (xs.map D.str))] := by
  have w : ∀ s, wk (var 1) [s, .fr (.tpx (xs.map D.str))] = .ok (.v (.tup (xs.map D.str))) [s, .fr (.tpx (xs.map D.str))] := fun s => wk_t (var_fr rfl)
  have e1 : fz (callD 1 (m_check_islands c) (aCons (wk (var 1)) aNil)) [.ow true (.ins c.Sea []), .fr (.tpx (xs.map D.str))] = .ok (.v .non) [.ow true (.ins c.Sea []), .fr (.tpx (xs.map D.str))] := fz_v (c1_v (w _) (check_ok c h))
  have e2 : fldS 0 c.Sea "_islands" (var 1) [.ow true (.ins c.Sea []), .fr (.tpx (xs.map D.str))] = .nx [.ow true (.ins c.Sea [("_islands", .tpx (xs.map D.str))]), .fr (.tpx (xs.map D.str))] := by
    simp [fldS, var, putA]
  have e3 : fz (callD 1 (m_pairs_of c) (aCons (wk (var 1)) aNil)) [.ow true (.ins c.Sea [("_islands", .tpx (xs.map D.str))]), .fr (.tpx (xs.map D.str))] = .ok (.v (.tup (prs xs))) [.ow true (.ins c.Sea [("_islands", .tpx (xs.map D.str))]), .fr (.tpx (xs.map D.str))] := fz_v (c1_v (w _) (pairs_ok c h.2.2))
  have e4 : fldS 0 c.Sea "_pairs" (fz (callD 1 (m_pairs_of c) (aCons (wk (var 1)) aNil))) [.ow true (.ins c.Sea [("_islands", .tpx (xs.map D.str))]), .fr (.tpx (xs.map D.str))] = .nx [.ow true (.ins c.Sea (seaF xs)), .fr (.tpx (xs.map D.str))] := by
    unfold fldS
    rw [e3]
    simp [putA, ne_ip, seaF]
  have e0 : expS (fz (callD 1 (m_check_islands c) (aCons (wk (var 1)) aNil))) [.ow true (.ins c.Sea []), .fr (.tpx (xs.map D.str))] = .nx [.ow true (.ins c.Sea []), .fr (.tpx (xs.map D.str))] := exp_v e1
  exact run_nx (n := 2) (N := 2) (g := b_Sea_init c) ((seq_nx e0).trans ((seq_nx e2).trans e4)) rfl

end Law
namespace Law
open PySem PySem.Spec PyProof.Rows L2 DL
variable [DL.Nm]
theorem ne_bl (x y : Bool) : eqD true (.bl x) (.bl y) = some (.v (.bl (xor x y))) := by cases x <;> cases y <;> rfl
theorem ne_int (i j : Int) : eqD true (.int i) (.int j) = some (.v (.bl (!decide (i = j)))) := by
  by_cases z : i = j
  · subst z
    simp [eqD, eqP, D.py, shp_int, PyData.eqv]
  · simp [eqD, eqP, D.py, shp_int, PyData.eqv, z]
/-! ### the sea's parts -/
theorem backS_v {S : DS} {d : D} {t : Sl} : backS S [.v d] [t] = S := backS_p S [d] [t]
theorem make1_v {C : Addr} {m : List Sl → Fo} {S : DS} {d e : D} (h : m [.ow true (.ins C []), .fr d] = .ret (.v .non) [.ow true e, .fr d]) : makeS C 2 m [.v d] S = .ok (.ow e) S := by
  simp only [makeS, bws, toArgs, List.nodup_nil, if_true, List.length_singleton, Nat.reduceAdd, h, backS_v]
theorem look_i (xs : List Str) : (seaF xs).lookup ("_islands" : Str) = some (.tpx (xs.map D.str)) := by
  simp [seaF, List.lookup]
theorem look_p (xs : List Str) : (seaF xs).lookup ("_pairs" : Str) = some (.tup (prs xs)) := by
  have n : (("_pairs" : Str) == "_islands") = false := by decide +kernel
  simp [seaF, List.lookup, n]
section
variable {c : Cs} {S : DS} {f g : DS → Out} {xs : List Str}
theorem fld_i {i : Nat} (h : S[i]? = some (.fr (.ins c.Sea (seaF xs)))) : fldD c.Sea "_islands" (var i) S = .ok (.v (.tpx (xs.map D.str))) S := by
  simp only [fldD, bnd, var, h, R.get, if_true, look_i]
theorem fld_p {i : Nat} (h : S[i]? = some (.fr (.ins c.Sea (seaF xs)))) : fldD c.Sea "_pairs" (var i) S = .ok (.v (.tup (prs xs))) S := by
  simp only [fldD, bnd, var, h, R.get, if_true, look_p]
theorem islands_ok (c : Cs) (xs : List Str) : m_Sea_islands c [.fr (.ins c.Sea (seaF xs))] = .ret (.v (.tpx (xs.map D.str))) [.fr (.ins c.Sea (seaF xs))] :=
  run_rt (n := 1) (N := 1) (g := b_Sea_islands c) (retS_ok (fld_i rfl)) (by intro i z; cases z) rfl
theorem pairsP_ok (c : Cs) (xs : List Str) : m_Sea_pairs c [.fr (.ins c.Sea (seaF xs))] = .ret (.v (.tup (prs xs))) [.fr (.ins c.Sea (seaF xs))] :=
  run_rt (n := 1) (N := 1) (g := b_Sea_pairs c) (retS_ok (fld_p rfl)) (by intro i z; cases z) rfl
theorem len_ok (c : Cs) (xs : List Str) : m_Sea_len c [.fr (.ins c.Sea (seaF xs))] = .ret (.v (.int (xs.length : Int))) [.fr (.ins c.Sea (seaF xs))] :=
  run_rt (n := 1) (N := 1) (g := b_Sea_len c) (retS_ok (lift1 (o := lenD) (r := .v (.int (xs.length : Int))) (wk_t (fld_i rfl)) (by simp [lenD, unx]))) (by intro i z; cases z) rfl
theorem sea_make {ys : List Str} (hy : Sea5 ys) (h : f S = .ok (.v (.lst (ys.map D.str))) S) : makeD c.Sea 2 (m_Sea_init c) (aCons (liftL tupX (aCons f aNil)) aNil) S = .ok (.ow (.ins c.Sea (seaF ys))) S := by
  have h1 : liftL tupX (aCons f aNil) S = .ok (.v (.tpx (ys.map D.str))) S := lift1 h rfl
  simp only [makeD, aCons, h1, aNil, make1_v (init_ok c hy)]
theorem isIns_v : isIns c.Sea S (.v (.ins c.Sea (seaF xs))) = true := by simp [isIns, R.get]
theorem sea_isl (h : f S = .ok (.v (.ins c.Sea (seaF xs))) S) : propD c.Sea (m_Sea_islands c) f S = .ok (.v (.tpx (xs.map D.str))) S := by
  have cs := callS_v (ds := [.ins c.Sea (seaF xs)]) S rfl (islands_ok c xs)
  have cs : callS 1 (m_Sea_islands c) [.v (.ins c.Sea (seaF xs))] S = .ok (.v (.tpx (xs.map D.str))) S := cs
  unfold propD bnd
  rw [h]
  simp only [isIns_v, if_true, cs, noExc]
theorem sea_prs (h : f S = .ok (.v (.ins c.Sea (seaF xs))) S) : propD c.Sea (m_Sea_pairs c) f S = .ok (.v (.tup (prs xs))) S := by
  have cs := callS_v (ds := [.ins c.Sea (seaF xs)]) S rfl (pairsP_ok c xs)
  have cs : callS 1 (m_Sea_pairs c) [.v (.ins c.Sea (seaF xs))] S = .ok (.v (.tup (prs xs))) S := cs
  unfold propD bnd
  rw [h]
  simp only [isIns_v, if_true, cs, noExc]
theorem sea_len (hl : xs.length ≤ 5) (h : f S = .ok (.v (.ins c.Sea (seaF xs))) S) : ownB c.Sea (m_Sea_len c) isLen f S = .ok (.v (.int (xs.length : Int))) S := by
  have cs := callS_v (ds := [.ins c.Sea (seaF xs)]) S rfl (len_ok c xs)
  have cs : callS 1 (m_Sea_len c) [.v (.ins c.Sea (seaF xs))] S = .ok (.v (.int (xs.length : Int))) S := cs
  have il : isLen (D.int (xs.length : Int)) = true := by
    simp [isLen]
    omega
  unfold ownB bnd
  rw [h]
  simp only [isIns_v, if_true, cs, il]
theorem isi_sea (h : f S = .ok (.v (.ins c.Sea (seaF xs))) S) : liftL (isiO c.Sea (tab_Sea c)) (aCons f (aCons (cst (.cls c.Sea)) aNil)) S = .ok (.v (.bl true)) S := by
  simp only [liftL, aCons, aNil, h, cst, gets, R.get, isiO, tab_Sea, if_true]
theorem chk_sea (c : Cs) (xs : List Str) : m_check_sea c [.fr (.ins c.Sea (seaF xs))] = .ret (.v .non) [.fr (.ins c.Sea (seaF xs))] := by
  have e := not_v (isi_sea (c := c) (S := [.fr (.ins c.Sea (seaF xs))]) (f := var 0) (xs := xs) (var_fr rfl))
  exact run_nx (n := 1) (N := 1) (g := b_check_sea c) ((ifS_f e).trans rfl) rfl
end
/-! ### bridges -/
def Br (ns : List Int) : Prop := ∀ x ∈ ns, 0 ≤ x ∧ x ≤ 1000000000000000000000000000000
theorem int_ok (c : Cs) (i : Int) : m_is_integer c [.fr (.int i)] = .ret (.v (.bl true)) [.fr (.int i)] := rfl
theorem within_ok (c : Cs) {i : Int} (h0 : 0 ≤ i) (h1 : i ≤ 1000000000000000000000000000000) : m_is_within c [.fr (.int i), .fr (.int 0), .fr (.int 1000000000000000000000000000000)] = .ret (.v (.bl true)) [.fr (.int i), .fr (.int 0), .fr (.int 1000000000000000000000000000000)] := by
  have e1 := fz_v (c1_v (f := var 0) (S := [.fr (.int i), .fr (.int 0), .fr (.int 1000000000000000000000000000000)]) (var_fr rfl) (int_ok c i))
  have e2 := bin_v (o := geD) (f := var 0) (g := var 1) (S := [.fr (.int i), .fr (.int 0), .fr (.int 1000000000000000000000000000000)]) (r := .v (.bl true)) (var_fr rfl) (var_fr rfl) (by simp [geD, cmpD, h0])
  have e3 : DL.bin (isND false) (var 2) (cst .non) [.fr (.int i), .fr (.int 0), .fr (.int 1000000000000000000000000000000)] = .ok (.v (.bl false)) [.fr (.int i), .fr (.int 0), .fr (.int 1000000000000000000000000000000)] := rfl
  have e4 := bin_v (o := leD) (f := var 0) (g := var 2) (S := [.fr (.int i), .fr (.int 0), .fr (.int 1000000000000000000000000000000)]) (r := .v (.bl true)) (var_fr rfl) (var_fr rfl) (by simp [leD, cmpD, h1])
  exact run_rt (n := 3) (N := 3) (g := b_is_within c) (retS_ok (and_v e1 (and_v e2 (or_v e3 e4)))) (by intro i z; cases z) rfl
def SW (ns : List Int) (k : Int) (s4 s5 : Sl) : DS := [.fr (.tup (ns.map D.int)), .fr (.int k), .fr (.int 0), .fr (.int 1000000000000000000000000000000), s4, s5]
def wC (c : Cs) : DS → Out := notD (fz (callD 3 (m_is_within c) (aCons (var 5) (aCons (var 2) (aCons (var 3) aNil)))))
def wL (c : Cs) : DS → Out := compD false [4, 5] [4, 5] (iEnT (aCons (var 0) aNil)) (wC c) (var 4)
theorem wrong_b (c : Cs) : b_wrong_places c = seqS (ifS (orD (notD (liftL isiB (aCons (var 0) (aCons (cst (.ty "tuple")) aNil)))) (DL.bin (eqD true) (liftL lenD (aCons (var 0) aNil)) (var 1))) (retS (lstD (aCons (cst .non) aNil))) skipS) (retS (wL c)) := rfl
theorem wrong_loop (c : Cs) {ns : List Int} {k : Int} (hb : Br ns) : ∀ ds : List D, (∀ d ∈ ds, ∃ (i : Int) (x : Int), d = .tup [.int i, .int x] ∧ x ∈ ns) → lcG false [4, 5] [4, 5] (elemT (wC c) (var 4)) ds (SW ns k .un .un) = some ([], SW ns k .un .un)
  | [], _ => by rw [lcG]
  | d :: ds, h => by
    obtain ⟨i, x, rfl, hx⟩ := h d List.mem_cons_self
    have ih := wrong_loop c (k := k) hb ds fun e he => h e (List.mem_cons_of_mem _ he)
    have b : bindD false [4, 5] (.tup [.int i, .int x]) (SW ns k .un .un) = some (SW ns k (.fr (.int i)) (.fr (.int x))) := rfl
    have t : wC c (SW ns k (.fr (.int i)) (.fr (.int x))) = .ok (.v (.bl false)) (SW ns k (.fr (.int i)) (.fr (.int x))) :=
      not_v (fz_v (c3_v (f := var 5) (g := var 2) (h := var 3) (var_fr rfl) (var_fr rfl) (var_fr rfl) (within_ok c (hb x hx).1 (hb x hx).2)))
    have ok : okW (SW ns k (.fr (.int i)) (.fr (.int x))) [4, 5] = true := rfl
    have wi : wipeS (SW ns k (.fr (.int i)) (.fr (.int x))) [4, 5] = SW ns k .un .un := rfl
    rw [lcG, b]
    simp only [elemT, t, ok, wi, ih, if_true, List.nil_append]
theorem wrong_ok (c : Cs) {ns : List Int} (hb : Br ns) (hl : ns.length ≤ 100) : m_wrong_places c [.fr (.tup (ns.map D.int)), .fr (.int (ns.length : Int)), .fr (.int 0), .fr (.int 1000000000000000000000000000000)] = .ret (.ow (.lst [])) [.fr (.tup (ns.map D.int)), .fr (.int (ns.length : Int)), .fr (.int 0), .fr (.int 1000000000000000000000000000000)] := by
  have e1 : liftL isiB (aCons (var 0) (aCons (cst (.ty "tuple")) aNil)) (SW ns (ns.length : Int) .un .un) = .ok (.v (.bl true)) (SW ns (ns.length : Int) .un .un) := by
    simp only [SW, liftL, aCons, aNil, var, cst, gets, R.get, isiB, tyN, kit_tup, List.getElem?_cons_zero, List.getElem?_cons_succ]
  have e2 : DL.bin (eqD true) (liftL lenD (aCons (var 0) aNil)) (var 1) (SW ns (ns.length : Int) .un .un) = .ok (.v (.bl false)) (SW ns (ns.length : Int) .un .un) := by
    have := bin_v (o := eqD true) (lift1 (o := lenD) (f := var 0) (S := SW ns (ns.length : Int) .un .un) (r := .v (.int (ns.length : Int))) (var_fr rfl) (by simp [lenD])) (var_fr (i := 1) rfl) (ne_int (ns.length : Int) (ns.length : Int))
    rw [decide_eq_true rfl] at this
    exact this
  have ei : iEnT (aCons (var 0) aNil) (SW ns (ns.length : Int) .un .un) = .ok (enumL (ns.map D.int)) (SW ns (ns.length : Int) .un .un) := rfl
  have mem : ∀ d ∈ enumL (ns.map D.int), ∃ (i : Int) (x : Int), d = .tup [.int i, .int x] ∧ x ∈ ns := by
    intro d hd
    unfold enumL at hd
    obtain ⟨i, hi, rfl⟩ := List.mem_mapIdx.mp hd
    rw [List.length_map] at hi
    refine ⟨(i : Int), ns[i], by simp, List.getElem_mem hi⟩
  have lp := wrong_loop c (k := (ns.length : Int)) hb _ mem
  have ok : okW (SW ns (ns.length : Int) .un .un) [4, 5] = true := rfl
  have wi : wipeS (SW ns (ns.length : Int) .un .un) [4, 5] = SW ns (ns.length : Int) .un .un := rfl
  have re : restS (SW ns (ns.length : Int) .un .un) (SW ns (ns.length : Int) .un .un) [4, 5] = SW ns (ns.length : Int) .un .un := rfl
  have al : ([4, 5] : List Nat).all (fun i => ([4, 5] : List Nat).contains i) = true := by decide
  have sz : ([] : List D).length ≤ sizeLine := by decide
  have cm : wL c (SW ns (ns.length : Int) .un .un) = .ok (.ow (.lst [])) (SW ns (ns.length : Int) .un .un) := by
    unfold wL compD compG
    rw [ei]
    simp only [ok, wi, al, lp, re, Bool.and_self, if_true, if_pos sz]
  have all := (if_skip' (g := retS (lstD (aCons (cst .non) aNil))) (h := retS (wL c)) ((or_f (not_v e1)).trans e2))
  have all := all.trans (retS_ok cm)
  rw [show ifS (orD (notD (liftL isiB (aCons (var 0) (aCons (cst (.ty "tuple")) aNil)))) (DL.bin (eqD true) (liftL lenD (aCons (var 0) aNil)) (var 1))) (retS (lstD (aCons (cst .non) aNil))) skipS = ifS (orD (notD (liftL isiB (aCons (var 0) (aCons (cst (.ty "tuple")) aNil)))) (DL.bin (eqD true) (liftL lenD (aCons (var 0) aNil)) (var 1))) (retS (lstD (aCons (cst .non) aNil))) skipS from rfl] at all
  rw [← wrong_b c] at all
  exact run_rt (n := 4) (N := 6) (g := b_wrong_places c) all (by intro i z; cases z) rfl
theorem chk_br (c : Cs) {xs : List Str} {ns : List Int} (hb : Br ns) (hl : (prs xs).length = ns.length) (h5 : ns.length ≤ 100) : m_check_bridges c [.fr (.ins c.Sea (seaF xs)), .fr (.tup (ns.map D.int))] = .ret (.v .non) [.fr (.ins c.Sea (seaF xs)), .fr (.tup (ns.map D.int))] := by
  have e1 := lift1 (o := lenD) (r := .v (.int (ns.length : Int))) (fz_v (sea_prs (c := c) (xs := xs) (f := var 0) (S := [.fr (.ins c.Sea (seaF xs)), .fr (.tup (ns.map D.int)), .un]) (var_fr rfl))) (by simp [lenD, hl])
  have e2 : fz (callD 4 (m_wrong_places c) (aCons (var 1) (aCons (liftL lenD (aCons (fz (propD c.Sea (m_Sea_pairs c) (var 0))) aNil)) (aCons (cst (.int 0)) (aCons (cst (.int 1000000000000000000000000000000)) aNil))))) [.fr (.ins c.Sea (seaF xs)), .fr (.tup (ns.map D.int)), .un] = .ok (.v (.lst [])) [.fr (.ins c.Sea (seaF xs)), .fr (.tup (ns.map D.int)), .un] :=
    fz_ok (c4_o (var_fr rfl) e1 rfl rfl (wrong_ok c hb h5))
  have e3 := asg_v (i := 2) e2 rfl
  have e4 : truD (var 2) ([.fr (.ins c.Sea (seaF xs)), .fr (.tup (ns.map D.int)), .fr (.lst [])]) = .ok (.v (.bl false)) [.fr (.ins c.Sea (seaF xs)), .fr (.tup (ns.map D.int)), .fr (.lst [])] := rfl
  exact run_nx (n := 2) (N := 3) (g := b_check_bridges c) ((seq_nx e3).trans ((ifS_f e4).trans rfl)) rfl
theorem prs_length : ∀ ys : List Str, 2 * (prs ys).length + ys.length = ys.length * ys.length
  | [] => rfl
  | y :: ys => by
    have := prs_length ys
    rw [prs, List.length_append, List.length_map, List.length_cons]
    have e : (ys.length + 1) * (ys.length + 1) = ys.length * ys.length + ys.length + ys.length + 1 := by
      rw [Nat.add_mul, Nat.mul_add]
      omega
    omega

end Law
namespace Law
open PySem PySem.Spec PyProof.Rows L2 DL
variable [DL.Nm]
/-! ### the closed parts: pairs of indexes, lots -/
def ipr (n : Nat) : List (Nat × Nat) := (List.range n).flatMap fun i => ((List.range n).filter fun j => decide (i < j)).map fun j => (i, j)
def prD (n : Nat) : List D := (ipr n).map fun p => D.tup [.int (p.1 : Int), .int (p.2 : Int)]
/-- the lots: numbers from 1 to 2^n - 2 -/
def lotN (n : Nat) : List Nat := (List.range (2 ^ n - 2)).map (· + 1)
def bitsL (n k : Nat) : List Nat := (List.range n).filter fun i => Nat.testBit k i
def lotD (n : Nat) : List D := (lotN n).map fun k => D.lst ((bitsL n k).map fun i : Nat => D.int (i : Int))
theorem ip2 (c : Cs) : m_index_pairs c [.fr (.int 2)] = .ret (.ow (.lst (prD 2))) [.fr (.int 2)] := by kernel_rfl
theorem ip3 (c : Cs) : m_index_pairs c [.fr (.int 3)] = .ret (.ow (.lst (prD 3))) [.fr (.int 3)] := by kernel_rfl
theorem ip4 (c : Cs) : m_index_pairs c [.fr (.int 4)] = .ret (.ow (.lst (prD 4))) [.fr (.int 4)] := by kernel_rfl
theorem ip5 (c : Cs) : m_index_pairs c [.fr (.int 5)] = .ret (.ow (.lst (prD 5))) [.fr (.int 5)] := by kernel_rfl
theorem lo2 (c : Cs) : m_lots_of c [.fr (.int 2)] = .ret (.ow (.lst ((lotN 2).map fun k : Nat => D.int (k : Int)))) [.fr (.int 2)] := by kernel_rfl
theorem lo3 (c : Cs) : m_lots_of c [.fr (.int 3)] = .ret (.ow (.lst ((lotN 3).map fun k : Nat => D.int (k : Int)))) [.fr (.int 3)] := by kernel_rfl
theorem lo4 (c : Cs) : m_lots_of c [.fr (.int 4)] = .ret (.ow (.lst ((lotN 4).map fun k : Nat => D.int (k : Int)))) [.fr (.int 4)] := by kernel_rfl
theorem lo5 (c : Cs) : m_lots_of c [.fr (.int 5)] = .ret (.ow (.lst ((lotN 5).map fun k : Nat => D.int (k : Int)))) [.fr (.int 5)] := by kernel_rfl
theorem sp2 (c : Cs) : m_spans c [.fr (.int 2)] = .ret (.v (.lst (prD 2))) [.fr (.int 2)] := by kernel_rfl
theorem sp3 (c : Cs) : m_spans c [.fr (.int 3)] = .ret (.v (.lst (prD 3))) [.fr (.int 3)] := by kernel_rfl
theorem sp4 (c : Cs) : m_spans c [.fr (.int 4)] = .ret (.v (.lst (prD 4))) [.fr (.int 4)] := by kernel_rfl
theorem sp5 (c : Cs) : m_spans c [.fr (.int 5)] = .ret (.v (.lst (prD 5))) [.fr (.int 5)] := by kernel_rfl
theorem ll2 (c : Cs) : m_lots c [.fr (.int 2)] = .ret (.ow (.lst (lotD 2))) [.fr (.int 2)] := by kernel_rfl
theorem ll3 (c : Cs) : m_lots c [.fr (.int 3)] = .ret (.ow (.lst (lotD 3))) [.fr (.int 3)] := by kernel_rfl
theorem ll4 (c : Cs) : m_lots c [.fr (.int 4)] = .ret (.ow (.lst (lotD 4))) [.fr (.int 4)] := by kernel_rfl
theorem ll5 (c : Cs) : m_lots c [.fr (.int 5)] = .ret (.ow (.lst (lotD 5))) [.fr (.int 5)] := by kernel_rfl
theorem band : ∀ k : Nat, k < 32 → ∀ i : Nat, i < 5 → decide (Builtin.bitAnd ((k : Int) / 2 ^ ((i : Int).toNat)) 1 = 1) = Nat.testBit k i := by decide +kernel

end Law
namespace Law
open PySem PySem.Spec PyProof.Rows L2 DL
variable [DL.Nm]
theorem n_cs {n : Nat} (h2 : 2 ≤ n) (h5 : n ≤ 5) : n = 2 ∨ n = 3 ∨ n = 4 ∨ n = 5 := by omega
theorem ip_ok (c : Cs) {n : Nat} (h2 : 2 ≤ n) (h5 : n ≤ 5) : m_index_pairs c [.fr (.int (n : Int))] = .ret (.ow (.lst (prD n))) [.fr (.int (n : Int))] := by
  rcases n_cs h2 h5 with rfl | rfl | rfl | rfl
  · exact ip2 c
  · exact ip3 c
  · exact ip4 c
  · exact ip5 c
theorem lo_ok (c : Cs) {n : Nat} (h2 : 2 ≤ n) (h5 : n ≤ 5) : m_lots_of c [.fr (.int (n : Int))] = .ret (.ow (.lst ((lotN n).map fun k : Nat => D.int (k : Int)))) [.fr (.int (n : Int))] := by
  rcases n_cs h2 h5 with rfl | rfl | rfl | rfl
  · exact lo2 c
  · exact lo3 c
  · exact lo4 c
  · exact lo5 c
theorem sp_ok (c : Cs) {n : Nat} (h2 : 2 ≤ n) (h5 : n ≤ 5) : m_spans c [.fr (.int (n : Int))] = .ret (.v (.lst (prD n))) [.fr (.int (n : Int))] := by
  rcases n_cs h2 h5 with rfl | rfl | rfl | rfl
  · exact sp2 c
  · exact sp3 c
  · exact sp4 c
  · exact sp5 c
theorem ll_ok (c : Cs) {n : Nat} (h2 : 2 ≤ n) (h5 : n ≤ 5) : m_lots c [.fr (.int (n : Int))] = .ret (.ow (.lst (lotD n))) [.fr (.int (n : Int))] := by
  rcases n_cs h2 h5 with rfl | rfl | rfl | rfl
  · exact ll2 c
  · exact ll3 c
  · exact ll4 c
  · exact ll5 c
theorem lotN_mem {n k : Nat} : k ∈ lotN n ↔ 1 ≤ k ∧ k ≤ 2 ^ n - 2 := by
  unfold lotN
  rw [List.mem_map]
  constructor
  · rintro ⟨a, ha, rfl⟩
    rw [List.mem_range] at ha
    omega
  · rintro ⟨h1, h2⟩
    exact ⟨k - 1, List.mem_range.mpr (by omega), by omega⟩
theorem lotN_nodup (n : Nat) : (lotN n).Nodup := by
  unfold lotN
  refine List.Pairwise.map _ (fun a b h => ?_) (List.nodup_range (n := 2 ^ n - 2))
  omega
theorem pow32 {n : Nat} (h5 : n ≤ 5) : 2 ^ n ≤ 32 := Nat.pow_le_pow_right (n := 2) (by omega) h5
theorem lotN_lt {n k : Nat} (h5 : n ≤ 5) (h : k ∈ lotN n) : k < 2 ^ n ∧ k < 32 := by
  have := lotN_mem.mp h
  have := pow32 h5
  omega
theorem lotN_len {n : Nat} (h5 : n ≤ 5) : (lotN n).length ≤ 30 := by
  unfold lotN
  rw [List.length_map, List.length_range]
  have := pow32 h5
  omega
theorem ipr_lt {n : Nat} {p : Nat × Nat} (h : p ∈ ipr n) : p.1 < p.2 ∧ p.2 < n := by
  unfold ipr at h
  rw [List.mem_flatMap] at h
  obtain ⟨i, hi, h⟩ := h
  rw [List.mem_map] at h
  obtain ⟨j, hj, rfl⟩ := h
  rw [List.mem_filter, List.mem_range] at hj
  exact ⟨by simpa using hj.2, hj.1⟩
theorem ipr_mem {n i j : Nat} (h : i < j) (hj : j < n) : (i, j) ∈ ipr n := by
  unfold ipr
  rw [List.mem_flatMap]
  refine ⟨i, List.mem_range.mpr (by omega), ?_⟩
  rw [List.mem_map]
  exact ⟨j, List.mem_filter.mpr ⟨List.mem_range.mpr hj, by simpa using h⟩, rfl⟩
/-! ### has, parts -/
def dif (k i j : Nat) : Bool := xor (Nat.testBit k i) (Nat.testBit k j)
theorem has_ok (c : Cs) {k i : Nat} (hk : k < 32) (hi : i < 5) : m_has c [.fr (.int (k : Int)), .fr (.int (i : Int))] = .ret (.v (.bl (Nat.testBit k i))) [.fr (.int (k : Int)), .fr (.int (i : Int))] := by
  have e1 := bin_v (o := shrD) (f := var 0) (g := var 1) (S := [.fr (.int (k : Int)), .fr (.int (i : Int))]) (r := .v (.int ((k : Int) / 2 ^ ((i : Int).toNat)))) (var_fr rfl) (var_fr rfl) (by
    have h0 : (0 : Int) ≤ (i : Int) := by omega
    simp only [shrD, if_pos h0])
  have e2 := bin_v (o := andI) (g := cst (.int 1)) e1 rfl (r := .v (.int (Builtin.bitAnd ((k : Int) / 2 ^ ((i : Int).toNat)) 1))) rfl
  have e3 := bin_v (o := eqD false) (g := cst (.int 1)) e2 rfl (eq_int (Builtin.bitAnd ((k : Int) / 2 ^ ((i : Int).toNat)) 1) 1)
  rw [band k hk i hi] at e3
  exact run_rt (n := 2) (N := 2) (g := b_has c) (retS_ok e3) (by intro i z; cases z) rfl
theorem parts_ok (c : Cs) {k i j : Nat} (hk : k < 32) (hi : i < 5) (hj : j < 5) : m_parts c [.fr (.int (k : Int)), .fr (.int (i : Int)), .fr (.int (j : Int))] = .ret (.v (.bl (dif k i j))) [.fr (.int (k : Int)), .fr (.int (i : Int)), .fr (.int (j : Int))] := by
  have e1 := fz_v (c2_v (f := var 0) (g := var 1) (S := [.fr (.int (k : Int)), .fr (.int (i : Int)), .fr (.int (j : Int))]) (var_fr rfl) (var_fr rfl) (has_ok c hk hi))
  have e2 := fz_v (c2_v (f := var 0) (g := var 2) (S := [.fr (.int (k : Int)), .fr (.int (i : Int)), .fr (.int (j : Int))]) (var_fr rfl) (var_fr rfl) (has_ok c hk hj))
  exact run_rt (n := 3) (N := 3) (g := b_parts c) (retS_ok (bin_v e1 e2 (ne_bl _ _))) (by intro i z; cases z) rfl
/-! ### leading_out -/
def tab (N : Nat) (f : Nat → Int) : List D := (List.range N).map fun m => D.int (f m)
theorem tab_len {N : Nat} {f : Nat → Int} : (tab N f).length = N := by simp [tab]
theorem tab_get {N : Nat} {f : Nat → Int} {k : Nat} (h : k < N) : (tab N f)[k]? = some (.int (f k)) := by
  unfold tab
  rw [List.getElem?_map, List.getElem?_range h]
  rfl
theorem tab_set {N : Nat} {f : Nat → Int} {k : Nat} {v : Int} (h : k < N) : (tab N f).set k (.int v) = tab N fun m => if m = k then v else f m := by
  apply List.ext_getElem?
  intro m
  rw [List.getElem?_set, tab_len]
  by_cases hm : m < N
  · rw [tab_get hm]
    by_cases e : k = m
    · subst e
      simp [h, tab_get h]
    · have e' : ¬ m = k := fun z => e z.symm
      simp [e, e', tab_get hm]
  · rw [List.getElem?_eq_none (by rw [tab_len]; omega), List.getElem?_eq_none (by rw [tab_len]; omega)]
    by_cases e : k = m
    · subst e
      exact absurd h hm
    · simp [e]
def SL (n N : Nat) (ns : List Int) (f : Nat → Int) (s3 s4 s5 s6 : Sl) : DS := [.fr (.int (n : Int)), .fr (.tup (ns.map D.int)), .ow false (.lst (tab N f)), s3, s4, s5, s6]
def bodyI (c : Cs) : DS → Fl := ifS (fz (callD 3 (m_parts c) (aCons (var 6) (aCons (var 3) (aCons (var 4) aNil))))) (augS 2 (var 6) (var 5)) skipS
def bodyO (c : Cs) : DS → Fl := forS (iLst (fz (callD 1 (m_lots_of c) (aCons (var 0) aNil)))) (nameG 6) (bodyI c)
def leadA : DS → Fl := asgS 2 (DL.bin mulD (fz (lstD (aCons (cst (.int 0)) aNil))) (DL.bin shlD (cst (.int 1)) (var 0)))
def loopO (c : Cs) : DS → Fl := forS (iZp (aCons (fz (callD 1 (m_index_pairs c) (aCons (var 0) aNil))) (aCons (var 1) aNil))) (tupG [tupG [nameG 3, nameG 4], nameG 5]) (bodyO c)
theorem lead_b (c : Cs) : b_leading_out c = seqS leadA (seqS (loopO c) (retMov 2)) := rfl
theorem leadA_ok {n : Nat} (h2 : 2 ≤ n) (h5 : n ≤ 5) {d : D} : leadA [.fr (.int (n : Int)), .fr d, .un, .un, .un, .un, .un] = .nx [.fr (.int (n : Int)), .fr d, .ow false (.lst (tab (2 ^ n) fun _ => 0)), .un, .un, .un, .un] := by
  rcases n_cs h2 h5 with rfl | rfl | rfl | rfl <;> kernel_rfl
section
variable {c : Cs} {n N : Nat} {ns : List Int} {f : Nat → Int} {s3 s4 s5 s6 : Sl} {i j : Nat} {x : Int}
theorem aug_ok {k : Nat} (hk : k < N) (hN : N ≤ 32) : augS 2 (var 6) (var 5) (SL n N ns f s3 s4 (.fr (.int x)) (.fr (.int (k : Int)))) = .nx (SL n N ns (fun m => if m = k then f k + x else f m) s3 s4 (.fr (.int x)) (.fr (.int (k : Int)))) := by
  have g0 : isLst (SL n N ns f s3 s4 (.fr (.int x)) (.fr (.int (k : Int)))) 2 = true := rfl
  have v6 : var 6 (SL n N ns f s3 s4 (.fr (.int x)) (.fr (.int (k : Int)))) = .ok (.v (.int (k : Int))) (SL n N ns f s3 s4 (.fr (.int x)) (.fr (.int (k : Int)))) := var_fr rfl
  have v5 : var 5 (SL n N ns f s3 s4 (.fr (.int x)) (.fr (.int (k : Int)))) = .ok (.v (.int x)) (SL n N ns f s3 s4 (.fr (.int x)) (.fr (.int (k : Int)))) := var_fr rfl
  have s2 : (SL n N ns f s3 s4 (.fr (.int x)) (.fr (.int (k : Int))))[2]? = some (.ow false (.lst (tab N f))) := rfl
  have tk : ((k : Int)).toNat = k := by omega
  have h0 : (0 : Int) ≤ (k : Int) := by omega
  have ix : ixN (tab N f).length (k : Int) = some k := by
    rw [tab_len]
    unfold ixN
    rw [if_pos h0, if_pos (by omega), tk]
  unfold augS
  rw [g0]
  simp only [if_true, v6, s2, tk, tab_get hk, if_pos h0, v5, ix, tab_set hk]
  rfl
theorem inner_ok (hi : i < 5) (hj : j < 5) (hN : N ≤ 32) : ∀ (ks : List Nat) (f : Nat → Int) (s6 : Sl), ks.Nodup → (∀ k ∈ ks, k < N) → okSl s6 →
    ∃ t6, okSl t6 ∧ forD (nameG 6) (bodyI c) (ks.map fun k : Nat => D.int (k : Int)) (SL n N ns f (.fr (.int (i : Int))) (.fr (.int (j : Int))) (.fr (.int x)) s6) = .nx (SL n N ns (fun m => f m + (if decide (m ∈ ks) && dif m i j then x else 0)) (.fr (.int (i : Int))) (.fr (.int (j : Int))) (.fr (.int x)) t6)
  | [], f, s6, _, _, h6 => ⟨s6, h6, by
    rw [List.map_nil, forD]
    congr 2
    funext m
    simp⟩
  | k :: ks, f, s6, nd, hk, h6 => by
    rw [List.nodup_cons] at nd
    have hkN := hk k List.mem_cons_self
    have b : nameG 6 (.int (k : Int)) (SL n N ns f (.fr (.int (i : Int))) (.fr (.int (j : Int))) (.fr (.int x)) s6) = .nx (SL n N ns f (.fr (.int (i : Int))) (.fr (.int (j : Int))) (.fr (.int x)) (.fr (.int (k : Int)))) := by
      rcases h6 with rfl | ⟨_, rfl⟩ <;> rfl
    have t : fz (callD 3 (m_parts c) (aCons (var 6) (aCons (var 3) (aCons (var 4) aNil)))) (SL n N ns f (.fr (.int (i : Int))) (.fr (.int (j : Int))) (.fr (.int x)) (.fr (.int (k : Int)))) = .ok (.v (.bl (dif k i j))) (SL n N ns f (.fr (.int (i : Int))) (.fr (.int (j : Int))) (.fr (.int x)) (.fr (.int (k : Int)))) :=
      fz_v (c3_v (var_fr rfl) (var_fr rfl) (var_fr rfl) (parts_ok c (by omega) hi hj))
    cases hd : dif k i j with
    | true =>
      rw [hd] at t
      have st : bodyI c (SL n N ns f (.fr (.int (i : Int))) (.fr (.int (j : Int))) (.fr (.int x)) (.fr (.int (k : Int)))) = .nx (SL n N ns (fun m => if m = k then f k + x else f m) (.fr (.int (i : Int))) (.fr (.int (j : Int))) (.fr (.int x)) (.fr (.int (k : Int)))) := (ifS_t t).trans (aug_ok hkN hN)
      obtain ⟨t6, o6, e⟩ := inner_ok hi hj hN ks (fun m => if m = k then f k + x else f m) (.fr (.int (k : Int))) nd.2 (fun y hy => hk y (List.mem_cons_of_mem _ hy)) (.inr ⟨_, rfl⟩)
      refine ⟨t6, o6, ?_⟩
      rw [List.map_cons]
      refine ((forD_nx b st).trans e).trans ?_
      congr 2
      funext m
      by_cases e : m = k
      · subst e
        simp [nd.1, hd]
      · simp [e]
    | false =>
      rw [hd] at t
      have st : bodyI c (SL n N ns f (.fr (.int (i : Int))) (.fr (.int (j : Int))) (.fr (.int x)) (.fr (.int (k : Int)))) = .nx (SL n N ns f (.fr (.int (i : Int))) (.fr (.int (j : Int))) (.fr (.int x)) (.fr (.int (k : Int)))) := (ifS_f t).trans rfl
      obtain ⟨t6, o6, e⟩ := inner_ok hi hj hN ks f (.fr (.int (k : Int))) nd.2 (fun y hy => hk y (List.mem_cons_of_mem _ hy)) (.inr ⟨_, rfl⟩)
      refine ⟨t6, o6, ?_⟩
      rw [List.map_cons]
      refine ((forD_nx b st).trans e).trans ?_
      congr 2
      funext m
      by_cases e : m = k
      · subst e
        simp [nd.1, hd]
      · simp [e]
def qD (q : (Nat × Nat) × Int) : D := .tup [.tup [.int (q.1.1 : Int), .int (q.1.2 : Int)], .int q.2]
def acc (n : Nat) (qs : List ((Nat × Nat) × Int)) (m : Nat) : Int := (qs.map fun q => if decide (m ∈ lotN n) && dif m q.1.1 q.1.2 then q.2 else 0).sum
theorem outer_ok (h2 : 2 ≤ n) (h5 : n ≤ 5) : ∀ (qs : List ((Nat × Nat) × Int)) (f : Nat → Int) (s3 s4 s5 s6 : Sl), (∀ q ∈ qs, q.1.1 < 5 ∧ q.1.2 < 5) → okSl s3 → okSl s4 → okSl s5 → okSl s6 →
    ∃ t3 t4 t5 t6, forD (tupG [tupG [nameG 3, nameG 4], nameG 5]) (bodyO c) (qs.map qD) (SL n (2 ^ n) ns f s3 s4 s5 s6) = .nx (SL n (2 ^ n) ns (fun m => f m + acc n qs m) t3 t4 t5 t6)
  | [], f, s3, s4, s5, s6, _, _, _, _, _ => ⟨s3, s4, s5, s6, by
    rw [List.map_nil, forD]
    congr 2
    funext m
    simp [acc]⟩
  | q :: qs, f, s3, s4, s5, s6, hq, h3, h4, h5', h6 => by
    obtain ⟨⟨i, j⟩, x⟩ := q
    have hq0 := hq ((i, j), x) List.mem_cons_self
    have b : tupG [tupG [nameG 3, nameG 4], nameG 5] (qD ((i, j), x)) (SL n (2 ^ n) ns f s3 s4 s5 s6) = .nx (SL n (2 ^ n) ns f (.fr (.int (i : Int))) (.fr (.int (j : Int))) (.fr (.int x)) s6) := by
      rcases h3 with rfl | ⟨_, rfl⟩ <;> rcases h4 with rfl | ⟨_, rfl⟩ <;> rcases h5' with rfl | ⟨_, rfl⟩ <;> rfl
    obtain ⟨u6, o6, e⟩ := inner_ok (c := c) (n := n) (ns := ns) (x := x) hq0.1 hq0.2 (pow32 h5) (lotN n) f s6 (lotN_nodup n) (fun k hk => (lotN_lt h5 hk).1) h6
    have il : iLst (fz (callD 1 (m_lots_of c) (aCons (var 0) aNil))) (SL n (2 ^ n) ns f (.fr (.int (i : Int))) (.fr (.int (j : Int))) (.fr (.int x)) s6) = .ok ((lotN n).map fun k : Nat => D.int (k : Int)) (SL n (2 ^ n) ns f (.fr (.int (i : Int))) (.fr (.int (j : Int))) (.fr (.int x)) s6) :=
      iLst_ok (fz_ok (c1_o (var_fr rfl) (lo_ok c h2 h5)))
    have st := (forS_ok (bd := nameG 6) (b := bodyI c) il).trans e
    obtain ⟨t3, t4, t5, t6, e2⟩ := outer_ok h2 h5 qs (fun m => f m + (if decide (m ∈ lotN n) && dif m i j then x else 0)) _ _ _ u6 (fun q h => hq q (List.mem_cons_of_mem _ h)) (.inr ⟨_, rfl⟩) (.inr ⟨_, rfl⟩) (.inr ⟨_, rfl⟩) o6
    refine ⟨t3, t4, t5, t6, ?_⟩
    rw [List.map_cons]
    refine ((forD_nx b st).trans e2).trans ?_
    congr 2
    funext m
    simp only [acc, List.map_cons, List.sum_cons, Int.add_assoc]
end
def pz (n : Nat) (ns : List Int) : List ((Nat × Nat) × Int) := (ipr n).zip ns
theorem zipT_pz (n : Nat) (ns : List Int) : zipT (prD n) (ns.map D.int) = (pz n ns).map qD := by
  unfold zipT prD pz
  rw [List.zipWith_map, List.map_zip_eq_zipWith]
  rfl
theorem pz_lt {n : Nat} {ns : List Int} (h5 : n ≤ 5) {q : (Nat × Nat) × Int} (h : q ∈ pz n ns) : q.1.1 < 5 ∧ q.1.2 < 5 := by
  have := ipr_lt (List.of_mem_zip h).1
  omega
def gv (n : Nat) (ns : List Int) (m : Nat) : Int := 0 + acc n (pz n ns) m
theorem retM_ok {n N : Nat} {ns : List Int} {f : Nat → Int} {s3 s4 s5 s6 : Sl} : retMov 2 (SL n N ns f s3 s4 s5 s6) = .rt (.ow (.lst (tab N f))) [.fr (.int (n : Int)), .fr (.tup (ns.map D.int)), .un, s3, s4, s5, s6] := rfl

end Law
namespace Law
open PySem PySem.Spec PyProof.Rows L2 DL
variable [DL.Nm]
theorem iz_gen {A B : DS → Out} {S : DS} {ds es : List D} (e1 : A S = .ok (.v (.lst ds)) S) (e2 : B S = .ok (.v (.tup es)) S) : iZp (aCons A (aCons B aNil)) S = .ok (zipT ds es) S := by
  simp only [iZp, aCons, e1, e2, aNil, seqOf]
theorem iz_ok (c : Cs) {n : Nat} {ns : List Int} {f : Nat → Int} {s3 s4 s5 s6 : Sl} (h2 : 2 ≤ n) (h5 : n ≤ 5) : iZp (aCons (fz (callD 1 (m_index_pairs c) (aCons (var 0) aNil))) (aCons (var 1) aNil)) (SL n (2 ^ n) ns f s3 s4 s5 s6) = .ok ((pz n ns).map qD) (SL n (2 ^ n) ns f s3 s4 s5 s6) := by
  rw [← zipT_pz]
  exact iz_gen (fz_ok (c1_o (var_fr rfl) (ip_ok c h2 h5))) (var_fr rfl)
theorem lead_loop (c : Cs) {n : Nat} {ns : List Int} (h2 : 2 ≤ n) (h5 : n ≤ 5) : ∃ t3 t4 t5 t6, loopO c (SL n (2 ^ n) ns (fun _ => 0) .un .un .un .un) = .nx (SL n (2 ^ n) ns (gv n ns) t3 t4 t5 t6) := by
  obtain ⟨t3, t4, t5, t6, e⟩ := outer_ok (c := c) (ns := ns) h2 h5 (pz n ns) (fun _ => 0) .un .un .un .un (fun q h => pz_lt h5 h) (.inl rfl) (.inl rfl) (.inl rfl) (.inl rfl)
  exact ⟨t3, t4, t5, t6, (forS_ok (bd := tupG [tupG [nameG 3, nameG 4], nameG 5]) (b := bodyO c) (iz_ok c h2 h5)).trans e⟩
theorem lead_all (c : Cs) {n : Nat} {ns : List Int} (h2 : 2 ≤ n) (h5 : n ≤ 5) : ∃ t3 t4 t5 t6, b_leading_out c [.fr (.int (n : Int)), .fr (.tup (ns.map D.int)), .un, .un, .un, .un, .un] = .rt (.ow (.lst (tab (2 ^ n) (gv n ns)))) [.fr (.int (n : Int)), .fr (.tup (ns.map D.int)), .un, t3, t4, t5, t6] := by
  obtain ⟨t3, t4, t5, t6, e1⟩ := lead_loop c (ns := ns) h2 h5
  have e0 : leadA [.fr (.int (n : Int)), .fr (.tup (ns.map D.int)), .un, .un, .un, .un, .un] = .nx (SL n (2 ^ n) ns (fun _ => 0) .un .un .un .un) := leadA_ok h2 h5
  rw [lead_b]
  exact ⟨t3, t4, t5, t6, (seq_nx (h := seqS (loopO c) (retMov 2)) e0).trans ((seq_nx (h := retMov 2) e1).trans retM_ok)⟩
theorem lead_ok (c : Cs) {n : Nat} {ns : List Int} (h2 : 2 ≤ n) (h5 : n ≤ 5) : m_leading_out c [.fr (.int (n : Int)), .fr (.tup (ns.map D.int))] = .ret (.ow (.lst (tab (2 ^ n) (gv n ns)))) [.fr (.int (n : Int)), .fr (.tup (ns.map D.int))] := by
  obtain ⟨t3, t4, t5, t6, all⟩ := lead_all c (ns := ns) h2 h5
  exact run_rt (n := 2) (N := 7) (g := b_leading_out c) all (by intro i z; cases z) rfl

end Law
namespace Law
open PySem PySem.Spec PyProof.Rows L2 DL
variable [DL.Nm]
/-! ### the least of a list -/
def minOf : List Int → Int
  | [] => 0
  | n :: ns => minL n ns
theorem iLs_map : ∀ ns : List Int, iLs (ns.map D.int) = some ns
  | [] => rfl
  | n :: ns => by simp [iLs, iLs_map ns]
theorem minC_map {ns : List Int} (h : ns ≠ []) : minC [.lst (ns.map D.int)] = some (.v (.int (minOf ns))) := by
  cases ns with
  | nil => exact absurd rfl h
  | cons n ns => simp [minC, ← List.map_cons, iLs_map, minOf]
theorem minOf_mem {ns : List Int} (h : ns ≠ []) : minOf ns ∈ ns := by
  cases ns with
  | nil => exact absurd rfl h
  | cons n ns => exact (minL_spec ns n).1
theorem minOf_le {ns : List Int} {y : Int} (h : y ∈ ns) : minOf ns ≤ y := by
  cases ns with
  | nil => cases h
  | cons n ns => exact (minL_spec ns n).2 y h
theorem minOf_eq {as bs : List Int} (ha : as ≠ []) (hb : bs ≠ []) (h1 : ∀ x ∈ as, ∃ y ∈ bs, y ≤ x) (h2 : ∀ x ∈ bs, ∃ y ∈ as, y ≤ x) : minOf as = minOf bs := by
  obtain ⟨y, hy, l⟩ := h1 _ (minOf_mem ha)
  obtain ⟨z, hz, l2⟩ := h2 _ (minOf_mem hb)
  have := minOf_le hy
  have := minOf_le hz
  omega
/-! ### out of the table -/
theorem ix_tab {N k : Nat} {f : Nat → Int} (h : k < N) : ixD (.lst (tab N f)) (.int (k : Int)) = some (.v (.int (f k))) := by
  have h0 : (0 : Int) ≤ (k : Int) := by omega
  have tk : ((k : Int)).toNat = k := by omega
  have ix : ixN (tab N f).length (k : Int) = some k := by
    rw [tab_len]
    unfold ixN
    rw [if_pos h0, if_pos (by omega), tk]
  simp only [ixD, atI, ix, Option.bind_some, tab_get h]
theorem lotI {n : Nat} {d : D} (h : d ∈ (lotN n).map fun k : Nat => D.int (k : Int)) : ∃ k : Nat, k ∈ lotN n ∧ d = .int (k : Int) := by
  obtain ⟨k, hk, rfl⟩ := List.mem_map.mp h
  exact ⟨k, hk, rfl⟩
def gI (f : Nat → Int) : D → D
  | .int k => .int (f k.toNat)
  | d => d
def pI' (i j : Nat) : D → Bool
  | .int k => dif k.toNat i j
  | _ => false
theorem map_gI (f : Nat → Int) (ks : List Nat) : (ks.map fun k : Nat => D.int (k : Int)).map (gI f) = (ks.map f).map D.int := by
  rw [List.map_map, List.map_map]
  rfl
theorem filter_pI (i j : Nat) (ks : List Nat) : (ks.map fun k : Nat => D.int (k : Int)).filter (pI' i j) = (ks.filter fun k => dif k i j).map fun k : Nat => D.int (k : Int) := by
  rw [List.filter_map]
  rfl
theorem sz_lots {n : Nat} (h5 : n ≤ 5) : ((lotN n).map fun k : Nat => D.int (k : Int)).length ≤ sizeLine := by
  have := lotN_len h5
  rw [List.length_map, sizeLine_eq]
  omega
theorem lotN_ne {n : Nat} (h2 : 2 ≤ n) : lotN n ≠ [] := by
  have h : 1 ∈ lotN n := lotN_mem.mpr ⟨Nat.le_refl _, by
    have : 2 ^ 2 ≤ 2 ^ n := Nat.pow_le_pow_right (by omega) h2
    omega⟩
  intro e
  rw [e] at h
  cases h
/-! ### least_parting -/
def partL (n i j : Nat) : List Nat := (lotN n).filter fun k => dif k i j
theorem one_part {n i j : Nat} (hij : i ≠ j) (hi : i < n) (hj : j < n) : ∃ k, k ∈ lotN n ∧ Nat.testBit k i = true ∧ Nat.testBit k j = false := by
  refine ⟨2 ^ i, lotN_mem.mpr ⟨Nat.one_le_two_pow, ?_⟩, Nat.testBit_two_pow_self, Nat.testBit_two_pow_of_ne hij⟩
  have h1 : 2 ^ (i + 1) ≤ 2 ^ n := Nat.pow_le_pow_right (by omega) hi
  rw [Nat.pow_succ] at h1
  have h3 : 1 ≤ 2 ^ i := Nat.one_le_two_pow
  by_cases z : i = 0
  · subst z
    have : 2 ^ 2 ≤ 2 ^ n := Nat.pow_le_pow_right (by omega) (by omega)
    omega
  · have : 2 ^ 1 ≤ 2 ^ i := Nat.pow_le_pow_right (by omega) (by omega)
    omega
theorem partL_ne {n i j : Nat} (hij : i ≠ j) (hi : i < n) (hj : j < n) : partL n i j ≠ [] := by
  obtain ⟨k, hk, h1, h2⟩ := one_part hij hi hj
  have : k ∈ partL n i j := List.mem_filter.mpr ⟨hk, by simp [dif, h1, h2]⟩
  intro e
  rw [e] at this
  cases this
def lenOk (xs : List Str) (ns : List Int) : Prop := (prs xs).length = ns.length ∧ ns.length ≤ 100
theorem ldA (c : Cs) {S : DS} {f g : DS → Out} {xs : List Str} {ns : List Int} (h2 : 2 ≤ xs.length) (h5 : xs.length ≤ 5) (h : f S = .ok (.v (.ins c.Sea (seaF xs))) S) (hg : g S = .ok (.v (.tup (ns.map D.int))) S) : fz (callD 2 (m_leading_out c) (aCons (ownB c.Sea (m_Sea_len c) isLen f) (aCons g aNil))) S = .ok (.v (.lst (tab (2 ^ xs.length) (gv xs.length ns)))) S :=
  fz_ok (c2_o (sea_len h5 h) hg (lead_ok c h2 h5))
theorem sLs_map : ∀ xs : List Str, sLs (xs.map D.str) = some xs
  | [] => rfl
  | x :: xs => by simp [sLs, sLs_map xs]
theorem tix_ok {S : DS} {f g : DS → Out} {xs : List Str} {x : Str} (h1 : f S = .ok (.v (.tpx (xs.map D.str))) S) (h2 : g S = .ok (.v (.str x)) S) (hx : x ∈ xs) : tixX f (aCons g aNil) S = .ok (.v (.int (xs.idxOf x : Int))) S := by
  unfold tixX bnd
  rw [h1]
  simp only [aCons, h2, aNil, sLs_map, if_pos hx]
theorem idx_lt {xs : List Str} {x : Str} (h : x ∈ xs) : xs.idxOf x < xs.length := List.idxOf_lt_length_iff.mpr h
theorem idx_ne {xs : List Str} {x y : Str} (hx : x ∈ xs) (hy : y ∈ xs) (ne : x ≠ y) : xs.idxOf x ≠ xs.idxOf y := by
  intro e
  have h1 := List.getElem_idxOf (idx_lt hx)
  have h2 := List.getElem_idxOf (idx_lt hy)
  simp only [e] at h1
  exact ne (h1.symm.trans h2)

end Law
namespace Law
open PySem PySem.Spec PyProof.Rows L2 DL
variable [DL.Nm]
/-! ### comprehensions over a list that is told by another one -/
section
variable {α : Type} {i : Nat} {fi : DS → IOut} {c f : DS → Out} {S : DS} {s : Sl}
theorem lc_ix (u : α → D) (p : α → Bool) (g : α → D) (hi : i < S.length) : ∀ L : List α, (∀ a ∈ L, c (S.set i (.fr (u a))) = .ok (.v (.bl (p a))) (S.set i (.fr (u a)))) → (∀ a ∈ L, p a = true → f (S.set i (.fr (u a))) = .ok (.v (g a)) (S.set i (.fr (u a)))) →
    lcG true [i] [i] (elemT c f) (L.map u) (S.set i .un) = some ((L.filter p).map g, S.set i .un)
  | [], _, _ => rfl
  | a :: L, hc, hf => by
    have ih := lc_ix u p g hi L (fun e he => hc e (List.mem_cons_of_mem _ he)) fun e he => hf e (List.mem_cons_of_mem _ he)
    have hb : bindD true [i] (u a) (S.set i .un) = some (S.set i (.fr (u a))) := by simp [bindD, putD]
    have okw : okW (S.set i (.fr (u a))) [i] = true := by simp [okW, hi]
    have wi : wipeS (S.set i (.fr (u a))) [i] = S.set i .un := by simp [wipeS]
    rw [List.map_cons]
    unfold lcG
    rw [hb]
    have h1 := hc a List.mem_cons_self
    cases hp : p a with
    | true =>
      have h2 := hf a List.mem_cons_self hp
      rw [hp] at h1
      simp only [elemT, h1, h2, okw, wi, ih, List.filter_cons, hp, if_true, List.map_cons, List.singleton_append]
    | false =>
      rw [hp] at h1
      simp only [elemT, h1, okw, wi, ih, List.filter_cons, hp, if_true, List.nil_append, Bool.false_eq_true, if_false]
theorem comp_ix (u : α → D) (p : α → Bool) (g : α → D) {L : List α} (hfi : fi S = .ok (L.map u) S) (hs : S[i]? = some s) (ok : okSl s) (hc : ∀ a ∈ L, c (S.set i (.fr (u a))) = .ok (.v (.bl (p a))) (S.set i (.fr (u a)))) (hf : ∀ a ∈ L, p a = true → f (S.set i (.fr (u a))) = .ok (.v (g a)) (S.set i (.fr (u a))))
    (hl : L.length ≤ sizeLine) : compD true [i] [i] fi c f S = .ok (.ow (.lst ((L.filter p).map g))) S := by
  have hi : i < S.length := (List.getElem?_eq_some_iff.mp hs).1
  have e : okW S [i] = true := by
    rcases ok with rfl | ⟨e0, rfl⟩ <;> simp [okW, hs]
  have w : wipeS S [i] = S.set i .un := by simp [wipeS]
  have r : restS S (S.set i .un) [i] = S := by
    have e1 : S[i] = s := by
      rw [List.getElem?_eq_getElem hi] at hs
      exact Option.some.inj hs
    subst e1
    simp [restS, hs, List.set_getElem_self hi]
  have hlen : ((L.filter p).map g).length ≤ sizeLine := by
    rw [List.length_map]
    exact Nat.le_trans (List.length_filter_le p L) hl
  unfold compD compG
  rw [hfi]
  simp only [e, w, lc_ix u p g hi L hc hf, r, hlen, if_true, List.all_cons, List.contains_cons, beq_self_eq_true, Bool.true_or, List.all_nil, Bool.and_self]
end
/-! ### x in a list of numbers -/
theorem flats_ints : ∀ xs : List Int, D.flats (xs.map D.int) = some (xs.map V.int)
  | [] => rfl
  | x :: xs => by simp [D.flats, D.flat, flats_ints xs]
theorem inV_ints (x : Int) : ∀ xs : List Int, inV (.int x) (xs.map V.int) = decide (x ∈ xs)
  | [] => by simp [inV]
  | y :: ys => by
    have ih := inV_ints x ys
    unfold inV at ih ⊢
    rw [List.map_cons, List.any_cons, ih]
    by_cases h : x = y
    · subst h
      simp [eqV]
    · have h' : ¬ y = x := fun z => h z.symm
      simp [eqV, h, h']
theorem in_ints (x : Int) (xs : List Int) (ng : Bool) : inD ng (.int x) (.lst (xs.map D.int)) = some (.v (.bl (xor ng (decide (x ∈ xs))))) := by
  cases ng <;> simp [inD, D.flat, flats_ints, inV_ints]
def lotL (n k : Nat) : List Int := (bitsL n k).map fun i : Nat => (i : Int)
def uL (n k : Nat) : D := .lst ((lotL n k).map D.int)
theorem lotD_u (n : Nat) : lotD n = (lotN n).map (uL n) := by
  unfold lotD uL lotL
  refine List.map_congr_left fun k _ => ?_
  rw [List.map_map]
  rfl
theorem mem_lotL {n k i : Nat} (h : i < n) : decide ((i : Int) ∈ lotL n k) = Nat.testBit k i := by
  have : (i : Int) ∈ lotL n k ↔ Nat.testBit k i = true := by
    unfold lotL bitsL
    rw [List.mem_map]
    constructor
    · rintro ⟨a, ha, e⟩
      have : a = i := by omega
      subst this
      exact (List.mem_filter.mp ha).2
    · intro t
      exact ⟨i, List.mem_filter.mpr ⟨List.mem_range.mpr h, t⟩, rfl⟩
  cases e : Nat.testBit k i with
  | true => exact decide_eq_true (this.mpr e)
  | false => exact decide_eq_false fun z => by rw [this.mp z] at e; cases e
/-! ### out -/
def cs (k : Nat) (qs : List ((Nat × Nat) × Int)) : Int := (qs.map fun q => if dif k q.1.1 q.1.2 then q.2 else 0).sum
def cv (n : Nat) (ns : List Int) (k : Nat) : Int := cs k (pz n ns)
theorem gv_cv {n k : Nat} {ns : List Int} (h : k ∈ lotN n) : gv n ns k = cv n ns k := by
  unfold gv acc cv cs
  rw [Int.zero_add]
  refine congrArg List.sum (List.map_congr_left fun q _ => ?_)
  rw [decide_eq_true h, Bool.true_and]
def SO (n k : Nat) (ns : List Int) (t a : Int) (s5 s6 : Sl) : DS := [.fr (.int (n : Int)), .fr (.tup (ns.map D.int)), .fr (uL n k), .fr (.int t), .fr (.int a), s5, s6]
def oCond : DS → Out := DL.bin (eqD true) (DL.bin (inD false) (var 5) (var 2)) (DL.bin (inD false) (var 6) (var 2))
def oT : DS → Fl := asgS 3 (fz (DL.bin addD (var 3) (iteD oCond (DL.bin ixD (var 1) (var 4)) (cst (.int 0)))))
def oN : DS → Fl := asgS 4 (fz (DL.bin addD (var 4) (cst (.int 1))))
theorem out_b (c : Cs) : b_out c = seqS (asgT (tupD (aCons (cst (.int 0)) (aCons (cst (.int 0)) aNil))) (tupG [nameG 3, nameG 4])) (seqS (forS (iLst (fz (callD 1 (m_spans c) (aCons (var 0) aNil)))) (tupG [nameG 5, nameG 6]) (seqS oT oN)) (retS (var 3))) := rfl
theorem ite_t {f g h : DS → Out} {S S' : DS} (e : f S = .ok (.v (.bl true)) S') : iteD f g h S = g S' := by
  unfold iteD bnd
  rw [e]
theorem ite_f {f g h : DS → Out} {S S' : DS} (e : f S = .ok (.v (.bl false)) S') : iteD f g h S = h S' := by
  unfold iteD bnd
  rw [e]
def pD (p : Nat × Nat) : D := .tup [.int (p.1 : Int), .int (p.2 : Int)]
theorem ix_ns {ns : List Int} {a : Nat} {x : Int} (h : ns[a]? = some x) : ixD (.tup (ns.map D.int)) (.int (a : Int)) = some (.v (.int x)) := by
  have l : a < ns.length := (List.getElem?_eq_some_iff.mp h).1
  have h0 : (0 : Int) ≤ (a : Int) := by omega
  have tk : ((a : Int)).toNat = a := by omega
  have ix : ixN (ns.map D.int).length (a : Int) = some a := by
    rw [List.length_map]
    unfold ixN
    rw [if_pos h0, if_pos (by omega), tk]
  have g : (ns.map D.int)[a]? = some (.int x) := by
    rw [List.getElem?_map, h]
    rfl
  simp only [ixD, atI, ix, Option.bind_some, g]
theorem oBody_ok {n k i j a : Nat} {ns : List Int} {t x : Int} (hi : i < n) (hj : j < n) (h : ns[a]? = some x) : seqS oT oN (SO n k ns t (a : Int) (.fr (.int (i : Int))) (.fr (.int (j : Int)))) = .nx (SO n k ns (t + (if dif k i j then x else 0)) ((a + 1 : Nat) : Int) (.fr (.int (i : Int))) (.fr (.int (j : Int)))) := by
  have c1 := bin_v (o := inD false) (f := var 5) (g := var 2) (S := SO n k ns t (a : Int) (.fr (.int (i : Int))) (.fr (.int (j : Int)))) (var_fr rfl) (var_fr rfl) (in_ints (i : Int) (lotL n k) false)
  have c2 := bin_v (o := inD false) (f := var 6) (g := var 2) (S := SO n k ns t (a : Int) (.fr (.int (i : Int))) (.fr (.int (j : Int)))) (var_fr rfl) (var_fr rfl) (in_ints (j : Int) (lotL n k) false)
  rw [mem_lotL hi, Bool.false_xor] at c1
  rw [mem_lotL hj, Bool.false_xor] at c2
  have cc : oCond (SO n k ns t (a : Int) (.fr (.int (i : Int))) (.fr (.int (j : Int)))) = .ok (.v (.bl (dif k i j))) (SO n k ns t (a : Int) (.fr (.int (i : Int))) (.fr (.int (j : Int)))) := bin_v c1 c2 (ne_bl _ _)
  have v : iteD oCond (DL.bin ixD (var 1) (var 4)) (cst (.int 0)) (SO n k ns t (a : Int) (.fr (.int (i : Int))) (.fr (.int (j : Int)))) = .ok (.v (.int (if dif k i j then x else 0))) (SO n k ns t (a : Int) (.fr (.int (i : Int))) (.fr (.int (j : Int)))) := by
    cases hd : dif k i j with
    | true =>
      rw [hd] at cc
      exact (ite_t cc).trans (bin_v (var_fr rfl) (var_fr rfl) (ix_ns h))
    | false =>
      rw [hd] at cc
      exact (ite_f cc).trans rfl
  have e1 : oT (SO n k ns t (a : Int) (.fr (.int (i : Int))) (.fr (.int (j : Int)))) = .nx (SO n k ns (t + (if dif k i j then x else 0)) (a : Int) (.fr (.int (i : Int))) (.fr (.int (j : Int)))) := asg_v (fz_v (bin_v (o := addD) (f := var 3) (var_fr rfl) v rfl)) rfl
  have ea : ((a + 1 : Nat) : Int) = (a : Int) + 1 := by omega
  have e2 : oN (SO n k ns (t + (if dif k i j then x else 0)) (a : Int) (.fr (.int (i : Int))) (.fr (.int (j : Int)))) = .nx (SO n k ns (t + (if dif k i j then x else 0)) ((a : Int) + 1) (.fr (.int (i : Int))) (.fr (.int (j : Int)))) := asg_v (fz_v (bin_v (o := addD) (f := var 4) (g := cst (.int 1)) (var_fr rfl) rfl rfl)) rfl
  rw [ea]
  exact (seq_nx e1).trans e2
theorem out_loop {n k : Nat} {ns : List Int} : ∀ (ps : List (Nat × Nat)) (a : Nat) (t : Int) (s5 s6 : Sl), (∀ p ∈ ps, p.1 < n ∧ p.2 < n) → a + ps.length ≤ ns.length → okSl s5 → okSl s6 →
    ∃ a' t5 t6, forD (tupG [nameG 5, nameG 6]) (seqS oT oN) (ps.map pD) (SO n k ns t (a : Int) s5 s6) = .nx (SO n k ns (t + cs k (ps.zip (ns.drop a))) a' t5 t6)
  | [], a, t, s5, s6, _, _, _, _ => ⟨(a : Int), s5, s6, by
    rw [List.map_nil, forD]
    simp [cs]⟩
  | (i, j) :: ps, a, t, s5, s6, hp, hl, h5, h6 => by
    rw [List.length_cons] at hl
    have la : a < ns.length := by omega
    have hx : ns[a]? = some ns[a] := List.getElem?_eq_getElem la
    have b : tupG [nameG 5, nameG 6] (pD (i, j)) (SO n k ns t (a : Int) s5 s6) = .nx (SO n k ns t (a : Int) (.fr (.int (i : Int))) (.fr (.int (j : Int)))) := by
      rcases h5 with rfl | ⟨_, rfl⟩ <;> rcases h6 with rfl | ⟨_, rfl⟩ <;> rfl
    have p0 := hp (i, j) List.mem_cons_self
    obtain ⟨a', t5, t6, e⟩ := out_loop (ns := ns) (k := k) ps (a + 1) (t + (if dif k i j then ns[a] else 0)) (.fr (.int (i : Int))) (.fr (.int (j : Int))) (fun p h => hp p (List.mem_cons_of_mem _ h)) (by omega) (.inr ⟨_, rfl⟩) (.inr ⟨_, rfl⟩)
    refine ⟨a', t5, t6, ?_⟩
    rw [List.map_cons]
    refine ((forD_nx b (oBody_ok p0.1 p0.2 hx)).trans e).trans ?_
    have dr : ns.drop a = ns[a] :: ns.drop (a + 1) := List.drop_eq_getElem_cons la
    rw [dr, List.zip_cons_cons]
    simp only [cs, List.map_cons, List.sum_cons, Int.add_assoc]
theorem out_ok (c : Cs) {n k : Nat} {ns : List Int} (h2 : 2 ≤ n) (h5 : n ≤ 5) (hl : (ipr n).length ≤ ns.length) : ∃ as, m_out c [.fr (.int (n : Int)), .fr (.tup (ns.map D.int)), .fr (uL n k)] = .ret (.v (.int (cv n ns k))) as := by
  obtain ⟨a', t5, t6, e⟩ := out_loop (n := n) (k := k) (ns := ns) (ipr n) 0 0 .un .un (fun p hp => by
    have := ipr_lt hp
    omega) (by omega) (.inl rfl) (.inl rfl)
  rw [List.drop_zero, Int.zero_add] at e
  have e0 : asgT (tupD (aCons (cst (.int 0)) (aCons (cst (.int 0)) aNil))) (tupG [nameG 3, nameG 4]) [.fr (.int (n : Int)), .fr (.tup (ns.map D.int)), .fr (uL n k), .un, .un, .un, .un] = .nx (SO n k ns 0 ((0 : Nat) : Int) .un .un) := rfl
  have il : iLst (fz (callD 1 (m_spans c) (aCons (var 0) aNil))) (SO n k ns 0 ((0 : Nat) : Int) .un .un) = .ok ((ipr n).map pD) (SO n k ns 0 ((0 : Nat) : Int) .un .un) := iLst_ok (fz_v (c1_v (var_fr rfl) (sp_ok c h2 h5)))
  have e1 := (forS_ok (bd := tupG [nameG 5, nameG 6]) (b := seqS oT oN) il).trans e
  have e2 : retS (var 3) (SO n k ns (cs k ((ipr n).zip ns)) a' t5 t6) = .rt (.v (.int (cs k ((ipr n).zip ns)))) (SO n k ns (cs k ((ipr n).zip ns)) a' t5 t6) := rfl
  have all := (seq_nx (h := seqS (forS (iLst (fz (callD 1 (m_spans c) (aCons (var 0) aNil)))) (tupG [nameG 5, nameG 6]) (seqS oT oN)) (retS (var 3))) e0).trans ((seq_nx (h := retS (var 3)) e1).trans e2)
  rw [← out_b c] at all
  exact ⟨_, run_rt (n := 3) (N := 7) (g := b_out c) all (by intro i z; cases z) rfl⟩

end Law
namespace Law
open PySem PySem.Spec PyProof.Rows L2 DL
variable [DL.Nm]
/-! ### draws, in any state whose slot 0 is the reel -/
theorem backS_own {S : DS} {d d' : D} {ds : List D} {as : List Sl} (h0 : S[0]? = some (.ow true d)) : backS S (.bw 0 :: ds.map R.v) (.ow true d' :: as) = S.set 0 (.ow true d') := by
  unfold backS
  apply List.ext_getElem?
  intro j
  rw [List.getElem?_mapIdx]
  by_cases e : j = 0
  · subst e
    have l : 0 < S.length := (List.getElem?_eq_some_iff.mp h0).1
    rw [h0, List.getElem?_set_self l]
    simp [findA]
  · have e' : ¬ (0 = j) := fun z => e z.symm
    rw [List.getElem?_set_ne e']
    have fa : findA j (.bw 0 :: ds.map R.v) (.ow true d' :: as) = none := by
      show (if j = 0 then some d' else findA j (ds.map R.v) as) = none
      rw [if_neg e]
      exact findA_v j ds as
    cases q : S[j]? with
    | none => rfl
    | some s => simp only [Option.map_some, fa]
section
variable {S : DS} {d d' x y z : D} {f : DS → Out} {m : List Sl → Fo} {as : List Sl}
theorem v0_own (h0 : S[0]? = some (.ow true d)) : var 0 S = .ok (.bw 0) S := by
  unfold var
  rw [h0]
theorem draw2 (h0 : S[0]? = some (.ow true d)) (h1 : f S = .ok (.v x) S) (hm : m [.ow true d, .fr x] = .ret (.v y) (.ow true d' :: as)) : callD 2 m (aCons (var 0) (aCons f aNil)) S = .ok (.v y) (S.set 0 (.ow true d')) := by
  have b := backS_own (ds := [x]) (d' := d') (as := as) h0
  have b : backS S [.bw 0, .v x] (.ow true d' :: as) = S.set 0 (.ow true d') := b
  simp only [callD, aCons, v0_own h0, h1, aNil, callS, bws, List.nodup_cons, List.not_mem_nil, not_false_eq_true, List.nodup_nil, and_self, if_true, toArgs, h0, List.length_cons, List.length_nil, hm, b]
theorem draw2o (h0 : S[0]? = some (.ow true d)) (h1 : f S = .ok (.v x) S) (hm : m [.ow true d, .fr x] = .ret (.ow y) (.ow true d' :: as)) : callD 2 m (aCons (var 0) (aCons f aNil)) S = .ok (.ow y) (S.set 0 (.ow true d')) := by
  have b := backS_own (ds := [x]) (d' := d') (as := as) h0
  have b : backS S [.bw 0, .v x] (.ow true d' :: as) = S.set 0 (.ow true d') := b
  simp only [callD, aCons, v0_own h0, h1, aNil, callS, bws, List.nodup_cons, List.not_mem_nil, not_false_eq_true, List.nodup_nil, and_self, if_true, toArgs, h0, List.length_cons, List.length_nil, hm, b]
theorem draw1 (h0 : S[0]? = some (.ow true d)) (hm : m [.ow true d] = .ret (.v y) (.ow true d' :: as)) : callD 1 m (aCons (var 0) aNil) S = .ok (.v y) (S.set 0 (.ow true d')) := by
  have b := backS_own (ds := []) (d' := d') (as := as) h0
  have b : backS S [.bw 0] (.ow true d' :: as) = S.set 0 (.ow true d') := b
  simp only [callD, aCons, v0_own h0, aNil, callS, bws, List.nodup_cons, List.not_mem_nil, not_false_eq_true, List.nodup_nil, and_self, if_true, toArgs, h0, List.length_cons, List.length_nil, hm, b]
end
theorem up_ok (c : Cs) {N : Nat} {S : DS} {d : D} {n : Int} {f : DS → Out} (h : RAt N d) (hN : N < 2 ^ 39) (h0 : S[0]? = some (.ow true d)) (h1 : f S = .ok (.v (.int n)) S) (hn : 0 < n) (hn2 : n < 2 ^ 120) :
    ∃ r d', fz (callD 2 (m_upto c) (aCons (var 0) (aCons f aNil))) S = .ok (.v (.int r)) (S.set 0 (.ow true d')) ∧ 0 ≤ r ∧ r < n ∧ RAt (N + 1) d' := by
  obtain ⟨r, d', e, r0, r1, h2⟩ := upto_w c h (by omega) hn hn2
  exact ⟨r, d', fz_v (draw2 h0 h1 e), r0, r1, h2⟩
theorem addv {f g : DS → Out} {S S1 S2 : DS} {i j : Int} (h1 : f S = .ok (.v (.int i)) S1) (h2 : g S1 = .ok (.v (.int j)) S2) : DL.bin addD f g S = .ok (.v (.int (i + j))) S2 := bin_v h1 h2 rfl
theorem subv {f g : DS → Out} {S S1 S2 : DS} {i j : Int} (h1 : f S = .ok (.v (.int i)) S1) (h2 : g S1 = .ok (.v (.int j)) S2) : DL.bin subD f g S = .ok (.v (.int (i - j))) S2 := bin_v h1 h2 rfl
theorem eqv_i {f g : DS → Out} {S S1 S2 : DS} {i j : Int} (h1 : f S = .ok (.v (.int i)) S1) (h2 : g S1 = .ok (.v (.int j)) S2) : DL.bin (eqD false) f g S = .ok (.v (.bl (decide (i = j)))) S2 := bin_v h1 h2 (eq_int i j)
theorem p15 (S : DS) : DL.bin powD (cst (.int 10)) (cst (.int 15)) S = .ok (.v (.int 1000000000000000)) S := rfl
theorem p30 (S : DS) : DL.bin powD (cst (.int 10)) (cst (.int 30)) S = .ok (.v (.int 1000000000000000000000000000000)) S := rfl
/-! ### great -/
def S2g (d : D) (s1 : Sl) : DS := [.ow true d, s1]
def upG (c : Cs) (f : DS → Out) : DS → Out := fz (callD 2 (m_upto c) (aCons (var 0) (aCons f aNil)))
def g4 (c : Cs) : DS → Out := DL.bin addD (fz (DL.bin mulD (upG c (DL.bin powD (cst (.int 10)) (cst (.int 15)))) (DL.bin powD (cst (.int 10)) (cst (.int 15))))) (upG c (DL.bin powD (cst (.int 10)) (cst (.int 15))))
def g5 (c : Cs) : DS → Out := DL.bin subD (DL.bin powD (cst (.int 10)) (cst (.int 30))) (upG c (cst (.int 3)))
def g6 (c : Cs) : DS → Out := iteD (DL.bin (eqD false) (var 1) (cst (.int 0))) (cst (.int 0)) (upG c (iteD (DL.bin (eqD false) (var 1) (cst (.int 3))) (cst (.int 60)) (cst (.int 6))))
theorem great_b (c : Cs) : b_great c = seqS (asgS 1 (upG c (cst (.int 6)))) (seqS (ifS (DL.bin (eqD false) (var 1) (cst (.int 4))) (retS (g4 c)) skipS) (seqS (ifS (DL.bin (eqD false) (var 1) (cst (.int 5))) (retS (g5 c)) skipS) (retS (g6 c)))) := rfl
def BrI (x : Int) : Prop := 0 ≤ x ∧ x ≤ 1000000000000000000000000000000
theorem g4_ok (c : Cs) {N : Nat} {d : D} {s1 : Sl} (h : RAt N d) (hN : N < 2 ^ 38) : ∃ r d', g4 c (S2g d s1) = .ok (.v (.int r)) (S2g d' s1) ∧ BrI r ∧ RAt (N + 2) d' := by
  obtain ⟨r1, d1, e1, a0, a1, h1⟩ := up_ok c (S := S2g d s1) h (by omega) rfl (p15 _) (by omega) (by omega)
  have e1 : upG c (DL.bin powD (cst (.int 10)) (cst (.int 15))) (S2g d s1) = .ok (.v (.int r1)) (S2g d1 s1) := e1
  obtain ⟨r2, d2, e2, b0, b1, h2⟩ := up_ok c (S := S2g d1 s1) h1 (by omega) rfl (p15 _) (by omega) (by omega)
  have e2 : upG c (DL.bin powD (cst (.int 10)) (cst (.int 15))) (S2g d1 s1) = .ok (.v (.int r2)) (S2g d2 s1) := e2
  have m : mulD (.int r1) (.int 1000000000000000) = some (.v (.int (r1 * 1000000000000000))) := by
    have : mulOk r1 1000000000000000 = true := mulOk_r (by omega) (by omega)
    simp only [mulD, this, if_true]
  exact ⟨_, d2, addv (fz_v (bin_v e1 (p15 _) m)) e2, ⟨by omega, by omega⟩, h2⟩
theorem g5_ok (c : Cs) {N : Nat} {d : D} {s1 : Sl} (h : RAt N d) (hN : N < 2 ^ 38) : ∃ r d', g5 c (S2g d s1) = .ok (.v (.int r)) (S2g d' s1) ∧ BrI r ∧ RAt (N + 2) d' := by
  obtain ⟨r1, d1, e1, a0, a1, h1⟩ := up_ok c (S := S2g d s1) (f := cst (.int 3)) h (by omega) rfl rfl (by omega) (by omega)
  exact ⟨_, d1, subv (p30 _) e1, ⟨by omega, by omega⟩, h1.mono (by omega)⟩
theorem g6_ok (c : Cs) {N : Nat} {d : D} {i : Int} (h : RAt N d) (hN : N < 2 ^ 38) : ∃ r d', g6 c (S2g d (.fr (.int i))) = .ok (.v (.int r)) (S2g d' (.fr (.int i))) ∧ BrI r ∧ RAt (N + 2) d' := by
  have v1 : var 1 (S2g d (.fr (.int i))) = .ok (.v (.int i)) (S2g d (.fr (.int i))) := var_fr rfl
  by_cases z : i = 0
  · have t := eqv_i (g := cst (.int 0)) v1 rfl
    rw [decide_eq_true z] at t
    exact ⟨0, d, (ite_t t).trans rfl, ⟨by omega, by omega⟩, h.mono (by omega)⟩
  · have t := eqv_i (g := cst (.int 0)) v1 rfl
    rw [decide_eq_false z] at t
    have key : ∃ q, iteD (DL.bin (eqD false) (var 1) (cst (.int 3))) (cst (.int 60)) (cst (.int 6)) (S2g d (.fr (.int i))) = .ok (.v (.int q)) (S2g d (.fr (.int i))) ∧ 0 < q ∧ q < 100 := by
      have t3 := eqv_i (g := cst (.int 3)) v1 rfl
      by_cases z3 : i = 3
      · rw [decide_eq_true z3] at t3
        exact ⟨60, (ite_t t3).trans rfl, by omega, by omega⟩
      · rw [decide_eq_false z3] at t3
        exact ⟨6, (ite_f t3).trans rfl, by omega, by omega⟩
    obtain ⟨q, eq, q0, q1⟩ := key
    obtain ⟨r1, d1, e1, a0, a1, h1⟩ := up_ok c (S := S2g d (.fr (.int i))) h (by omega) rfl eq q0 (by omega)
    exact ⟨r1, d1, (ite_f t).trans e1, ⟨by omega, by omega⟩, h1.mono (by omega)⟩
theorem great_ok (c : Cs) {N : Nat} {d : D} (h : RAt N d) (hN : N < 2 ^ 37) : ∃ r d', m_great c [.ow true d] = .ret (.v (.int r)) [.ow true d'] ∧ BrI r ∧ RAt (N + 3) d' := by
  obtain ⟨i, d1, e1, i0, i1, h1⟩ := up_ok c (S := S2g d .un) (f := cst (.int 6)) h (by omega) rfl rfl (by omega) (by omega)
  have a1 : asgS 1 (upG c (cst (.int 6))) (S2g d .un) = .nx (S2g d1 (.fr (.int i))) := asg_v e1 rfl
  have v1 : var 1 (S2g d1 (.fr (.int i))) = .ok (.v (.int i)) (S2g d1 (.fr (.int i))) := var_fr rfl
  have t4 := eqv_i (g := cst (.int 4)) v1 rfl
  have t5 := eqv_i (g := cst (.int 5)) v1 rfl
  have fin : ∀ {r : Int} {d' : D}, b_great c (S2g d .un) = .rt (.v (.int r)) (S2g d' (.fr (.int i))) → m_great c [.ow true d] = .ret (.v (.int r)) [.ow true d'] := fun e => run_rt (n := 1) (N := 2) (g := b_great c) e (by intro i z; cases z) rfl
  by_cases z4 : i = 4
  · rw [decide_eq_true z4] at t4
    obtain ⟨r, d2, e2, br, h2⟩ := g4_ok c (s1 := .fr (.int i)) h1 (by omega)
    refine ⟨r, d2, fin ?_, br, h2⟩
    rw [great_b]
    exact (seq_nx a1).trans (if_ret t4 e2)
  · rw [decide_eq_false z4] at t4
    by_cases z5 : i = 5
    · rw [decide_eq_true z5] at t5
      obtain ⟨r, d2, e2, br, h2⟩ := g5_ok c (s1 := .fr (.int i)) h1 (by omega)
      refine ⟨r, d2, fin ?_, br, h2⟩
      rw [great_b]
      exact (seq_nx a1).trans ((if_skip' t4).trans (if_ret t5 e2))
    · rw [decide_eq_false z5] at t5
      obtain ⟨r, d2, e2, br, h2⟩ := g6_ok c (i := i) h1 (by omega)
      refine ⟨r, d2, fin ?_, br, h2⟩
      rw [great_b]
      exact (seq_nx a1).trans ((if_skip' t4).trans ((if_skip' t5).trans (retS_ok e2)))
/-! ### numbers -/
def S8n (d : D) (n form base : Int) (ns : List Int) (s5 s6 s7 : Sl) : DS := [.ow true d, .fr (.int n), .fr (.int form), .fr (.int base), .ow false (.lst (ns.map D.int)), s5, s6, s7]
def nA (c : Cs) : DS → Fl := asgS 6 (upG c (cst (.int 5)))
def nB (c : Cs) : DS → Fl := asgS 7 (liftL min2 (aCons (DL.bin powD (cst (.int 10)) (cst (.int 30))) (aCons (fz (DL.bin addD (var 3) (upG c (cst (.int 3))))) aNil)))
def nP (c : Cs) : DS → Out := fz (callD 2 (m_pick c) (aCons (var 0) (aCons (fz (lstD (aCons (cst (.int 0)) (aCons (cst (.int 0)) (aCons (var 6) aNil))))) aNil)))
def nG (c : Cs) : DS → Out := fz (callD 1 (m_great c) (aCons (var 0) aNil))
def nL (c : Cs) : DS → Out := lstD (aCons (var 6) (aCons (nP c) (aCons (var 7) (aCons (nG c) aNil))))
def nC (c : Cs) : DS → Fl := guardS (isLst · 4) (appS 4 (aCons (DL.bin ixD (fz (nL c)) (var 2)) aNil))
def nBody (c : Cs) : DS → Fl := seqS (nA c) (seqS (nB c) (nC c))
def nR : DS → IOut := iR1 (aCons (DL.bin fdivD (fz (DL.bin mulD (var 1) (DL.bin subD (var 1) (cst (.int 1))))) (cst (.int 2))) aNil)
theorem numbers_b (c : Cs) : b_numbers c = seqS (parO3 2 3 4 (upG c (cst (.int 4))) (nG c) (lstD aNil)) (seqS (forS nR (nameG 5) (nBody c)) (seqS (frzS 4) (retS (liftL tupC (aCons (var 4) aNil))))) := rfl
theorem lst3 {S : DS} {f g h : DS → Out} {a b e : D} (h1 : f S = .ok (.v a) S) (h2 : g S = .ok (.v b) S) (h3 : h S = .ok (.v e) S) : lstD (aCons f (aCons g (aCons h aNil))) S = .ok (.ow (.lst [a, b, e])) S := by
  have z2 : ([a, b, e] : List D).length ≤ sizeLine := by
    show 3 ≤ sizeLine
    decide
  simp only [lstD, aCons, h1, h2, h3, aNil, vals, if_pos z2]
theorem lst4s {S S1 S2 S3 S4 : DS} {f g h k : DS → Out} {a b e u : D} (h1 : f S = .ok (.v a) S1) (h2 : g S1 = .ok (.v b) S2) (h3 : h S2 = .ok (.v e) S3) (h4 : k S3 = .ok (.v u) S4) : lstD (aCons f (aCons g (aCons h (aCons k aNil)))) S = .ok (.ow (.lst [a, b, e, u])) S4 := by
  have z2 : ([a, b, e, u] : List D).length ≤ sizeLine := by
    show 4 ≤ sizeLine
    decide
  simp only [lstD, aCons, h1, h2, h3, h4, aNil, vals, if_pos z2]
theorem app_s {S S' : DS} {f : DS → Out} {a : D} {i : Nat} {p q : Bool} {ds es : List D} (g0 : S[i]? = some (.ow p (.lst ds))) (hi : S'[i]? = some (.ow q (.lst es))) (h : f S = .ok (.v a) S') (hl : es.length < sizeLine) : guardS (isLst · i) (appS i (aCons f aNil)) S = .nx (S'.set i (.ow q (.lst (es ++ [a])))) := by
  have g : isLst S i = true := by
    unfold isLst
    rw [g0]
  unfold guardS
  rw [if_pos g]
  simp only [appS, aCons, h, aNil, hi, if_pos hl]
theorem nBody_ok (c : Cs) {N : Nat} {d : D} {n form base : Int} {ns : List Int} {s5 s6 s7 : Sl} (h : RAt N d) (hN : N < 2 ^ 36) (f0 : 0 ≤ form) (f4 : form < 4) (hb : BrI base) (hns : Br ns) (hl : ns.length < 100) (h6 : okSl s6) (h7 : okSl s7) :
    ∃ d' ns' t6 t7, nBody c (S8n d n form base ns s5 s6 s7) = .nx (S8n d' n form base ns' s5 t6 t7) ∧ Br ns' ∧ ns'.length = ns.length + 1 ∧ okSl t6 ∧ okSl t7 ∧ RAt (N + 10) d' := by
  obtain ⟨few, d1, e1, a0, a1, h1⟩ := up_ok c (S := S8n d n form base ns s5 s6 s7) (f := cst (.int 5)) h (by omega) rfl rfl (by omega) (by omega)
  have x1 : nA c (S8n d n form base ns s5 s6 s7) = .nx (S8n d1 n form base ns s5 (.fr (.int few)) s7) := by
    rcases h6 with rfl | ⟨_, rfl⟩
    · exact asg_v e1 rfl
    · exact asg_v e1 rfl
  obtain ⟨r, d2, e2, b0, b1, h2⟩ := up_ok c (S := S8n d1 n form base ns s5 (.fr (.int few)) s7) (f := cst (.int 3)) h1 (by omega) rfl rfl (by omega) (by omega)
  have e2 : upG c (cst (.int 3)) (S8n d1 n form base ns s5 (.fr (.int few)) s7) = .ok (.v (.int r)) (S8n d2 n form base ns s5 (.fr (.int few)) s7) := e2
  have ad : fz (DL.bin addD (var 3) (upG c (cst (.int 3)))) (S8n d1 n form base ns s5 (.fr (.int few)) s7) = .ok (.v (.int (base + r))) (S8n d2 n form base ns s5 (.fr (.int few)) s7) := fz_v (addv (var_fr rfl) e2)
  obtain ⟨nr, mn, nr0⟩ : ∃ nr : Int, min2 [.int 1000000000000000000000000000000, .int (base + r)] = some (.v (.int nr)) ∧ BrI nr := by
    refine ⟨_, rfl, ?_⟩
    obtain ⟨q0, q1⟩ := hb
    split
    · exact ⟨by omega, by omega⟩
    · exact ⟨by omega, by omega⟩
  have mm : liftL min2 (aCons (DL.bin powD (cst (.int 10)) (cst (.int 30))) (aCons (fz (DL.bin addD (var 3) (upG c (cst (.int 3))))) aNil)) (S8n d1 n form base ns s5 (.fr (.int few)) s7) = .ok (.v (.int nr)) (S8n d2 n form base ns s5 (.fr (.int few)) s7) := by
    simp only [liftL, aCons, p30, ad, aNil, gets, R.get, mn]
  have x2 : nB c (S8n d1 n form base ns s5 (.fr (.int few)) s7) = .nx (S8n d2 n form base ns s5 (.fr (.int few)) (.fr (.int nr))) := by
    rcases h7 with rfl | ⟨_, rfl⟩
    · exact asg_v mm rfl
    · exact asg_v mm rfl
  have l3 : fz (lstD (aCons (cst (.int 0)) (aCons (cst (.int 0)) (aCons (var 6) aNil)))) (S8n d2 n form base ns s5 (.fr (.int few)) (.fr (.int nr))) = .ok (.v (.lst [.int 0, .int 0, .int few])) (S8n d2 n form base ns s5 (.fr (.int few)) (.fr (.int nr))) := fz_ok (lst3 (f := cst (.int 0)) (g := cst (.int 0)) rfl rfl (var_fr rfl))
  obtain ⟨x, d3, e3, hx, h3⟩ := pick_l c (ds := [.int 0, .int 0, .int few]) h2 (by omega) (by simp) (by simp)
  have e3 : nP c (S8n d2 n form base ns s5 (.fr (.int few)) (.fr (.int nr))) = .ok (.v x) (S8n d3 n form base ns s5 (.fr (.int few)) (.fr (.int nr))) := fz_v (draw2 (S := S8n d2 n form base ns s5 (.fr (.int few)) (.fr (.int nr))) rfl l3 e3)
  obtain ⟨xi, rfl, xb⟩ : ∃ xi : Int, x = .int xi ∧ BrI xi := by
    simp only [List.mem_cons, List.not_mem_nil, or_false] at hx
    rcases hx with rfl | rfl | rfl
    · exact ⟨0, rfl, by constructor <;> omega⟩
    · exact ⟨0, rfl, by constructor <;> omega⟩
    · exact ⟨few, rfl, by constructor <;> omega⟩
  obtain ⟨gr, d4, e4, gb, h4⟩ := great_ok c h3 (by omega)
  have e4 : nG c (S8n d3 n form base ns s5 (.fr (.int few)) (.fr (.int nr))) = .ok (.v (.int gr)) (S8n d4 n form base ns s5 (.fr (.int few)) (.fr (.int nr))) := fz_v (draw1 (S := S8n d3 n form base ns s5 (.fr (.int few)) (.fr (.int nr))) rfl e4)
  have ll : fz (nL c) (S8n d2 n form base ns s5 (.fr (.int few)) (.fr (.int nr))) = .ok (.v (.lst ([few, xi, nr, gr].map D.int))) (S8n d4 n form base ns s5 (.fr (.int few)) (.fr (.int nr))) := fz_ok (lst4s (var_fr rfl) e3 (var_fr rfl) e4)
  obtain ⟨y, ey, hy⟩ := atI_in (xs := [few, xi, nr, gr].map D.int) f0 (by simpa using f4)
  obtain ⟨v, hv, rfl⟩ := List.mem_map.mp hy
  have vb : BrI v := by
    simp only [List.mem_cons, List.not_mem_nil, or_false] at hv
    rcases hv with rfl | rfl | rfl | rfl
    · constructor <;> omega
    · exact xb
    · exact nr0
    · exact gb
  have ix : DL.bin ixD (fz (nL c)) (var 2) (S8n d2 n form base ns s5 (.fr (.int few)) (.fr (.int nr))) = .ok (.v (.int v)) (S8n d4 n form base ns s5 (.fr (.int few)) (.fr (.int nr))) := bin_v ll (var_fr rfl) (by simp only [ixD, ey])
  have x3 := app_s (S := S8n d2 n form base ns s5 (.fr (.int few)) (.fr (.int nr))) (S' := S8n d4 n form base ns s5 (.fr (.int few)) (.fr (.int nr))) (i := 4) (p := false) (q := false) (ds := ns.map D.int) (es := ns.map D.int) rfl rfl ix (by
    rw [List.length_map, sizeLine_eq]
    omega)
  have st : (S8n d4 n form base ns s5 (.fr (.int few)) (.fr (.int nr))).set 4 (.ow false (.lst (ns.map D.int ++ [.int v]))) = S8n d4 n form base (ns ++ [v]) s5 (.fr (.int few)) (.fr (.int nr)) := by
    simp [S8n]
  rw [st] at x3
  refine ⟨d4, ns ++ [v], _, _, (seq_nx x1).trans ((seq_nx x2).trans x3), fun z hz => ?_, by simp, .inr ⟨_, rfl⟩, .inr ⟨_, rfl⟩, h4.mono (by omega)⟩
  rcases List.mem_append.mp hz with hz | hz
  · exact hns z hz
  · rw [List.mem_singleton.mp hz]
    exact vb
theorem nLoop (c : Cs) {n form base : Int} (f0 : 0 ≤ form) (f4 : form < 4) (hb : BrI base) : ∀ (ds : List D) (N : Nat) (d : D) (ns : List Int) (s5 s6 s7 : Sl), RAt N d → N + 10 * ds.length < 2 ^ 35 → Br ns → ns.length + ds.length < 100 → okSl s5 → okSl s6 → okSl s7 →
    ∃ d' ns' t5 t6 t7, forD (nameG 5) (nBody c) ds (S8n d n form base ns s5 s6 s7) = .nx (S8n d' n form base ns' t5 t6 t7) ∧ Br ns' ∧ ns'.length = ns.length + ds.length ∧ RAt (N + 10 * ds.length) d'
  | [], N, d, ns, s5, s6, s7, h, _, hns, _, _, _, _ => ⟨d, ns, s5, s6, s7, by rw [forD], hns, by simp, h.mono (by omega)⟩
  | x :: ds, N, d, ns, s5, s6, s7, h, hN, hns, hl, h5, h6, h7 => by
    rw [List.length_cons] at hN hl
    have b : nameG 5 x (S8n d n form base ns s5 s6 s7) = .nx (S8n d n form base ns (.fr x) s6 s7) := by
      rcases h5 with rfl | ⟨_, rfl⟩ <;> rfl
    obtain ⟨d1, ns1, t6, t7, e1, br, l1, k6, k7, h1⟩ := nBody_ok c (n := n) (s5 := .fr x) h (by omega) f0 f4 hb hns (by omega) h6 h7
    obtain ⟨d2, ns2, u5, u6, u7, e2, br2, l2, h2⟩ := nLoop c f0 f4 hb ds (N + 10) d1 ns1 (.fr x) t6 t7 h1 (by omega) br (by omega) (.inr ⟨_, rfl⟩) k6 k7
    exact ⟨d2, ns2, u5, u6, u7, (forD_nx b e1).trans e2, br2, by rw [List.length_cons]; omega, h2.mono (by rw [List.length_cons]; omega)⟩
theorem nR_ok {d : D} {n : Nat} {form base : Int} {ns : List Int} (h2 : 2 ≤ n) (h5 : n ≤ 5) : nR (S8n d (n : Int) form base ns .un .un .un) = .ok (rng 0 (ipr n).length) (S8n d (n : Int) form base ns .un .un .un) := by
  rcases n_cs h2 h5 with rfl | rfl | rfl | rfl <;> kernel_rfl
theorem numbers_ok (c : Cs) {N n : Nat} {d : D} (h : RAt N d) (hN : N < 2 ^ 34) (h2 : 2 ≤ n) (h5 : n ≤ 5) : ∃ ns d' as, m_numbers c [.ow true d, .fr (.int (n : Int))] = .ret (.v (.tup (ns.map D.int))) (.ow true d' :: as) ∧ Br ns ∧ ns.length = (ipr n).length ∧ RAt (N + 200) d' := by
  obtain ⟨form, d1, e1, f0, f4, h1⟩ := up_ok c (S := [.ow true d, .fr (.int (n : Int)), .un, .un, .un, .un, .un, .un]) (f := cst (.int 4)) h (by omega) rfl rfl (by omega) (by omega)
  obtain ⟨base, d2, e2, hb, h2'⟩ := great_ok c h1 (by omega)
  have e2 : nG c [.ow true d1, .fr (.int (n : Int)), .un, .un, .un, .un, .un, .un] = .ok (.v (.int base)) [.ow true d2, .fr (.int (n : Int)), .un, .un, .un, .un, .un, .un] := fz_v (draw1 (S := [.ow true d1, .fr (.int (n : Int)), .un, .un, .un, .un, .un, .un]) rfl e2)
  have e1 : upG c (cst (.int 4)) [.ow true d, .fr (.int (n : Int)), .un, .un, .un, .un, .un, .un] = .ok (.v (.int form)) [.ow true d1, .fr (.int (n : Int)), .un, .un, .un, .un, .un, .un] := e1
  have p0 : parO3 2 3 4 (upG c (cst (.int 4))) (nG c) (lstD aNil) [.ow true d, .fr (.int (n : Int)), .un, .un, .un, .un, .un, .un] = .nx (S8n d2 (n : Int) form base [] .un .un .un) := by
    have e3 : lstD aNil [.ow true d2, .fr (.int (n : Int)), .un, .un, .un, .un, .un, .un] = .ok (.ow (.lst [])) [.ow true d2, .fr (.int (n : Int)), .un, .un, .un, .un, .un, .un] := rfl
    unfold parO3
    rw [e1]
    dsimp only
    rw [e2]
    dsimp only
    rw [e3]
    rfl
  have lq : (ipr n).length ≤ 10 := by
    rcases n_cs h2 h5 with rfl | rfl | rfl | rfl <;> decide
  obtain ⟨d3, ns, t5, t6, t7, e3, br, l3, h3⟩ := nLoop c (n := (n : Int)) f0 f4 hb (rng 0 (ipr n).length) (N + 4) d2 [] .un .un .un (h2'.mono (by omega)) (by rw [rng_len]; omega) (fun x hx => by cases hx) (by rw [rng_len]; simp; omega) (.inl rfl) (.inl rfl) (.inl rfl)
  rw [rng_len] at l3 h3
  have e3 := (forS_ok (bd := nameG 5) (b := nBody c) (nR_ok (d := d2) (form := form) (base := base) (ns := []) h2 h5)).trans e3
  have e4 : frzS 4 (S8n d3 (n : Int) form base ns t5 t6 t7) = .nx [.ow true d3, .fr (.int (n : Int)), .fr (.int form), .fr (.int base), .fr (.lst (ns.map D.int)), t5, t6, t7] := rfl
  have e5 : retS (liftL tupC (aCons (var 4) aNil)) [.ow true d3, .fr (.int (n : Int)), .fr (.int form), .fr (.int base), .fr (.lst (ns.map D.int)), t5, t6, t7] = .rt (.v (.tup (ns.map D.int))) [.ow true d3, .fr (.int (n : Int)), .fr (.int form), .fr (.int base), .fr (.lst (ns.map D.int)), t5, t6, t7] := retS_ok (lift1 (var_fr rfl) rfl)
  have all := (seq_nx (h := seqS (forS nR (nameG 5) (nBody c)) (seqS (frzS 4) (retS (liftL tupC (aCons (var 4) aNil))))) p0).trans ((seq_nx (h := seqS (frzS 4) (retS (liftL tupC (aCons (var 4) aNil)))) e3).trans ((seq_nx (h := retS (liftL tupC (aCons (var 4) aNil))) e4).trans e5))
  rw [← numbers_b c] at all
  exact ⟨ns, d3, _, run_rt (n := 2) (N := 8) (g := b_numbers c) all (by intro i z; cases z) rfl, br, by rw [l3]; simp, h3.mono (by omega)⟩

end Law
namespace Law
open PySem PySem.Spec PyProof.Rows L2 DL
variable [DL.Nm]
local macro_rules | `(tactic| keq_hits) => `(tactic| first | with_reducible assumption | rfl | (simp only [if_pos, if_neg, reduceIte, *]; done))
local macro_rules | `(tactic| ktr_rel) => `(tactic| with_reducible assumption)
local macro_rules | `(tactic| keq_rows) => `(tactic| first
  | with_reducible assumption
  | with_reducible exact x_cst
  | with_reducible exact x_anil
  | ((with_reducible apply x_acons); keq_rows; keq_rows)
  | ((with_reducible apply x_var); rfl)
  | ((with_reducible apply x_bw); rfl)
  | ((with_reducible apply x_fz); keq_rows; rfl)
  | ((with_reducible apply x_wk); keq_rows; rfl)
  | ((with_reducible apply x_bin); keq_rows; keq_rows; rfl; rfl; keq_hits)
  | ((with_reducible apply x_lift); keq_rows; rfl; keq_hits)
  | ((with_reducible apply x_call); keq_rows; simp only [bws]; decide; rfl; rfl; ktr_rel; rfl; first | exact backS_nb rfl | exact backS_0 rfl | rfl)
  | ((with_reducible apply x_callK); keq_rows; rfl; (first | exact List.nodup_nil | decide); rfl; rfl; ktr_rel; rfl; first | exact backS_nb rfl | exact backS_0 rfl | rfl)
  | ((with_reducible apply x_prop); keq_rows; ktr_rel; rfl)
  | ((with_reducible apply x_ownB); keq_rows; ktr_rel; keq_hits)
  | ((with_reducible apply x_inI); keq_rows; keq_rows; ktr_rel)
  | ((with_reducible apply x_eqI); keq_rows; keq_rows; ktr_rel)
  | ((with_reducible apply x_not); keq_rows)
  | ((with_reducible apply x_lst); keq_rows; rfl; (first | decide | assumption | omega))
  | ((with_reducible apply x_tup); keq_rows; rfl; (first | decide | assumption | omega))
  | ((with_reducible apply x_intO); keq_rows)
  | ((with_reducible apply x_slice); keq_rows; keq_rows; rfl; keq_rows; rfl; rfl; keq_hits)
  | ((with_reducible apply x_bm); keq_rows; rfl; (first | rfl | simp [tyD]); keq_rows; rfl; rfl; keq_hits)
  | ((with_reducible apply_assumption) <;> first | rfl | with_reducible assumption))
/-! ### a lot's indexes; in order -/
theorem rng_nat (n : Nat) : rng 0 n = (List.range n).map fun i : Nat => D.int (i : Int) := by
  unfold rng
  simp
theorem idx_ok (c : Cs) {n k : Nat} (h5 : n ≤ 5) (hk : k < 32) : m_indexes_in c [.fr (.int (n : Int)), .fr (.int (k : Int))] = .ret (.v (rowD (lotL n k))) [.fr (.int (n : Int)), .fr (.int (k : Int))] := by
  have sm : smallI (n : Int) = true := by
    unfold smallI
    simp
    omega
  have eR : iR1 (aCons (var 0) aNil) [.fr (.int (n : Int)), .fr (.int (k : Int)), .un] = .ok ((List.range n).map fun i : Nat => D.int (i : Int)) [.fr (.int (n : Int)), .fr (.int (k : Int)), .un] := by
    rw [x_iR1 (k := (n : Int)) (x_var rfl) sm, ← rng_nat]
    rfl
  have key := comp_ix (α := Nat) (i := 2) (s := .un) (fi := iR1 (aCons (var 0) aNil)) (c := fz (callD 2 (m_has c) (aCons (var 1) (aCons (var 2) aNil)))) (f := var 2) (S := [.fr (.int (n : Int)), .fr (.int (k : Int)), .un]) (L := List.range n) (fun i => D.int (i : Int)) (fun i => Nat.testBit k i) (fun i => D.int (i : Int)) eR rfl (.inl rfl)
    (fun i hi => by
      have hi := List.mem_range.mp hi
      exact fz_v (c2_v (S := [.fr (.int (n : Int)), .fr (.int (k : Int)), .fr (.int (i : Int))]) (var_fr rfl) (var_fr rfl) (has_ok c hk (by omega))))
    (fun i _ _ => var_fr (S := [.fr (.int (n : Int)), .fr (.int (k : Int)), .fr (.int (i : Int))]) rfl) (by
      rw [List.length_range, sizeLine_eq]
      omega)
  have em : ((List.range n).filter fun i => Nat.testBit k i).map (fun i : Nat => D.int (i : Int)) = (lotL n k).map D.int := by
    unfold lotL bitsL
    rw [List.map_map]
    rfl
  rw [em] at key
  exact x_run (n := 2) (N := 3) (s := b_indexes_in c) (x_ret (x_lift (oL := tupC) (x_acons (x_fz key rfl) x_anil) rfl rfl)) rfl rfl
theorem iLs_ints : ∀ r : List Int, iLs (r.map D.int) = some r
  | [] => rfl
  | i :: r => by
    have ih := iLs_ints r
    simp only [List.map_cons, iLs, ih]
theorem rowsI_map : ∀ rs : List (List Int), rowsI (rs.map rowD) = some rs
  | [] => rfl
  | r :: rs => by
    have ih := rowsI_map rs
    have h : rowI (rowD r) = some r := iLs_ints r
    simp only [List.map_cons, rowsI, h, ih]
theorem order_ok (c : Cs) {rs : List (List Int)} (h : rs.length ≤ 1000) : m_in_order c [.fr (.lst (rs.map rowD))] = .ret (.ow (.lst ((rs.mergeSort lnLe).map rowD))) [.fr (.lst (rs.map rowD))] := by
  have e : sortLN (var 0) [.fr (.lst (rs.map rowD))] = .ok (.ow (.lst ((rs.mergeSort lnLe).map rowD))) [.fr (.lst (rs.map rowD))] := by
    have v : var 0 [.fr (.lst (rs.map rowD))] = .ok (.v (.lst (rs.map rowD))) [.fr (.lst (rs.map rowD))] := x_var rfl
    unfold sortLN
    rw [v]
    dsimp only
    rw [rowsI_map]
    dsimp only
    rw [if_pos h]
  exact x_run (n := 1) (N := 1) (s := b_in_order c) (x_ret e) rfl rfl
theorem lot_lt {n k : Nat} {i : Int} (h : i ∈ lotL n k) : ∃ j : Nat, i = (j : Int) ∧ j < n := by
  obtain ⟨j, hj, rfl⟩ := List.mem_map.mp h
  exact ⟨j, rfl, List.mem_range.mp (List.mem_filter.mp hj).1⟩
/-- the names that a row of places tells -/
def nmR (xs : List Str) (r : List Int) : List Str := r.map fun i => xs.getD i.toNat ""
def nmD (xs : List Str) (r : List Int) : D := .tup ((nmR xs r).map D.str)
theorem getD_lt {xs : List Str} {j : Nat} (h : j < xs.length) : xs[j]? = some (xs.getD ((j : Int)).toNat "") := by
  have e : ((j : Int)).toNat = j := by omega
  rw [e]
  simp [List.getD, List.getElem?_eq_getElem h]
theorem ix_strT {xs : List Str} {j : Nat} (h : j < xs.length) : ixD (.tup (xs.map D.str)) (.int (j : Int)) = some (.v (.str (xs.getD ((j : Int)).toNat ""))) := by
  have h0 : (0 : Int) ≤ (j : Int) := by omega
  have tk : ((j : Int)).toNat = j := by omega
  have ix : ixN (xs.map D.str).length (j : Int) = some j := by
    rw [List.length_map]
    unfold ixN
    rw [if_pos h0, if_pos (by omega), tk]
  have g : (xs.map D.str)[j]? = some (.str (xs.getD ((j : Int)).toNat "")) := by
    rw [List.getElem?_map, getD_lt h]
    rfl
  simp only [ixD, atI, ix, Option.bind_some, g]
theorem ix_strL {xs : List Str} {j : Nat} (h : j < xs.length) : ixD (.lst (xs.map D.str)) (.int (j : Int)) = some (.v (.str (xs.getD ((j : Int)).toNat ""))) := by
  have h0 : (0 : Int) ≤ (j : Int) := by omega
  have tk : ((j : Int)).toNat = j := by omega
  have ix : ixN (xs.map D.str).length (j : Int) = some j := by
    rw [List.length_map]
    unfold ixN
    rw [if_pos h0, if_pos (by omega), tk]
  have g : (xs.map D.str)[j]? = some (.str (xs.getD ((j : Int)).toNat "")) := by
    rw [List.getElem?_map, getD_lt h]
    rfl
  simp only [ixD, atI, ix, Option.bind_some, g]
theorem ipr_le {n : Nat} (h2 : 2 ≤ n) (h5 : n ≤ 5) : (ipr n).length ≤ 10 ∧ 1 ≤ (ipr n).length := by
  rcases n_cs h2 h5 with rfl | rfl | rfl | rfl <;> decide +kernel
theorem ipr_len_prs {xs : List Str} (h2 : 2 ≤ xs.length) (h5 : xs.length ≤ 5) : (prs xs).length = (ipr xs.length).length := by
  have e := prs_length xs
  rcases n_cs h2 h5 with z | z | z | z <;> rw [z] at e ⊢
  · have : (ipr 2).length = 1 := by decide +kernel
    omega
  · have : (ipr 3).length = 3 := by decide +kernel
    omega
  · have : (ipr 4).length = 6 := by decide +kernel
    omega
  · have : (ipr 5).length = 10 := by decide +kernel
    omega

end Law
namespace Law
open PySem PySem.Spec PyProof.Rows L2 DL
variable [DL.Nm]
local macro_rules | `(tactic| keq_hits) => `(tactic| first | with_reducible assumption | rfl | (simp only [if_pos, if_neg, reduceIte, *]; done))
local macro_rules | `(tactic| ktr_rel) => `(tactic| with_reducible assumption)
local macro_rules | `(tactic| keq_rows) => `(tactic| first
  | with_reducible assumption
  | with_reducible exact x_cst
  | with_reducible exact x_anil
  | ((with_reducible apply x_acons); keq_rows; keq_rows)
  | ((with_reducible apply x_var); rfl)
  | ((with_reducible apply x_bw); rfl)
  | ((with_reducible apply x_fz); keq_rows; rfl)
  | ((with_reducible apply x_wk); keq_rows; rfl)
  | ((with_reducible apply x_bin); keq_rows; keq_rows; rfl; rfl; keq_hits)
  | ((with_reducible apply x_lift); keq_rows; rfl; keq_hits)
  | ((with_reducible apply x_call); keq_rows; simp only [bws]; decide; rfl; rfl; ktr_rel; rfl; first | exact backS_nb rfl | exact backS_0 rfl | rfl)
  | ((with_reducible apply x_callK); keq_rows; rfl; (first | exact List.nodup_nil | decide); rfl; rfl; ktr_rel; rfl; first | exact backS_nb rfl | exact backS_0 rfl | rfl)
  | ((with_reducible apply x_prop); keq_rows; ktr_rel; rfl)
  | ((with_reducible apply x_ownB); keq_rows; ktr_rel; keq_hits)
  | ((with_reducible apply x_inI); keq_rows; keq_rows; ktr_rel)
  | ((with_reducible apply x_eqI); keq_rows; keq_rows; ktr_rel)
  | ((with_reducible apply x_not); keq_rows)
  | ((with_reducible apply x_lst); keq_rows; rfl; (first | decide | assumption | omega))
  | ((with_reducible apply x_tup); keq_rows; rfl; (first | decide | assumption | omega))
  | ((with_reducible apply x_intO); keq_rows)
  | ((with_reducible apply x_slice); keq_rows; keq_rows; rfl; keq_rows; rfl; rfl; keq_hits)
  | ((with_reducible apply x_bm); keq_rows; rfl; (first | rfl | simp [tyD]); keq_rows; rfl; rfl; keq_hits)
  | ((with_reducible apply_assumption) <;> first | rfl | with_reducible assumption))
/-! ### the least cuts -/
def lcS (n : Nat) (ns : List Int) : Int := minOf ((lotN n).map (gv n ns))
def lcP (n : Nat) (ns : List Int) (k : Nat) : Bool := Nat.testBit k 0 && decide (gv n ns k = lcS n ns)
def lcR (n : Nat) (ns : List Int) : List (List Int) := (((lotN n).filter (lcP n ns)).map (lotL n)).mergeSort lnLe
def Sc (c : Cs) (xs : List Str) (ns : List Int) (s2 s3 s4 s5 s6 s7 s8 : Sl) : DS := [.fr (.ins c.Sea (seaF xs)), .fr (.tup (ns.map D.int)), s2, s3, s4, s5, s6, s7, s8]
noncomputable def lcL (c : Cs) : DS → IOut := iLst (fz (callD 1 (m_lots_of c) (aCons (var 2) aNil)))
noncomputable def lcN (c : Cs) : DS → Out := compD true [8] [8] (iTpl (var 7)) (cst (.bl true)) (DL.bin ixD (wk (fz (propD c.Sea (m_Sea_islands c) (var 0)))) (var 8))
noncomputable def lcA (c : Cs) : DS → Fl := asgS 4 (liftL minC (aCons (fz (compD true [6] [6] (lcL c) (cst (.bl true)) (DL.bin ixD (var 3) (var 6)))) aNil))
noncomputable def lcB (c : Cs) : DS → Fl := asgS 5 (fz (compD true [6] [6] (lcL c) (andD (fz (callD 2 (m_has c) (aCons (var 6) (aCons (cst (.int 0)) aNil)))) (DL.bin (eqD false) (DL.bin ixD (var 3) (var 6)) (var 4))) (fz (callD 2 (m_indexes_in c) (aCons (var 2) (aCons (var 6) aNil))))))
noncomputable def lcC (c : Cs) : DS → Out := liftL tupC (aCons (fz (compD true [7] [7] (iLst (fz (callD 1 (m_in_order c) (aCons (var 5) aNil)))) (cst (.bl true)) (liftL tupC (aCons (fz (lcN c)) aNil)))) aNil)
theorem least_b (c : Cs) : b_least_cuts c = seqS (expS (fz (callD 1 (m_check_sea c) (aCons (var 0) aNil)))) (seqS (expS (fz (callD 2 (m_check_bridges c) (aCons (var 0) (aCons (var 1) aNil))))) (seqS (asgS 2 (ownB c.Sea (m_Sea_len c) isLen (var 0))) (seqS (asgS 3 (fz (callD 2 (m_leading_out c) (aCons (var 2) (aCons (var 1) aNil))))) (seqS (lcA c) (seqS (lcB c) (retS (lcC c))))))) := rfl
theorem least_ok (c : Cs) {xs : List Str} {ns : List Int} (h2 : 2 ≤ xs.length) (h5 : xs.length ≤ 5) (hb : Br ns) (hl : lenOk xs ns) :
    m_least_cuts c [.fr (.ins c.Sea (seaF xs)), .fr (.tup (ns.map D.int))] = .ret (.v (.tup ((lcR xs.length ns).map (nmD xs)))) [.fr (.ins c.Sea (seaF xs)), .fr (.tup (ns.map D.int))] := by
  have a1 : expS (fz (callD 1 (m_check_sea c) (aCons (var 0) aNil))) (Sc c xs ns .un .un .un .un .un .un .un) = .nx (Sc c xs ns .un .un .un .un .un .un .un) := exp_v (fz_v (c1_v (var_fr rfl) (chk_sea c xs)))
  have a2 : expS (fz (callD 2 (m_check_bridges c) (aCons (var 0) (aCons (var 1) aNil)))) (Sc c xs ns .un .un .un .un .un .un .un) = .nx (Sc c xs ns .un .un .un .un .un .un .un) := exp_v (fz_v (c2_v (var_fr rfl) (var_fr rfl) (chk_br c hb hl.1 hl.2)))
  have a3 : asgS 2 (ownB c.Sea (m_Sea_len c) isLen (var 0)) (Sc c xs ns .un .un .un .un .un .un .un) = .nx (Sc c xs ns (.fr (.int (xs.length : Int))) .un .un .un .un .un .un) := x_asg (sea_len h5 (var_fr rfl)) (x_putF rfl rfl)
  have a4 : asgS 3 (fz (callD 2 (m_leading_out c) (aCons (var 2) (aCons (var 1) aNil)))) (Sc c xs ns (.fr (.int (xs.length : Int))) .un .un .un .un .un .un) = .nx (Sc c xs ns (.fr (.int (xs.length : Int))) (.fr (.lst (tab (2 ^ xs.length) (gv xs.length ns)))) .un .un .un .un .un) := x_asg (fz_ok (c2_o (var_fr rfl) (var_fr rfl) (lead_ok c h2 h5))) (x_putF rfl rfl)
  have eL : ∀ {s4 s5 : Sl}, lcL c (Sc c xs ns (.fr (.int (xs.length : Int))) (.fr (.lst (tab (2 ^ xs.length) (gv xs.length ns)))) s4 s5 .un .un .un) = .ok ((lotN xs.length).map fun k : Nat => D.int (k : Int)) (Sc c xs ns (.fr (.int (xs.length : Int))) (.fr (.lst (tab (2 ^ xs.length) (gv xs.length ns)))) s4 s5 .un .un .un) := iLst_ok (fz_ok (c1_o (var_fr rfl) (lo_ok c h2 h5)))
  have zl : (lotN xs.length).length ≤ sizeLine := by
    have := lotN_len h5
    rw [sizeLine_eq]
    omega
  have eX : ∀ {k : Nat} {s4 s5 : Sl}, k ∈ lotN xs.length → DL.bin ixD (var 3) (var 6) (Sc c xs ns (.fr (.int (xs.length : Int))) (.fr (.lst (tab (2 ^ xs.length) (gv xs.length ns)))) s4 s5 (.fr (.int (k : Int))) .un .un) = .ok (.v (.int (gv xs.length ns k))) (Sc c xs ns (.fr (.int (xs.length : Int))) (.fr (.lst (tab (2 ^ xs.length) (gv xs.length ns)))) s4 s5 (.fr (.int (k : Int))) .un .un) := fun hk => bin_v (var_fr rfl) (var_fr rfl) (ix_tab (lotN_lt h5 hk).1)
  have k1 := comp_ix (α := Nat) (i := 6) (s := .un) (fi := lcL c) (c := cst (.bl true)) (f := DL.bin ixD (var 3) (var 6)) (S := Sc c xs ns (.fr (.int (xs.length : Int))) (.fr (.lst (tab (2 ^ xs.length) (gv xs.length ns)))) .un .un .un .un .un) (L := lotN xs.length) (fun k => D.int (k : Int)) (fun _ => true) (fun k => D.int (gv xs.length ns k)) eL rfl (.inl rfl) (fun _ _ => rfl) (fun k hk _ => eX hk) zl
  have ef : ((lotN xs.length).filter fun _ => true) = lotN xs.length := by simp
  rw [ef] at k1
  have em : (lotN xs.length).map (fun k => D.int (gv xs.length ns k)) = ((lotN xs.length).map (gv xs.length ns)).map D.int := by
    rw [List.map_map]
    rfl
  rw [em] at k1
  have ne : (lotN xs.length).map (gv xs.length ns) ≠ [] := fun e => lotN_ne h2 (List.map_eq_nil_iff.mp e)
  have a5 : lcA c (Sc c xs ns (.fr (.int (xs.length : Int))) (.fr (.lst (tab (2 ^ xs.length) (gv xs.length ns)))) .un .un .un .un .un) = .nx (Sc c xs ns (.fr (.int (xs.length : Int))) (.fr (.lst (tab (2 ^ xs.length) (gv xs.length ns)))) (.fr (.int (lcS xs.length ns))) .un .un .un .un) := x_asg (lift1 (fz_ok k1) (minC_map ne)) (x_putF rfl rfl)
  have k2 := comp_ix (α := Nat) (i := 6) (s := .un) (fi := lcL c) (c := andD (fz (callD 2 (m_has c) (aCons (var 6) (aCons (cst (.int 0)) aNil)))) (DL.bin (eqD false) (DL.bin ixD (var 3) (var 6)) (var 4))) (f := fz (callD 2 (m_indexes_in c) (aCons (var 2) (aCons (var 6) aNil)))) (S := Sc c xs ns (.fr (.int (xs.length : Int))) (.fr (.lst (tab (2 ^ xs.length) (gv xs.length ns)))) (.fr (.int (lcS xs.length ns))) .un .un .un .un) (L := lotN xs.length) (fun k => D.int (k : Int)) (lcP xs.length ns) (fun k => rowD (lotL xs.length k)) eL rfl (.inl rfl)
    (fun k hk => and_v (fz_v (c2_v (var_fr rfl) x_cst (has_ok c (i := 0) (lotN_lt h5 hk).2 (by omega)))) (eqv_i (eX hk) (var_fr rfl)))
    (fun k hk _ => fz_v (c2_v (var_fr rfl) (var_fr rfl) (idx_ok c h5 (lotN_lt h5 hk).2))) zl
  have em2 : ((lotN xs.length).filter (lcP xs.length ns)).map (fun k => rowD (lotL xs.length k)) = (((lotN xs.length).filter (lcP xs.length ns)).map (lotL xs.length)).map rowD := by
    rw [List.map_map]
    rfl
  rw [em2] at k2
  have a6 : lcB c (Sc c xs ns (.fr (.int (xs.length : Int))) (.fr (.lst (tab (2 ^ xs.length) (gv xs.length ns)))) (.fr (.int (lcS xs.length ns))) .un .un .un .un) = .nx (Sc c xs ns (.fr (.int (xs.length : Int))) (.fr (.lst (tab (2 ^ xs.length) (gv xs.length ns)))) (.fr (.int (lcS xs.length ns))) (.fr (.lst ((((lotN xs.length).filter (lcP xs.length ns)).map (lotL xs.length)).map rowD))) .un .un .un) := x_asg (fz_ok k2) (x_putF rfl rfl)
  have lr : (((lotN xs.length).filter (lcP xs.length ns)).map (lotL xs.length)).length ≤ 30 := by
    rw [List.length_map]
    exact Nat.le_trans (List.length_filter_le _ _) (lotN_len h5)
  have lr2 : (lcR xs.length ns).length ≤ 30 := by
    unfold lcR
    rw [List.length_mergeSort]
    exact lr
  have memR : ∀ r ∈ lcR xs.length ns, ∃ k, r = lotL xs.length k := fun r hr => by
    unfold lcR at hr
    obtain ⟨k, _, e⟩ := List.mem_map.mp ((List.mergeSort_perm _ _).mem_iff.mp hr)
    exact ⟨k, e.symm⟩
  have eO : iLst (fz (callD 1 (m_in_order c) (aCons (var 5) aNil))) (Sc c xs ns (.fr (.int (xs.length : Int))) (.fr (.lst (tab (2 ^ xs.length) (gv xs.length ns)))) (.fr (.int (lcS xs.length ns))) (.fr (.lst ((((lotN xs.length).filter (lcP xs.length ns)).map (lotL xs.length)).map rowD))) .un .un .un) = .ok ((lcR xs.length ns).map rowD) (Sc c xs ns (.fr (.int (xs.length : Int))) (.fr (.lst (tab (2 ^ xs.length) (gv xs.length ns)))) (.fr (.int (lcS xs.length ns))) (.fr (.lst ((((lotN xs.length).filter (lcP xs.length ns)).map (lotL xs.length)).map rowD))) .un .un .un) := iLst_ok (fz_ok (c1_o (var_fr rfl) (order_ok c (by omega))))
  have inner : ∀ {r : List Int} {s2 s3 s4 s5 s6 : Sl}, (∃ k, r = lotL xs.length k) → liftL tupC (aCons (fz (lcN c)) aNil) (Sc c xs ns s2 s3 s4 s5 s6 (.fr (rowD r)) .un) = .ok (.v (nmD xs r)) (Sc c xs ns s2 s3 s4 s5 s6 (.fr (rowD r)) .un) := fun {r s2 s3 s4 s5 s6} ⟨k, hr⟩ => by
    have hm : ∀ i ∈ r, ∃ j : Nat, i = (j : Int) ∧ j < xs.length := fun i hi => lot_lt (k := k) (by rw [← hr]; exact hi)
    have lr0 : r.length ≤ 5 := by
      rw [hr]
      unfold lotL bitsL
      rw [List.length_map]
      have := List.length_filter_le (fun i => Nat.testBit k i) (List.range xs.length)
      rw [List.length_range] at this
      omega
    have k3 := comp_ix (α := Int) (i := 8) (s := .un) (fi := iTpl (var 7)) (c := cst (.bl true)) (f := DL.bin ixD (wk (fz (propD c.Sea (m_Sea_islands c) (var 0)))) (var 8)) (S := Sc c xs ns s2 s3 s4 s5 s6 (.fr (rowD r)) .un) (L := r) D.int (fun _ => true) (fun i => D.str (xs.getD i.toNat "")) (x_iTpl (x_var rfl)) rfl (.inl rfl) (fun _ _ => rfl)
      (fun i hi _ => by
        obtain ⟨j, rfl, hj⟩ := hm i hi
        have e := sea_isl (c := c) (xs := xs) (f := var 0) (S := Sc c xs ns s2 s3 s4 s5 s6 (.fr (rowD r)) (.fr (.int (j : Int)))) (var_fr rfl)
        exact bin_v (wk_t (fz_v e)) (var_fr rfl) (ix_strT hj)) (by
        rw [sizeLine_eq]
        omega)
    have ef3 : (r.filter fun _ => true) = r := by simp
    rw [ef3] at k3
    have em3 : r.map (fun i => D.str (xs.getD i.toNat "")) = (nmR xs r).map D.str := by
      unfold nmR
      rw [List.map_map]
      rfl
    rw [em3] at k3
    exact x_lift (oL := tupC) (x_acons (x_fz k3 rfl) x_anil) rfl rfl
  have k4 := comp_ix (α := List Int) (i := 7) (s := .un) (fi := iLst (fz (callD 1 (m_in_order c) (aCons (var 5) aNil)))) (c := cst (.bl true)) (f := liftL tupC (aCons (fz (lcN c)) aNil)) (S := Sc c xs ns (.fr (.int (xs.length : Int))) (.fr (.lst (tab (2 ^ xs.length) (gv xs.length ns)))) (.fr (.int (lcS xs.length ns))) (.fr (.lst ((((lotN xs.length).filter (lcP xs.length ns)).map (lotL xs.length)).map rowD))) .un .un .un) (L := lcR xs.length ns) rowD (fun _ => true) (nmD xs) eO rfl (.inl rfl) (fun _ _ => rfl) (fun r hr _ => inner (memR r hr)) (by
    rw [sizeLine_eq]
    omega)
  have ef4 : ((lcR xs.length ns).filter fun _ => true) = lcR xs.length ns := by simp
  rw [ef4] at k4
  have fin : lcC c (Sc c xs ns (.fr (.int (xs.length : Int))) (.fr (.lst (tab (2 ^ xs.length) (gv xs.length ns)))) (.fr (.int (lcS xs.length ns))) (.fr (.lst ((((lotN xs.length).filter (lcP xs.length ns)).map (lotL xs.length)).map rowD))) .un .un .un) = .ok (.v (.tup ((lcR xs.length ns).map (nmD xs)))) (Sc c xs ns (.fr (.int (xs.length : Int))) (.fr (.lst (tab (2 ^ xs.length) (gv xs.length ns)))) (.fr (.int (lcS xs.length ns))) (.fr (.lst ((((lotN xs.length).filter (lcP xs.length ns)).map (lotL xs.length)).map rowD))) .un .un .un) := x_lift (oL := tupC) (x_acons (x_fz k4 rfl) x_anil) rfl rfl
  exact x_run (n := 2) (N := 9) (s := b_least_cuts c) (by rw [least_b]; exact x_seq a1 (x_seq a2 (x_seq a3 (x_seq a4 (x_seq a5 (x_seq a6 (x_ret fin))))))) rfl rfl

end Law
namespace Law
open PySem PySem.Spec PyProof.Rows L2 DL
variable [DL.Nm]
local macro_rules | `(tactic| keq_hits) => `(tactic| first | with_reducible assumption | rfl | (simp only [if_pos, if_neg, reduceIte, *]; done))
local macro_rules | `(tactic| ktr_rel) => `(tactic| with_reducible assumption)
local macro_rules | `(tactic| keq_rows) => `(tactic| first
  | with_reducible assumption
  | with_reducible exact x_cst
  | with_reducible exact x_anil
  | ((with_reducible apply x_acons); keq_rows; keq_rows)
  | ((with_reducible apply x_var); rfl)
  | ((with_reducible apply x_bw); rfl)
  | ((with_reducible apply x_fz); keq_rows; rfl)
  | ((with_reducible apply x_wk); keq_rows; rfl)
  | ((with_reducible apply x_bin); keq_rows; keq_rows; rfl; rfl; keq_hits)
  | ((with_reducible apply x_lift); keq_rows; rfl; keq_hits)
  | ((with_reducible apply x_call); keq_rows; simp only [bws]; decide; rfl; rfl; ktr_rel; rfl; first | exact backS_nb rfl | exact backS_0 rfl | rfl)
  | ((with_reducible apply x_callK); keq_rows; rfl; (first | exact List.nodup_nil | decide); rfl; rfl; ktr_rel; rfl; first | exact backS_nb rfl | exact backS_0 rfl | rfl)
  | ((with_reducible apply x_prop); keq_rows; ktr_rel; rfl)
  | ((with_reducible apply x_ownB); keq_rows; ktr_rel; keq_hits)
  | ((with_reducible apply x_inI); keq_rows; keq_rows; ktr_rel)
  | ((with_reducible apply x_eqI); keq_rows; keq_rows; ktr_rel)
  | ((with_reducible apply x_not); keq_rows)
  | ((with_reducible apply x_lst); keq_rows; rfl; (first | decide | assumption | omega))
  | ((with_reducible apply x_tup); keq_rows; rfl; (first | decide | assumption | omega))
  | ((with_reducible apply x_intO); keq_rows)
  | ((with_reducible apply x_slice); keq_rows; keq_rows; rfl; keq_rows; rfl; rfl; keq_hits)
  | ((with_reducible apply x_bm); keq_rows; rfl; (first | rfl | simp [tyD]); keq_rows; rfl; rfl; keq_hits)
  | ((with_reducible apply_assumption) <;> first | rfl | with_reducible assumption))
/-! ### bridges in a ring -/
def Sq (d : D) (n : Nat) (v a : Int) (fs : List Int) (s5 s6 : Sl) : DS := [.ow true d, .fr (.int (n : Int)), .fr (.int v), .fr (.int a), .ow false (.lst (fs.map D.int)), s5, s6]
def rgE : DS → Out := iteD (orD (DL.bin (eqD false) (DL.bin subD (var 6) (var 5)) (cst (.int 1))) (DL.bin (eqD false) (DL.bin subD (var 6) (var 5)) (DL.bin subD (var 1) (cst (.int 1))))) (liftL min2 (aCons (DL.bin powD (cst (.int 10)) (cst (.int 30))) (aCons (var 2) aNil))) (cst (.int 0))
def rgB : DS → Fl := guardS (isLst · 4) (appS 4 (aCons rgE aNil))
def rgM : DS → Out := liftL min2 (aCons (DL.bin powD (cst (.int 10)) (cst (.int 30))) (aCons (fz (DL.bin addD (DL.bin ixD (var 4) (var 3)) (cst (.int 1)))) aNil))
def rgI : DS → Fl := ifS (DL.bin ltD (var 3) (liftL lenD (aCons (var 4) aNil))) (asgT rgM (subG 4 (var 3))) skipS
theorem ringed_b (c : Cs) : b_ringed c = seqS (parO3 2 3 4 (DL.bin addD (cst (.int 1)) (nG c)) (upG c (DL.bin mulD (cst (.int 2)) (var 1))) (lstD aNil)) (seqS (forS (iLst (fz (callD 1 (m_spans c) (aCons (var 1) aNil)))) (tupG [nameG 5, nameG 6]) rgB) (seqS rgI (seqS (frzS 4) (retS (liftL tupC (aCons (var 4) aNil)))))) := rfl
theorem min_br {v : Int} (h : 0 ≤ v) : ∃ r : Int, min2 [.int 1000000000000000000000000000000, .int v] = some (.v (.int r)) ∧ BrI r := by
  refine ⟨_, rfl, ?_⟩
  split
  · exact ⟨by omega, by omega⟩
  · exact ⟨by omega, by omega⟩
theorem rgB_ok {d : D} {n i j : Nat} {v a : Int} {fs : List Int} (hv : 0 ≤ v) (hl : fs.length < 100) : ∃ r, rgB (Sq d n v a fs (.fr (.int (i : Int))) (.fr (.int (j : Int)))) = .nx (Sq d n v a (fs ++ [r]) (.fr (.int (i : Int))) (.fr (.int (j : Int)))) ∧ BrI r := by
  have e1 : DL.bin subD (var 6) (var 5) (Sq d n v a fs (.fr (.int (i : Int))) (.fr (.int (j : Int)))) = .ok (.v (.int ((j : Int) - (i : Int)))) (Sq d n v a fs (.fr (.int (i : Int))) (.fr (.int (j : Int)))) := subv (var_fr rfl) (var_fr rfl)
  have e2 : DL.bin subD (var 1) (cst (.int 1)) (Sq d n v a fs (.fr (.int (i : Int))) (.fr (.int (j : Int)))) = .ok (.v (.int ((n : Int) - 1))) (Sq d n v a fs (.fr (.int (i : Int))) (.fr (.int (j : Int)))) := subv (var_fr rfl) x_cst
  have t := or_v (eqv_i (g := cst (.int 1)) e1 x_cst) (eqv_i e1 e2)
  obtain ⟨m, em, mb⟩ := min_br hv
  have e3 : liftL min2 (aCons (DL.bin powD (cst (.int 10)) (cst (.int 30))) (aCons (var 2) aNil)) (Sq d n v a fs (.fr (.int (i : Int))) (.fr (.int (j : Int)))) = .ok (.v (.int m)) (Sq d n v a fs (.fr (.int (i : Int))) (.fr (.int (j : Int)))) := l2 (p30 _) (var_fr rfl) em
  obtain ⟨r, er, rb⟩ : ∃ r : Int, rgE (Sq d n v a fs (.fr (.int (i : Int))) (.fr (.int (j : Int)))) = .ok (.v (.int r)) (Sq d n v a fs (.fr (.int (i : Int))) (.fr (.int (j : Int)))) ∧ BrI r := by
    cases hb : (decide ((j : Int) - (i : Int) = 1) || decide ((j : Int) - (i : Int) = (n : Int) - 1)) with
    | true =>
      rw [hb] at t
      exact ⟨m, (ite_t t).trans e3, mb⟩
    | false =>
      rw [hb] at t
      exact ⟨0, (ite_f t).trans x_cst, by constructor <;> omega⟩
  refine ⟨r, ?_, rb⟩
  refine x_app rfl er rfl ?_ ?_
  · rw [List.length_map, sizeLine_eq]
    omega
  · simp [Sq]
theorem ringed_ok (c : Cs) {N n : Nat} {d : D} (h : RAt N d) (hN : N < 2 ^ 34) (h2 : 2 ≤ n) (h5 : n ≤ 5) : ∃ (ns : List Int) (d' : D) (as : List Sl), m_ringed c [.ow true d, .fr (.int (n : Int))] = .ret (.v (.tup (ns.map D.int))) (.ow true d' :: as) ∧ Br ns ∧ ns.length = (ipr n).length ∧ RAt (N + 200) d' := by
  have i10 := ipr_le h2 h5
  obtain ⟨v, d1, e1, hv, h1⟩ := great_ok c h (by omega)
  have e1 : nG c [.ow true d, .fr (.int (n : Int)), .un, .un, .un, .un, .un] = .ok (.v (.int v)) [.ow true d1, .fr (.int (n : Int)), .un, .un, .un, .un, .un] := fz_v (draw1 (S := [.ow true d, .fr (.int (n : Int)), .un, .un, .un, .un, .un]) rfl e1)
  have e1' : DL.bin addD (cst (.int 1)) (nG c) [.ow true d, .fr (.int (n : Int)), .un, .un, .un, .un, .un] = .ok (.v (.int (1 + v))) [.ow true d1, .fr (.int (n : Int)), .un, .un, .un, .un, .un] := addv x_cst e1
  have em : DL.bin mulD (cst (.int 2)) (var 1) [.ow true d1, .fr (.int (n : Int)), .un, .un, .un, .un, .un] = .ok (.v (.int (2 * (n : Int)))) [.ow true d1, .fr (.int (n : Int)), .un, .un, .un, .un, .un] := by
    refine bin_v x_cst (var_fr rfl) ?_
    have : mulOk 2 (n : Int) = true := mulOk_r (by omega) (by omega)
    simp only [mulD, this, if_true]
  obtain ⟨a, d2, e2, a0, a1, h3⟩ := up_ok c (S := [.ow true d1, .fr (.int (n : Int)), .un, .un, .un, .un, .un]) (n := 2 * (n : Int)) (f := DL.bin mulD (cst (.int 2)) (var 1)) h1 (by omega) rfl em (by omega) (by omega)
  have e2 : upG c (DL.bin mulD (cst (.int 2)) (var 1)) [.ow true d1, .fr (.int (n : Int)), .un, .un, .un, .un, .un] = .ok (.v (.int a)) [.ow true d2, .fr (.int (n : Int)), .un, .un, .un, .un, .un] := e2
  have p0 : parO3 2 3 4 (DL.bin addD (cst (.int 1)) (nG c)) (upG c (DL.bin mulD (cst (.int 2)) (var 1))) (lstD aNil) [.ow true d, .fr (.int (n : Int)), .un, .un, .un, .un, .un] = .nx (Sq d2 n (1 + v) a [] .un .un) := by
    have e3 : lstD aNil [.ow true d2, .fr (.int (n : Int)), .un, .un, .un, .un, .un] = .ok (.ow (.lst [])) [.ow true d2, .fr (.int (n : Int)), .un, .un, .un, .un, .un] := rfl
    unfold parO3
    rw [e1']
    dsimp only
    rw [e2]
    dsimp only
    rw [e3]
    rfl
  obtain ⟨S', e, fs, t5, t6, rfl, br, lg, -, -, -⟩ := x_loop (α := Nat × Nat) (u := pD) (bd := tupG [nameG 5, nameG 6]) (s := rgB)
    (St := fun L S => ∃ (fs : List Int) (t5 t6 : Sl), S = Sq d2 n (1 + v) a fs t5 t6 ∧ Br fs ∧ fs.length + L.length = (ipr n).length ∧ okSl t5 ∧ okSl t6 ∧ True)
    (fun p L S hS => by
      obtain ⟨fs, t5, t6, rfl, br, lg, o5, o6, -⟩ := hS
      rw [List.length_cons] at lg
      obtain ⟨r, er, rb⟩ := rgB_ok (d := d2) (n := n) (i := p.1) (j := p.2) (v := 1 + v) (a := a) (fs := fs) (by have := hv.1; omega) (by omega)
      refine ⟨_, _, x_nm2 (x_free (s := t5) rfl o5) rfl (x_free (s := t6) rfl o6) rfl, er, fs ++ [r], _, _, rfl, ?_, ?_, .inr ⟨_, rfl⟩, .inr ⟨_, rfl⟩, trivial⟩
      · intro x hx
        rcases List.mem_append.mp hx with hx | hx
        · exact br x hx
        · rw [List.mem_singleton.mp hx]
          exact rb
      · rw [List.length_append, List.length_singleton]
        omega)
    (ipr n) (Sq d2 n (1 + v) a [] .un .un) ⟨[], .un, .un, rfl, fun x hx => (List.not_mem_nil hx).elim, by simp, .inl rfl, .inl rfl, trivial⟩
  have sp : m_spans c [.fr (.int (n : Int))] = .ret (.v (.lst ((ipr n).map pD))) [.fr (.int (n : Int))] := sp_ok c h2 h5
  have z : fz (callD 1 (m_spans c) (aCons (var 1) aNil)) (Sq d2 n (1 + v) a [] .un .un) = .ok (.v (.lst ((ipr n).map pD))) (Sq d2 n (1 + v) a [] .un .un) := fz_v (c1_v (var_fr rfl) sp)
  obtain ⟨gs, eI, gb, gl⟩ : ∃ gs : List Int, rgI (Sq d2 n (1 + v) a fs t5 t6) = .nx (Sq d2 n (1 + v) a gs t5 t6) ∧ Br gs ∧ gs.length = fs.length := by
    have el : liftL lenD (aCons (var 4) aNil) (Sq d2 n (1 + v) a fs t5 t6) = .ok (.v (.int (fs.length : Int))) (Sq d2 n (1 + v) a fs t5 t6) := x_lift (x_acons (x_bw rfl) x_anil) rfl (by simp [lenD])
    have et : DL.bin ltD (var 3) (liftL lenD (aCons (var 4) aNil)) (Sq d2 n (1 + v) a fs t5 t6) = .ok (.v (.bl (decide (a < (fs.length : Int))))) (Sq d2 n (1 + v) a fs t5 t6) := bin_v (var_fr rfl) el rfl
    by_cases hlt : a < (fs.length : Int)
    · rw [decide_eq_true hlt] at et
      obtain ⟨k, rfl⟩ := Int.eq_ofNat_of_zero_le a0
      have kl : k < fs.length := by omega
      obtain ⟨x, hx⟩ : ∃ x, fs[k]? = some x := ⟨_, List.getElem?_eq_getElem kl⟩
      have xb := br x (List.mem_iff_getElem?.mpr ⟨k, hx⟩)
      obtain ⟨r, er, rb⟩ := min_br (v := x + 1) (by omega)
      have ix : ixN (fs.map D.int).length (k : Int) = some k := by
        rw [List.length_map]
        unfold ixN
        rw [if_pos (by omega), if_pos (by omega)]
        exact congrArg some (by omega)
      have e4 : DL.bin ixD (var 4) (var 3) (Sq d2 n (1 + v) (k : Int) fs t5 t6) = .ok (.v (.int x)) (Sq d2 n (1 + v) (k : Int) fs t5 t6) := by
        refine x_bin (x_bw rfl) (x_var rfl) rfl rfl ?_
        have g : (fs.map D.int)[k]? = some (.int x) := by
          rw [List.getElem?_map, hx]
          rfl
        simp only [ixD, atI, ix, Option.bind_some, g]
      have e5 : rgM (Sq d2 n (1 + v) (k : Int) fs t5 t6) = .ok (.v (.int r)) (Sq d2 n (1 + v) (k : Int) fs t5 t6) := l2 (p30 _) (fz_v (addv e4 x_cst)) er
      refine ⟨fs.set k r, x_ifT et rfl (x_asgT e5 ?_), fun y hy => ?_, by simp⟩
      · have g0 : isLst (Sq d2 n (1 + v) (k : Int) fs t5 t6) 4 = true := rfl
        have v3 : var 3 (Sq d2 n (1 + v) (k : Int) fs t5 t6) = .ok (.v (.int (k : Int))) (Sq d2 n (1 + v) (k : Int) fs t5 t6) := var_fr rfl
        have s4 : (Sq d2 n (1 + v) (k : Int) fs t5 t6)[4]? = some (.ow false (.lst (fs.map D.int))) := rfl
        unfold subG
        rw [if_pos g0, v3]
        simp only [s4, ix]
        rw [← List.map_set]
        rfl
      · rcases List.mem_or_eq_of_mem_set hy with hy | rfl
        · exact br y hy
        · exact rb
    · rw [decide_eq_false hlt] at et
      exact ⟨fs, x_ifF et rfl rfl, br, rfl⟩
  have all := x_seq p0 (x_seq (x_for (x_iLst z) e) (x_seq eI (x_seq (s := frzS 4) (t := retS (liftL tupC (aCons (var 4) aNil))) (x_frz (S := Sq d2 n (1 + v) a gs t5 t6) (i := 4) rfl rfl) (x_ret (x_lift (x_acons (x_var rfl) x_anil) rfl rfl)))))
  refine ⟨gs, d2, _, x_run (n := 2) (N := 7) (s := b_ringed c) (by rw [ringed_b]; exact all) rfl rfl, gb, by rw [gl]; simpa using lg, h3.mono (by omega)⟩

end Law
namespace Law
open PySem PySem.Spec PyProof.Rows L2 DL
variable [DL.Nm]
local macro_rules | `(tactic| keq_hits) => `(tactic| first | with_reducible assumption | rfl | (simp only [if_pos, if_neg, reduceIte, *]; done))
local macro_rules | `(tactic| ktr_rel) => `(tactic| with_reducible assumption)
local macro_rules | `(tactic| keq_rows) => `(tactic| first
  | with_reducible assumption
  | with_reducible exact x_cst
  | with_reducible exact x_anil
  | ((with_reducible apply x_acons); keq_rows; keq_rows)
  | ((with_reducible apply x_var); rfl)
  | ((with_reducible apply x_bw); rfl)
  | ((with_reducible apply x_fz); keq_rows; rfl)
  | ((with_reducible apply x_wk); keq_rows; rfl)
  | ((with_reducible apply x_bin); keq_rows; keq_rows; rfl; rfl; keq_hits)
  | ((with_reducible apply x_lift); keq_rows; rfl; keq_hits)
  | ((with_reducible apply x_call); keq_rows; simp only [bws]; decide; rfl; rfl; ktr_rel; rfl; first | exact backS_nb rfl | exact backS_0 rfl | rfl)
  | ((with_reducible apply x_callK); keq_rows; rfl; (first | exact List.nodup_nil | decide); rfl; rfl; ktr_rel; rfl; first | exact backS_nb rfl | exact backS_0 rfl | rfl)
  | ((with_reducible apply x_prop); keq_rows; ktr_rel; rfl)
  | ((with_reducible apply x_ownB); keq_rows; ktr_rel; keq_hits)
  | ((with_reducible apply x_inI); keq_rows; keq_rows; ktr_rel)
  | ((with_reducible apply x_eqI); keq_rows; keq_rows; ktr_rel)
  | ((with_reducible apply x_not); keq_rows)
  | ((with_reducible apply x_lst); keq_rows; rfl; (first | decide | assumption | omega))
  | ((with_reducible apply x_tup); keq_rows; rfl; (first | decide | assumption | omega))
  | ((with_reducible apply x_intO); keq_rows)
  | ((with_reducible apply x_slice); keq_rows; keq_rows; rfl; keq_rows; rfl; rfl; keq_hits)
  | ((with_reducible apply x_bm); keq_rows; rfl; (first | rfl | simp [tyD]); keq_rows; rfl; rfl; keq_hits)
  | ((with_reducible apply_assumption) <;> first | rfl | with_reducible assumption))
/-! ### the law's own side -/
theorem lot_up (n k : Nat) : (lotL n k).Pairwise (· ≤ ·) := by
  unfold lotL bitsL
  rw [List.pairwise_map]
  exact ((List.pairwise_lt_range (n := n)).filter _).imp fun h => by omega
theorem lot_len5 {n k : Nat} (h5 : n ≤ 5) : (lotL n k).length ≤ 5 := by
  unfold lotL bitsL
  rw [List.length_map]
  have := List.length_filter_le (fun i => Nat.testBit k i) (List.range n)
  rw [List.length_range] at this
  omega
theorem dLe_int (a b : Int) : dLe (.int a) (.int b) = decide (a ≤ b) := congrFun (congrFun (PySem.W.dataLe_int fun i : Int => i) a) b
theorem srtB_ints {r : List Int} (h : r.length ≤ 1000) : srtB (r.map D.int) = true := by
  unfold srtB
  simp [List.all_map, pyO, D.py, PyData.depth, PySem.W.alike, ntnB, h]
theorem sort_ints {r : List Int} (h : r.length ≤ 1000) (hp : r.Pairwise (· ≤ ·)) : sortC [.lst (r.map D.int)] = some (.ow (.lst (r.map D.int))) := by
  have e : (r.map D.int).mergeSort dLe = r.map D.int := by
    refine List.mergeSort_of_pairwise (List.pairwise_map.mpr (hp.imp fun {a b} hab => ?_))
    show dLe (.int a) (.int b) = true
    rw [dLe_int, decide_eq_true hab]
  simp only [sortC, if_pos (srtB_ints h), e]
theorem names_ok (c : Cs) {xs : List Str} {n k : Nat} (h5 : n ≤ 5) (hx : xs.length = n) : m_names c [.fr (.lst (xs.map D.str)), .fr (.lst ((lotL n k).map D.int))] = .ret (.v (nmD xs (lotL n k))) [.fr (.lst (xs.map D.str)), .fr (.lst ((lotL n k).map D.int))] := by
  have l5 := lot_len5 (k := k) h5
  have es : fz (liftL sortC (aCons (var 1) aNil)) [.fr (.lst (xs.map D.str)), .fr (.lst ((lotL n k).map D.int)), .un] = .ok (.v (.lst ((lotL n k).map D.int))) [.fr (.lst (xs.map D.str)), .fr (.lst ((lotL n k).map D.int)), .un] := x_fz (x_lift (oL := sortC) (x_acons (x_var rfl) x_anil) rfl (sort_ints (by omega) (lot_up n k))) rfl
  have k3 := comp_ix (α := Int) (i := 2) (s := .un) (fi := iLst (fz (liftL sortC (aCons (var 1) aNil)))) (c := cst (.bl true)) (f := DL.bin ixD (var 0) (var 2)) (S := [.fr (.lst (xs.map D.str)), .fr (.lst ((lotL n k).map D.int)), .un]) (L := lotL n k) D.int (fun _ => true) (fun i => D.str (xs.getD i.toNat "")) (x_iLst es) rfl (.inl rfl) (fun _ _ => rfl)
    (fun i hi _ => by
      obtain ⟨j, rfl, hj⟩ := lot_lt hi
      exact bin_v (S := [.fr (.lst (xs.map D.str)), .fr (.lst ((lotL n k).map D.int)), .fr (.int (j : Int))]) (var_fr rfl) (var_fr rfl) (ix_strL (by omega))) (by
      rw [sizeLine_eq]
      omega)
  have ef3 : ((lotL n k).filter fun _ => true) = lotL n k := by simp
  rw [ef3] at k3
  have em3 : (lotL n k).map (fun i => D.str (xs.getD i.toNat "")) = (nmR xs (lotL n k)).map D.str := by
    unfold nmR
    rw [List.map_map]
    rfl
  rw [em3] at k3
  exact x_run (n := 2) (N := 3) (s := b_names c) (x_ret (x_lift (oL := tupC) (x_acons (x_fz k3 rfl) x_anil) rfl rfl)) rfl rfl
/-- a row of the law: its size, its places -/
def szD (r : List Int) : D := .tup [.int (r.length : Int), .lst (r.map D.int)]
theorem pys_ints : ∀ r : List Int, D.pys (r.map D.int) = some (r.map PyData.int)
  | [] => by simp [D.pys]
  | i :: r => by
    have ih := pys_ints r
    simp only [List.map_cons, D.pys, D.py, ih]
theorem py_sz (r : List Int) : (szD r).py = some (.tuple [.int (r.length : Int), .list (r.map PyData.int)]) := by
  simp only [szD, D.py, D.pys, pys_ints]
theorem pyO_sz (r : List Int) : pyO (szD r) = .tuple [.int (r.length : Int), .list (r.map PyData.int)] := by
  unfold pyO
  rw [py_sz]
  rfl
theorem dLe_sz (a b : List Int) : dLe (szD a) (szD b) = lnLe a b := by
  have k : ∀ r : List Int, PySem.W.keyToks (pyO (szD r)) = PySem.W.keyToks (lnK r) := fun r => by
    rw [pyO_sz]
    simp [lnK, PySem.W.keyToks, PySem.W.keyToksAll]
  have e : ∀ x y : D, dLe x y = !PySem.W.dataLt (pyO y) (pyO x) := fun _ _ => rfl
  have e2 : lnLe a b = !PySem.W.dataLt (lnK b) (lnK a) := rfl
  rw [e, e2]
  unfold PySem.W.dataLt
  rw [k, k]
theorem alike_sz (a b : List Int) : PySem.W.alike (pyO (szD a)) (pyO (szD b)) = true := by
  rw [pyO_sz, pyO_sz]
  simp [PySem.W.alike, PySem.W.alikeAll, PySem.W.alike_ints]
theorem srtB_sz {rs : List (List Int)} (h : rs.length ≤ 1000) : srtB (rs.map szD) = true := by
  unfold srtB
  rw [Bool.and_eq_true, Bool.and_eq_true, Bool.and_eq_true, Bool.or_eq_true, List.all_eq_true, List.all_eq_true, List.all_eq_true, decide_eq_true_iff]
  refine ⟨⟨⟨by rw [List.length_map]; exact h, fun d hd => ?_⟩, fun d hd => ?_⟩, .inl fun d hd => ?_⟩
  · obtain ⟨r, _, rfl⟩ := List.mem_map.mp hd
    rw [py_sz, pyO_sz]
    simp [PyData.depth, PyData.depthAll, PySem.W.depth_ints]
  · obtain ⟨r, _, rfl⟩ := List.mem_map.mp hd
    rw [List.all_eq_true]
    intro e he
    obtain ⟨q, _, rfl⟩ := List.mem_map.mp he
    exact alike_sz r q
  · obtain ⟨r, _, rfl⟩ := List.mem_map.mp hd
    rw [pyO_sz]
    rfl
theorem sort_sz {rs : List (List Int)} (h : rs.length ≤ 1000) : sortC [.lst (rs.map szD)] = some (.ow (.lst ((rs.mergeSort lnLe).map szD))) := by
  have e : (rs.map szD).mergeSort dLe = (rs.mergeSort lnLe).map szD := (List.map_mergeSort fun a _ b _ => (dLe_sz a b).symm).symm
  simp only [sortC, if_pos (srtB_sz h), e]

end Law
namespace Law
open PySem PySem.Spec PyProof.Rows L2 DL
variable [DL.Nm]
local macro_rules | `(tactic| keq_hits) => `(tactic| first | with_reducible assumption | rfl | (simp only [if_pos, if_neg, reduceIte, *]; done))
local macro_rules | `(tactic| ktr_rel) => `(tactic| with_reducible assumption)
local macro_rules | `(tactic| keq_rows) => `(tactic| first
  | with_reducible assumption
  | with_reducible exact x_cst
  | with_reducible exact x_anil
  | ((with_reducible apply x_acons); keq_rows; keq_rows)
  | ((with_reducible apply x_var); rfl)
  | ((with_reducible apply x_bw); rfl)
  | ((with_reducible apply x_fz); keq_rows; rfl)
  | ((with_reducible apply x_wk); keq_rows; rfl)
  | ((with_reducible apply x_bin); keq_rows; keq_rows; rfl; rfl; keq_hits)
  | ((with_reducible apply x_lift); keq_rows; rfl; keq_hits)
  | ((with_reducible apply x_call); keq_rows; simp only [bws]; decide; rfl; rfl; ktr_rel; rfl; first | exact backS_nb rfl | exact backS_0 rfl | rfl)
  | ((with_reducible apply x_callK); keq_rows; rfl; (first | exact List.nodup_nil | decide); rfl; rfl; ktr_rel; rfl; first | exact backS_nb rfl | exact backS_0 rfl | rfl)
  | ((with_reducible apply x_prop); keq_rows; ktr_rel; rfl)
  | ((with_reducible apply x_ownB); keq_rows; ktr_rel; keq_hits)
  | ((with_reducible apply x_inI); keq_rows; keq_rows; ktr_rel)
  | ((with_reducible apply x_eqI); keq_rows; keq_rows; ktr_rel)
  | ((with_reducible apply x_not); keq_rows)
  | ((with_reducible apply x_lst); keq_rows; rfl; (first | decide | assumption | omega))
  | ((with_reducible apply x_tup); keq_rows; rfl; (first | decide | assumption | omega))
  | ((with_reducible apply x_intO); keq_rows)
  | ((with_reducible apply x_slice); keq_rows; keq_rows; rfl; keq_rows; rfl; rfl; keq_hits)
  | ((with_reducible apply x_bm); keq_rows; rfl; (first | rfl | simp [tyD]); keq_rows; rfl; rfl; keq_hits)
  | ((with_reducible apply_assumption) <;> first | rfl | with_reducible assumption))
/-! ### a lap, the laps -/
def Sw (d lp : D) (xs : List Str) (ns : List Int) (s5 s6 s7 s8 s9 : Sl) : DS := [.ow true d, .fr lp, .fr (.int (xs.length : Int)), .fr (.lst (xs.map D.str)), .fr (.tup (ns.map D.int)), s5, s6, s7, s8, s9, .un, .un, .un, .un]
def trD (n : Nat) (ns : List Int) (k : Nat) : D := .tup [.int (cv n ns k), .int ((lotL n k).length : Int), uL n k]
noncomputable def wA (c : Cs) : DS → Fl := asgS 5 (fz (compD true [10] [10] (iLst (fz (callD 1 (m_lots c) (aCons (var 2) aNil)))) (cst (.bl true)) (tupD (aCons (fz (callD 3 (m_out c) (aCons (var 2) (aCons (var 4) (aCons (var 10) aNil))))) (aCons (liftL lenD (aCons (var 10) aNil)) (aCons (fz (liftL sortC (aCons (var 10) aNil))) aNil))))))
noncomputable def wB : DS → Fl := asgS 6 (liftL minC (aCons (fz (compD true [11] [11] (iLst (var 5)) (cst (.bl true)) (DL.bin ixD (var 11) (cst (.int 0))))) aNil))
noncomputable def wC0 : DS → Fl := asgS 7 (fz (liftL sortC (aCons (fz (compD false [12, 13, 10] [12, 13, 10] (iLst (var 5)) (andD (DL.bin (eqD false) (var 12) (var 6)) (DL.bin (inD false) (cst (.int 0)) (var 10))) (tupD (aCons (var 13) (aCons (var 10) aNil))))) aNil)))
noncomputable def wD (c : Cs) : DS → Fl := asgS 8 (liftL tupC (aCons (fz (compD false [13, 10] [13, 10] (iLst (var 7)) (cst (.bl true)) (fz (callD 2 (m_names c) (aCons (var 3) (aCons (var 10) aNil)))))) aNil))
noncomputable def wE (c : Cs) : DS → Fl := asgS 9 (fz (makeD c.Sea 2 (m_Sea_init c) (aCons (liftL tupX (aCons (var 3) aNil)) aNil)))
noncomputable def wF (c : Cs) : DS → Fl := ifS (DL.bin (eqD true) (liftL reprC (aCons (fz (lstD (aCons (fz (callD 2 (m_least_cuts c) (aCons (var 9) (aCons (var 4) aNil)))) (aCons (fz (callK [1, 0] 2 (m_least_cuts c) (aCons (var 4) (aCons (var 9) aNil)))) aNil)))) aNil)) (liftL reprC (aCons (fz (lstD (aCons (var 8) (aCons (var 8) aNil)))) aNil))) (retS (cst (.bl false))) skipS
noncomputable def lpA (c : Cs) : DS → Fl := asgS 2 (DL.bin addD (cst (.int 2)) (fz (callD 2 (m_upto c) (aCons (var 0) (aCons (cst (.int 4)) aNil)))))
noncomputable def lpB (c : Cs) : DS → Fl := asgS 3 (fz (callD 2 (m_titles c) (aCons (var 0) (aCons (var 2) aNil))))
noncomputable def lpC (c : Cs) : DS → Fl := asgS 4 (iteD (DL.bin (eqD false) (fz (callD 2 (m_upto c) (aCons (var 0) (aCons (cst (.int 3)) aNil)))) (cst (.int 0))) (fz (callD 2 (m_ringed c) (aCons (var 0) (aCons (var 2) aNil)))) (fz (callD 2 (m_numbers c) (aCons (var 0) (aCons (var 2) aNil)))))
noncomputable def lapC (c : Cs) : DS → Fl := seqS (lpA c) (seqS (lpB c) (seqS (lpC c) (seqS (wA c) (seqS wB (seqS wC0 (seqS (wD c) (seqS (wE c) (wF c))))))))
theorem right_b (c : Cs) : b_right c = seqS (forS (iR1 (aCons (cst (.int 3)) aNil)) (nameG 1) (lapC c)) (retS (cst (.bl true))) := rfl
theorem filter_true {α : Type} (l : List α) : (l.filter fun _ => true) = l := by simp
section
variable {d lp : D} {xs : List Str} {ns : List Int} {s5 s6 s7 s8 s9 : Sl}
theorem wA_ok (c : Cs) (h2 : 2 ≤ xs.length) (h5 : xs.length ≤ 5) (hl : (ipr xs.length).length ≤ ns.length) (o5 : okSl s5) : wA c (Sw d lp xs ns s5 s6 s7 s8 s9) = .nx (Sw d lp xs ns (.fr (.lst ((lotN xs.length).map (trD xs.length ns)))) s6 s7 s8 s9) := by
  have eL : iLst (fz (callD 1 (m_lots c) (aCons (var 2) aNil))) (Sw d lp xs ns s5 s6 s7 s8 s9) = .ok ((lotN xs.length).map (uL xs.length)) (Sw d lp xs ns s5 s6 s7 s8 s9) := by
    rw [← lotD_u]
    exact iLst_ok (fz_ok (c1_o (var_fr rfl) (ll_ok c h2 h5)))
  have k := comp_ix (α := Nat) (i := 10) (s := .un) (fi := iLst (fz (callD 1 (m_lots c) (aCons (var 2) aNil)))) (c := cst (.bl true)) (f := tupD (aCons (fz (callD 3 (m_out c) (aCons (var 2) (aCons (var 4) (aCons (var 10) aNil))))) (aCons (liftL lenD (aCons (var 10) aNil)) (aCons (fz (liftL sortC (aCons (var 10) aNil))) aNil)))) (S := Sw d lp xs ns s5 s6 s7 s8 s9) (L := lotN xs.length) (uL xs.length) (fun _ => true) (trD xs.length ns) eL rfl (.inl rfl) (fun _ _ => rfl)
    (fun k hk _ => by
      obtain ⟨as, eo⟩ := out_ok c (k := k) h2 h5 hl
      have l5 := lot_len5 (n := xs.length) (k := k) h5
      have e1 : fz (callD 3 (m_out c) (aCons (var 2) (aCons (var 4) (aCons (var 10) aNil)))) ((Sw d lp xs ns s5 s6 s7 s8 s9).set 10 (.fr (uL xs.length k))) = .ok (.v (.int (cv xs.length ns k))) ((Sw d lp xs ns s5 s6 s7 s8 s9).set 10 (.fr (uL xs.length k))) := fz_v (c3_v (var_fr rfl) (var_fr rfl) (var_fr rfl) eo)
      have e2 : liftL lenD (aCons (var 10) aNil) ((Sw d lp xs ns s5 s6 s7 s8 s9).set 10 (.fr (uL xs.length k))) = .ok (.v (.int ((lotL xs.length k).length : Int))) ((Sw d lp xs ns s5 s6 s7 s8 s9).set 10 (.fr (uL xs.length k))) := x_lift (x_acons (x_var rfl) x_anil) rfl (by simp [lenD, uL])
      have e3 : fz (liftL sortC (aCons (var 10) aNil)) ((Sw d lp xs ns s5 s6 s7 s8 s9).set 10 (.fr (uL xs.length k))) = .ok (.v (uL xs.length k)) ((Sw d lp xs ns s5 s6 s7 s8 s9).set 10 (.fr (uL xs.length k))) := x_fz (x_lift (oL := sortC) (x_acons (x_var rfl) x_anil) rfl (sort_ints (by omega) (lot_up xs.length k))) rfl
      exact x_tup (x_acons e1 (x_acons e2 (x_acons e3 x_anil))) rfl (by show 3 ≤ sizeLine; decide)) (by
    have := lotN_len h5
    rw [sizeLine_eq]
    omega)
  rw [filter_true] at k
  exact x_asg (x_fz k rfl) (x_putF (x_free (s := s5) rfl o5) rfl)
theorem least_same (n : Nat) (ns : List Int) : minOf ((lotN n).map (cv n ns)) = lcS n ns := by
  unfold lcS
  congr 1
  exact List.map_congr_left fun k hk => (gv_cv hk).symm
theorem wB_ok (h2 : 2 ≤ xs.length) (h5 : xs.length ≤ 5) (o6 : okSl s6) : wB (Sw d lp xs ns (.fr (.lst ((lotN xs.length).map (trD xs.length ns)))) s6 s7 s8 s9) = .nx (Sw d lp xs ns (.fr (.lst ((lotN xs.length).map (trD xs.length ns)))) (.fr (.int (lcS xs.length ns))) s7 s8 s9) := by
  have k := comp_ix (α := Nat) (i := 11) (s := .un) (fi := iLst (var 5)) (c := cst (.bl true)) (f := DL.bin ixD (var 11) (cst (.int 0))) (S := Sw d lp xs ns (.fr (.lst ((lotN xs.length).map (trD xs.length ns)))) s6 s7 s8 s9) (L := lotN xs.length) (trD xs.length ns) (fun _ => true) (fun k => D.int (cv xs.length ns k)) (x_iLst (x_var rfl)) rfl (.inl rfl) (fun _ _ => rfl)
    (fun k hk _ => x_bin (x_var rfl) x_cst rfl rfl rfl) (by
    have := lotN_len h5
    rw [sizeLine_eq]
    omega)
  rw [filter_true] at k
  have em : (lotN xs.length).map (fun k => D.int (cv xs.length ns k)) = ((lotN xs.length).map (cv xs.length ns)).map D.int := by
    rw [List.map_map]
    rfl
  rw [em] at k
  have ne : (lotN xs.length).map (cv xs.length ns) ≠ [] := fun e => lotN_ne h2 (List.map_eq_nil_iff.mp e)
  have m := minC_map ne
  rw [least_same] at m
  exact x_asg (lift1 (fz_ok k) m) (x_putF (x_free (s := s6) rfl o6) rfl)
theorem lcR_len (h5 : xs.length ≤ 5) : (lcR xs.length ns).length ≤ 30 := by
  unfold lcR
  rw [List.length_mergeSort, List.length_map]
  exact Nat.le_trans (List.length_filter_le _ _) (lotN_len h5)
theorem lcR_mem {n : Nat} {r : List Int} (hr : r ∈ lcR n ns) : ∃ k, r = lotL n k := by
  unfold lcR at hr
  obtain ⟨k, _, e⟩ := List.mem_map.mp ((List.mergeSort_perm _ _).mem_iff.mp hr)
  exact ⟨k, e.symm⟩
theorem wC_ok (h2 : 2 ≤ xs.length) (h5 : xs.length ≤ 5) (o7 : okSl s7) : wC0 (Sw d lp xs ns (.fr (.lst ((lotN xs.length).map (trD xs.length ns)))) (.fr (.int (lcS xs.length ns))) s7 s8 s9) = .nx (Sw d lp xs ns (.fr (.lst ((lotN xs.length).map (trD xs.length ns)))) (.fr (.int (lcS xs.length ns))) (.fr (.lst ((lcR xs.length ns).map szD))) s8 s9) := by
  have k := x_comp (one := false) (is := [12, 13, 10]) (ws := [12, 13, 10]) (fi := iLst (var 5)) (c := andD (DL.bin (eqD false) (var 12) (var 6)) (DL.bin (inD false) (cst (.int 0)) (var 10))) (f := tupD (aCons (var 13) (aCons (var 10) aNil))) (L := lotN xs.length) (u := trD xs.length ns) (p := fun k => decide (cv xs.length ns k = lcS xs.length ns) && decide ((0 : Int) ∈ lotL xs.length k)) (g := fun k => szD (lotL xs.length k))
    (S := Sw d lp xs ns (.fr (.lst ((lotN xs.length).map (trD xs.length ns)))) (.fr (.int (lcS xs.length ns))) s7 s8 s9) (S1 := Sw d lp xs ns (.fr (.lst ((lotN xs.length).map (trD xs.length ns)))) (.fr (.int (lcS xs.length ns))) s7 s8 s9) (T := Sw d lp xs ns (.fr (.lst ((lotN xs.length).map (trD xs.length ns)))) (.fr (.int (lcS xs.length ns))) s7 s8 s9) (S2 := Sw d lp xs ns (.fr (.lst ((lotN xs.length).map (trD xs.length ns)))) (.fr (.int (lcS xs.length ns))) s7 s8 s9)
    (Tb := fun k => [.ow true d, .fr lp, .fr (.int (xs.length : Int)), .fr (.lst (xs.map D.str)), .fr (.tup (ns.map D.int)), .fr (.lst ((lotN xs.length).map (trD xs.length ns))), .fr (.int (lcS xs.length ns)), s7, s8, s9, .fr (uL xs.length k), .un, .fr (.int (cv xs.length ns k)), .fr (.int ((lotL xs.length k).length : Int))])
    (x_iLst (x_var rfl)) rfl rfl rfl (fun _ _ => rfl) (fun k hk => by
      have q := bin_v (o := inD false) (f := cst (.int 0)) (g := var 10) (S := [.ow true d, .fr lp, .fr (.int (xs.length : Int)), .fr (.lst (xs.map D.str)), .fr (.tup (ns.map D.int)), .fr (.lst ((lotN xs.length).map (trD xs.length ns))), .fr (.int (lcS xs.length ns)), s7, s8, s9, .fr (uL xs.length k), .un, .fr (.int (cv xs.length ns k)), .fr (.int ((lotL xs.length k).length : Int))]) x_cst (var_fr rfl) (in_ints 0 (lotL xs.length k) false)
      rw [Bool.false_xor] at q
      exact and_v (eqv_i (var_fr rfl) (var_fr rfl)) q)
    (fun k hk _ => x_tup (x_acons (x_var rfl) (x_acons (x_var rfl) x_anil)) rfl (by show 2 ≤ sizeLine; decide)) (fun _ _ => rfl) (fun _ _ => rfl) (by
    have := lotN_len h5
    rw [sizeLine_eq]
    omega) rfl
  have ef : ((lotN xs.length).filter fun k => decide (cv xs.length ns k = lcS xs.length ns) && decide ((0 : Int) ∈ lotL xs.length k)) = (lotN xs.length).filter (lcP xs.length ns) := List.filter_congr fun k hk => by
    have m := mem_lotL (n := xs.length) (k := k) (i := 0) (by omega)
    have m : decide ((0 : Int) ∈ lotL xs.length k) = Nat.testBit k 0 := m
    unfold lcP
    rw [m, gv_cv hk, Bool.and_comm]
  rw [ef] at k
  have em : ((lotN xs.length).filter (lcP xs.length ns)).map (fun k => szD (lotL xs.length k)) = (((lotN xs.length).filter (lcP xs.length ns)).map (lotL xs.length)).map szD := by
    rw [List.map_map]
    rfl
  rw [em] at k
  have lr : (((lotN xs.length).filter (lcP xs.length ns)).map (lotL xs.length)).length ≤ 1000 := by
    rw [List.length_map]
    have := Nat.le_trans (List.length_filter_le (lcP xs.length ns) (lotN xs.length)) (lotN_len h5)
    omega
  exact x_asg (x_fz (x_lift (oL := sortC) (x_acons (x_fz k rfl) x_anil) rfl (sort_sz lr)) rfl) (x_putF (x_free (s := s7) rfl o7) rfl)
theorem wD_ok (c : Cs) (h5 : xs.length ≤ 5) (o8 : okSl s8) : wD c (Sw d lp xs ns s5 s6 (.fr (.lst ((lcR xs.length ns).map szD))) s8 s9) = .nx (Sw d lp xs ns s5 s6 (.fr (.lst ((lcR xs.length ns).map szD))) (.fr (.tup ((lcR xs.length ns).map (nmD xs)))) s9) := by
  have k := x_comp0 (one := false) (is := [13, 10]) (ws := [13, 10]) (fi := iLst (var 7)) (f := fz (callD 2 (m_names c) (aCons (var 3) (aCons (var 10) aNil)))) (L := lcR xs.length ns) (u := szD) (g := nmD xs)
    (S := Sw d lp xs ns s5 s6 (.fr (.lst ((lcR xs.length ns).map szD))) s8 s9) (S1 := Sw d lp xs ns s5 s6 (.fr (.lst ((lcR xs.length ns).map szD))) s8 s9) (T := Sw d lp xs ns s5 s6 (.fr (.lst ((lcR xs.length ns).map szD))) s8 s9) (S2 := Sw d lp xs ns s5 s6 (.fr (.lst ((lcR xs.length ns).map szD))) s8 s9)
    (Tb := fun r => [.ow true d, .fr lp, .fr (.int (xs.length : Int)), .fr (.lst (xs.map D.str)), .fr (.tup (ns.map D.int)), s5, s6, .fr (.lst ((lcR xs.length ns).map szD)), s8, s9, .fr (.lst (r.map D.int)), .un, .un, .fr (.int (r.length : Int))])
    (x_iLst (x_var rfl)) rfl rfl rfl (fun _ _ => rfl) (fun r hr => by
      obtain ⟨k, rfl⟩ := lcR_mem hr
      exact fz_v (c2_v (var_fr rfl) (var_fr rfl) (names_ok c h5 rfl))) (fun _ _ => rfl) (fun _ _ => rfl) (by
    have := lcR_len (xs := xs) (ns := ns) h5
    rw [sizeLine_eq]
    omega) rfl
  exact x_asg (x_lift (oL := tupC) (x_acons (x_fz k rfl) x_anil) rfl rfl) (x_putF (x_free (s := s8) rfl o8) rfl)
theorem gd_due (hx : Row xs) (h5 : xs.length ≤ 5) : Gd 3 79562 (.lst [.tup ((lcR xs.length ns).map (nmD xs)), .tup ((lcR xs.length ns).map (nmD xs))]) := by
  have g1 : ∀ e ∈ (lcR xs.length ns).map (nmD xs), Gd 1 1325 e := fun e he => by
    obtain ⟨r, hr, rfl⟩ := List.mem_map.mp he
    obtain ⟨k, rfl⟩ := lcR_mem hr
    have g0 : ∀ e ∈ (nmR xs (lotL xs.length k)).map D.str, Gd 0 264 e := fun e he => by
      obtain ⟨x, hm, rfl⟩ := List.mem_map.mp he
      obtain ⟨i, hi, rfl⟩ := List.mem_map.mp hm
      obtain ⟨j, rfl, hj⟩ := lot_lt hi
      have nm := hx.1 _ (List.mem_of_getElem? (getD_lt hj))
      exact (Gd.str (Nm_ok nm) (Nm_P nm).2.1).mono (Nat.le_refl _) (by omega)
    refine (Gd.tup g0).mono (Nat.le_refl _) ?_
    have l5 := lot_len5 (n := xs.length) (k := k) h5
    have e : ((nmR xs (lotL xs.length k)).map D.str).length = (lotL xs.length k).length := by simp [nmR]
    rw [e]
    omega
  have g2 : Gd 2 39780 (.tup ((lcR xs.length ns).map (nmD xs))) := by
    refine (Gd.tup g1).mono (Nat.le_refl _) ?_
    have := lcR_len (xs := xs) (ns := ns) h5
    rw [List.length_map]
    omega
  refine (Gd.lst (n := 2) (w := 39780) (ds := [.tup ((lcR xs.length ns).map (nmD xs)), .tup ((lcR xs.length ns).map (nmD xs))]) fun e he => ?_).mono (Nat.le_refl _) (by simp)
  rcases List.mem_cons.mp he with rfl | he
  · exact g2
  · rw [List.mem_singleton.mp he]
    exact g2
theorem wF_ok (c : Cs) (hx : Row xs) (h2 : 2 ≤ xs.length) (h5 : xs.length ≤ 5) (hb : Br ns) (hl : lenOk xs ns) : wF c (Sw d lp xs ns s5 s6 s7 (.fr (.tup ((lcR xs.length ns).map (nmD xs)))) (.fr (.ins c.Sea (seaF xs)))) = .nx (Sw d lp xs ns s5 s6 s7 (.fr (.tup ((lcR xs.length ns).map (nmD xs)))) (.fr (.ins c.Sea (seaF xs)))) := by
  have e0 := least_ok c h2 h5 hb hl
  obtain ⟨t, et⟩ := (gd_due (ns := ns) hx h5).repr (by omega) (by omega)
  have e1 : fz (callD 2 (m_least_cuts c) (aCons (var 9) (aCons (var 4) aNil))) (Sw d lp xs ns s5 s6 s7 (.fr (.tup ((lcR xs.length ns).map (nmD xs)))) (.fr (.ins c.Sea (seaF xs)))) = .ok (.v (.tup ((lcR xs.length ns).map (nmD xs)))) (Sw d lp xs ns s5 s6 s7 (.fr (.tup ((lcR xs.length ns).map (nmD xs)))) (.fr (.ins c.Sea (seaF xs)))) := fz_v (c2_v (var_fr rfl) (var_fr rfl) e0)
  have e2 : fz (callK [1, 0] 2 (m_least_cuts c) (aCons (var 4) (aCons (var 9) aNil))) (Sw d lp xs ns s5 s6 s7 (.fr (.tup ((lcR xs.length ns).map (nmD xs)))) (.fr (.ins c.Sea (seaF xs)))) = .ok (.v (.tup ((lcR xs.length ns).map (nmD xs)))) (Sw d lp xs ns s5 s6 s7 (.fr (.tup ((lcR xs.length ns).map (nmD xs)))) (.fr (.ins c.Sea (seaF xs)))) :=
    x_fz (x_callK (x_acons (x_var rfl) (x_acons (x_var rfl) x_anil)) rfl List.nodup_nil rfl rfl e0 rfl (backS_nb rfl)) rfl
  have e3 := x_fz (x_lst (x_acons e1 (x_acons e2 x_anil)) rfl (by show 2 ≤ sizeLine; decide)) (ra := .v (.lst [.tup ((lcR xs.length ns).map (nmD xs)), .tup ((lcR xs.length ns).map (nmD xs))])) rfl
  have e4 : fz (lstD (aCons (var 8) (aCons (var 8) aNil))) (Sw d lp xs ns s5 s6 s7 (.fr (.tup ((lcR xs.length ns).map (nmD xs)))) (.fr (.ins c.Sea (seaF xs)))) = .ok (.v (.lst [.tup ((lcR xs.length ns).map (nmD xs)), .tup ((lcR xs.length ns).map (nmD xs))])) (Sw d lp xs ns s5 s6 s7 (.fr (.tup ((lcR xs.length ns).map (nmD xs)))) (.fr (.ins c.Sea (seaF xs)))) := x_fz (x_lst (x_acons (x_var rfl) (x_acons (x_var rfl) x_anil)) rfl (by show 2 ≤ sizeLine; decide)) rfl
  refine x_ifF (q := false) (x_bin (x_lift (x_acons e3 x_anil) rfl et) (x_lift (x_acons e4 x_anil) rfl et) rfl rfl ?_) rfl rfl
  rw [ne_str, decide_eq_true rfl]
  rfl
end
def Sv (d lp : D) (s2 s3 s4 s5 s6 s7 s8 s9 : Sl) : DS := [.ow true d, .fr lp, s2, s3, s4, s5, s6, s7, s8, s9, .un, .un, .un, .un]
def ok8 (s2 s3 s4 s5 s6 s7 s8 s9 : Sl) : Prop := okSl s2 ∧ okSl s3 ∧ okSl s4 ∧ okSl s5 ∧ okSl s6 ∧ okSl s7 ∧ okSl s8 ∧ okSl s9
theorem lap_ok (c : Cs) {N : Nat} {d lp : D} {s2 s3 s4 s5 s6 s7 s8 s9 : Sl} (h : RAt N d) (hN : N < 2 ^ 29) (o : ok8 s2 s3 s4 s5 s6 s7 s8 s9) :
    ∃ (d' : D) (t2 t3 t4 t5 t6 t7 t8 t9 : Sl), lapC c (Sv d lp s2 s3 s4 s5 s6 s7 s8 s9) = .nx (Sv d' lp t2 t3 t4 t5 t6 t7 t8 t9) ∧ RAt (N + 400) d' ∧ ok8 t2 t3 t4 t5 t6 t7 t8 t9 := by
  obtain ⟨o2, o3, o4, o5, o6, o7, o8, o9⟩ := o
  obtain ⟨r, d1, e1, r0, r1, h1⟩ := up_ok c (S := Sv d lp s2 s3 s4 s5 s6 s7 s8 s9) (n := 4) (f := cst (.int 4)) h (by omega) rfl rfl (by omega) (by omega)
  obtain ⟨m, rfl⟩ := Int.eq_ofNat_of_zero_le r0
  have q1 : lpA c (Sv d lp s2 s3 s4 s5 s6 s7 s8 s9) = .nx (Sv d1 lp (.fr (.int ((2 + m : Nat) : Int))) s3 s4 s5 s6 s7 s8 s9) := by
    refine x_asg (r := .v (.int ((2 + m : Nat) : Int))) (S1 := Sv d1 lp s2 s3 s4 s5 s6 s7 s8 s9) (x_bin x_cst e1 rfl rfl ?_) (x_putF (x_free (s := s2) rfl o2) rfl)
    show some (R.v (.int (2 + (m : Int)))) = _
    push_cast
    rfl
  obtain ⟨xs, d2, e2, row, xl, h2⟩ := titles_ok c (m := 2 + m) h1 (by omega) (by omega)
  have q2 : lpB c (Sv d1 lp (.fr (.int ((2 + m : Nat) : Int))) s3 s4 s5 s6 s7 s8 s9) = .nx (Sv d2 lp (.fr (.int ((2 + m : Nat) : Int))) (.fr (.lst (xs.map D.str))) s4 s5 s6 s7 s8 s9) :=
    x_asg (x_fz (draw2o (S := Sv d1 lp (.fr (.int ((2 + m : Nat) : Int))) s3 s4 s5 s6 s7 s8 s9) (f := var 2) rfl (x_var rfl) e2) rfl) (x_putF (x_free (s := s3) rfl o3) rfl)
  have hx2 : 2 ≤ xs.length := by omega
  have hx5 : xs.length ≤ 5 := by omega
  obtain ⟨w, d3, e3, w0, w1, h3⟩ := up_ok c (S := Sv d2 lp (.fr (.int ((2 + m : Nat) : Int))) (.fr (.lst (xs.map D.str))) s4 s5 s6 s7 s8 s9) (n := 3) (f := cst (.int 3)) h2 (by omega) rfl rfl (by omega) (by omega)
  have et := eqv_i (g := cst (.int 0)) e3 x_cst
  obtain ⟨ns, d4, e4, br, nl, h4⟩ : ∃ (ns : List Int) (d4 : D), iteD (DL.bin (eqD false) (fz (callD 2 (m_upto c) (aCons (var 0) (aCons (cst (.int 3)) aNil)))) (cst (.int 0))) (fz (callD 2 (m_ringed c) (aCons (var 0) (aCons (var 2) aNil)))) (fz (callD 2 (m_numbers c) (aCons (var 0) (aCons (var 2) aNil)))) (Sv d2 lp (.fr (.int ((2 + m : Nat) : Int))) (.fr (.lst (xs.map D.str))) s4 s5 s6 s7 s8 s9) = .ok (.v (.tup (ns.map D.int))) (Sv d4 lp (.fr (.int ((2 + m : Nat) : Int))) (.fr (.lst (xs.map D.str))) s4 s5 s6 s7 s8 s9) ∧ Br ns ∧ ns.length = (ipr (2 + m)).length ∧ RAt (N + 320) d4 := by
    by_cases z : w = 0
    · rw [decide_eq_true z] at et
      obtain ⟨ns, d4, as, e, br, nl, h4⟩ := ringed_ok c (n := 2 + m) h3 (by omega) (by omega) (by omega)
      exact ⟨ns, d4, (ite_t et).trans (x_fz (draw2 (S := Sv d3 lp (.fr (.int ((2 + m : Nat) : Int))) (.fr (.lst (xs.map D.str))) s4 s5 s6 s7 s8 s9) (f := var 2) rfl (x_var rfl) e) rfl), br, nl, h4.mono (by omega)⟩
    · rw [decide_eq_false z] at et
      obtain ⟨ns, d4, as, e, br, nl, h4⟩ := numbers_ok c (n := 2 + m) h3 (by omega) (by omega) (by omega)
      exact ⟨ns, d4, (ite_f et).trans (x_fz (draw2 (S := Sv d3 lp (.fr (.int ((2 + m : Nat) : Int))) (.fr (.lst (xs.map D.str))) s4 s5 s6 s7 s8 s9) (f := var 2) rfl (x_var rfl) e) rfl), br, nl, h4.mono (by omega)⟩
  have hl : ns.length = (ipr xs.length).length := by rw [xl]; exact nl
  have i10 := ipr_le hx2 hx5
  have lo : lenOk xs ns := ⟨by rw [ipr_len_prs hx2 hx5, hl], by omega⟩
  have q3 : lpC c (Sv d2 lp (.fr (.int ((2 + m : Nat) : Int))) (.fr (.lst (xs.map D.str))) s4 s5 s6 s7 s8 s9) = .nx (Sw d4 lp xs ns s5 s6 s7 s8 s9) := by
    refine x_asg e4 (x_putF (x_free (s := s4) rfl o4) ?_)
    rw [← xl]
    rfl
  have q4 := wA_ok (d := d4) (lp := lp) (s6 := s6) (s7 := s7) (s8 := s8) (s9 := s9) c hx2 hx5 (by omega : (ipr xs.length).length ≤ ns.length) o5
  have q5 := wB_ok (d := d4) (lp := lp) (xs := xs) (ns := ns) (s7 := s7) (s8 := s8) (s9 := s9) hx2 hx5 o6
  have q6 := wC_ok (d := d4) (lp := lp) (xs := xs) (ns := ns) (s8 := s8) (s9 := s9) hx2 hx5 o7
  have q7 := wD_ok (d := d4) (lp := lp) (xs := xs) (ns := ns) (s5 := .fr (.lst ((lotN xs.length).map (trD xs.length ns)))) (s6 := .fr (.int (lcS xs.length ns))) (s9 := s9) c hx5 o8
  have q8 : wE c (Sw d4 lp xs ns (.fr (.lst ((lotN xs.length).map (trD xs.length ns)))) (.fr (.int (lcS xs.length ns))) (.fr (.lst ((lcR xs.length ns).map szD))) (.fr (.tup ((lcR xs.length ns).map (nmD xs)))) s9) = .nx (Sw d4 lp xs ns (.fr (.lst ((lotN xs.length).map (trD xs.length ns)))) (.fr (.int (lcS xs.length ns))) (.fr (.lst ((lcR xs.length ns).map szD))) (.fr (.tup ((lcR xs.length ns).map (nmD xs)))) (.fr (.ins c.Sea (seaF xs)))) :=
    x_asg (x_fz (sea_make (c := c) (S := Sw d4 lp xs ns (.fr (.lst ((lotN xs.length).map (trD xs.length ns)))) (.fr (.int (lcS xs.length ns))) (.fr (.lst ((lcR xs.length ns).map szD))) (.fr (.tup ((lcR xs.length ns).map (nmD xs)))) s9) (f := var 3) ⟨row, hx2, hx5⟩ (x_var rfl)) rfl) (x_putF (x_free (s := s9) rfl o9) rfl)
  have q9 := wF_ok (d := d4) (lp := lp) (s5 := .fr (.lst ((lotN xs.length).map (trD xs.length ns)))) (s6 := .fr (.int (lcS xs.length ns))) (s7 := .fr (.lst ((lcR xs.length ns).map szD))) c row hx2 hx5 br lo
  exact ⟨d4, .fr (.int (xs.length : Int)), .fr (.lst (xs.map D.str)), .fr (.tup (ns.map D.int)), _, _, _, _, _, x_seq q1 (x_seq q2 (x_seq q3 (x_seq q4 (x_seq q5 (x_seq q6 (x_seq q7 (x_seq q8 q9))))))), h4.mono (by omega), .inr ⟨_, rfl⟩, .inr ⟨_, rfl⟩, .inr ⟨_, rfl⟩, .inr ⟨_, rfl⟩, .inr ⟨_, rfl⟩, .inr ⟨_, rfl⟩, .inr ⟨_, rfl⟩, .inr ⟨_, rfl⟩⟩
theorem il3 (S : DS) : iR1 (aCons (cst (.int 3)) aNil) S = .ok (rng 0 3) S := by
  have s : smallI 3 = true := by decide
  exact x_iR1 (k := 3) x_cst s
theorem right_ok (c : Cs) {d : D} (h : RAt 0 d) : ∃ as, m_right c [.ow true d] = .ret (.v (.bl true)) as := by
  obtain ⟨S', e, hS⟩ := x_loop (α := D) (u := id) (bd := nameG 1) (s := lapC c)
    (St := fun L S => ∃ (N : Nat) (d : D) (s1 s2 s3 s4 s5 s6 s7 s8 s9 : Sl), S = [.ow true d, s1, s2, s3, s4, s5, s6, s7, s8, s9, .un, .un, .un, .un] ∧ RAt N d ∧ N + 400 * L.length < 2 ^ 28 ∧ okSl s1 ∧ ok8 s2 s3 s4 s5 s6 s7 s8 s9)
    (fun lp L S hS => by
      obtain ⟨N, d, s1, s2, s3, s4, s5, s6, s7, s8, s9, rfl, h, hN, o1, o⟩ := hS
      rw [List.length_cons] at hN
      obtain ⟨d', t2, t3, t4, t5, t6, t7, t8, t9, e, h', k⟩ := lap_ok c (lp := lp) h (by omega) o
      exact ⟨_, _, x_name (x_free (s := s1) rfl o1) rfl, e, N + 400, d', .fr lp, t2, t3, t4, t5, t6, t7, t8, t9, rfl, h', by omega, .inr ⟨_, rfl⟩, k⟩)
    (rng 0 3) [.ow true d, .un, .un, .un, .un, .un, .un, .un, .un, .un, .un, .un, .un, .un]
    ⟨0, d, _, _, _, _, _, _, _, _, _, rfl, h, by rw [rng_length]; omega, .inl rfl, .inl rfl, .inl rfl, .inl rfl, .inl rfl, .inl rfl, .inl rfl, .inl rfl, .inl rfl⟩
  obtain ⟨N, d', s1, s2, s3, s4, s5, s6, s7, s8, s9, rfl, _⟩ := hS
  rw [List.map_id] at e
  have all := x_seq (x_for (s := lapC c) (il3 _) e) (x_ret (f := cst (.bl true)) x_cst)
  exact ⟨_, x_run (n := 1) (N := 14) (s := b_right c) (by rw [right_b c]; exact all) rfl rfl⟩

end Law
namespace Law
open PySem PySem.Spec PyProof.Rows L2 DL
variable [DL.Nm]
noncomputable def lE (c : Cs) : DS → Out := fz (callF (m_right c) (callD 2 (m_reel c) (aCons (var 0) (aCons (var 1) aNil))))
def lR : DS → IOut := iR1 (aCons (liftL max2 (aCons (cst (.int 2)) (aCons (liftL min2 (aCons (liftL lenD (aCons (var 0) aNil)) (aCons (cst (.int 5)) aNil))) aNil))) aNil)
theorem law_b (c : Cs) : b_law c = retS (liftL allC (aCons (fz (compD true [1] [1] lR (cst (.bl true)) (lE c))) aNil)) := rfl
theorem lR_ok {ns : List Int} : ∃ n : Nat, lR [.fr (.scr ns), .un] = .ok (rng 0 n) [.fr (.scr ns), .un] ∧ n ≤ 5 := by
  have e3 : liftL max2 (aCons (cst (.int 2)) (aCons (liftL min2 (aCons (liftL lenD (aCons (var 0) aNil)) (aCons (cst (.int 5)) aNil))) aNil)) [.fr (.scr ns), .un] = .ok (.v (.int (if (if (5 : Int) < (ns.length : Int) then 5 else (ns.length : Int)) > 2 then (if (5 : Int) < (ns.length : Int) then 5 else (ns.length : Int)) else 2))) [.fr (.scr ns), .un] := rfl
  obtain ⟨n, hn, h5⟩ : ∃ n : Nat, (if (if (5 : Int) < (ns.length : Int) then 5 else (ns.length : Int)) > 2 then (if (5 : Int) < (ns.length : Int) then 5 else (ns.length : Int)) else 2) = (n : Int) ∧ n ≤ 5 := by
    by_cases h : (5 : Int) < (ns.length : Int)
    · exact ⟨5, by simp [h], Nat.le_refl _⟩
    · by_cases h2 : (ns.length : Int) > 2
      · exact ⟨ns.length, by simp [h, h2], by omega⟩
      · exact ⟨2, by simp [h, h2], by omega⟩
  rw [hn] at e3
  refine ⟨n, ?_, h5⟩
  have sm : smallI (n : Int) = true := by
    unfold smallI
    simp
    omega
  unfold lR iR1
  simp only [aCons, e3, aNil, sm, if_true]
  rfl
theorem law_true (c : Cs) (ns : List Int) (_ : ns.length ≤ 63) : ∃ as, m_law c [.fr (.scr ns)] = .ret (.v (.bl true)) as := by
  obtain ⟨n, eR, hn⟩ := lR_ok (ns := ns)
  have key := comp_pure (i := 1) (fi := lR) (c := cst (.bl true)) (f := lE c) (S := [.fr (.scr ns), .un]) (s := .un) (fun _ => true) (fun _ => D.bl true) eR rfl (.inl rfl) (fun _ _ => rfl) (fun d hd _ => by
    obtain ⟨k, _, rfl⟩ := List.mem_map.mp hd
    have e0 : ((0 : Int) + (k : Int)) = (k : Int) := by omega
    rw [e0]
    obtain ⟨dd, e1, h1⟩ := reel_ok c ns k
    obtain ⟨as, e2⟩ := right_ok c h1
    have e3 : callD 2 (m_reel c) (aCons (var 0) (aCons (var 1) aNil)) [.fr (.scr ns), .fr (.int (k : Int))] = .ok (.ow dd) [.fr (.scr ns), .fr (.int (k : Int))] := by
      simp [callD, callS, aCons, aNil, var, bws, toArgs, backS, findA, e1]
    exact x_fz (x_callF e3 e2) rfl) (by rw [rng_length, sizeLine_eq]; omega)
  have ef : ((rng 0 n).filter fun _ => true) = rng 0 n := by simp
  rw [ef] at key
  have ha : allC [.lst ((rng 0 n).map fun _ => D.bl true)] = some (.v (.bl true)) := by
    simp only [allC, bLs_true]
    simp
  refine ⟨_, x_run (n := 1) (N := 2) (args := [.fr (.scr ns)]) (S1 := [.fr (.scr ns), .un]) ?_ rfl rfl⟩
  show b_law c [.fr (.scr ns), .un] = _
  rw [law_b]
  exact x_ret (x_lift (x_acons (x_fz key rfl) x_anil) rfl ha)

end Law
open PySem PySem.W PyProof.Rows in
set_option maxRecDepth 100000 in
set_option maxHeartbeats 0 in
theorem PySem.Challenge.cw_sparebridges_k15_whole_least_cuts_holds : PySem.Challenge.rw_sparebridges_k15_whole_least_cuts.Holds := by
  w_on; o_law; k_head; (case hw => w_witness2)
  k_fill
  refine DL.walkD (n := 63) (k := 7) (l := PySem.Challenge.rw_sparebridges_k15_whole_least_cuts) (cs := [(272, 268)]) ⟨fun P => if P = 268 then "in_order.<locals>.<lambda>" else "", [268]⟩ rfl (by decide) rfl ⟨rfl, by decide, by decide⟩ (fun w h Y => PySem.W.km_in_of Y) ?tabs ?out ?hds rfl ?F
  case tabs =>
    intro w h Y p hp
    simp only [List.mem_cons, List.not_mem_nil, or_false] at hp
    rcases hp with rfl
    · exact PySem.W.km_tabs_of Y _ (by decide)
  case out =>
    intro w p hp
    simp only [List.mem_cons, List.not_mem_nil, or_false] at hp
    rcases hp with rfl
    · kernel_rfl
  case hds =>
    intro w p hp
    simp only [List.mem_cons, List.not_mem_nil, or_false] at hp
    rcases hp with rfl
    · kernel_rfl
  case F =>
    intro w mg fa h X0 G0 hmg
    letI : DL.Nm := ⟨fun P => if P = 268 then "in_order.<locals>.<lambda>" else "", [268]⟩
    refine' Law.all_mk (cd_in_order := 272) (P_in_order := 268) X0 G0 hmg ?g_Sea ?b_abs ?b_all ?b_bool ?b_divmod ?b_enumerate ?b_int ?b_isinstance ?b_len ?b_list ?b_max ?b_min ?b_range ?b_repr ?b_sorted ?b_str ?b_tuple ?b_zip ?c_LETTERS ?c_LETTERS_AND_DIGITS ?c_MOST_BRIDGES ?c_MOST_ISLANDS ?c_MOST_SIGNS ?cl_Sea ?na_Sea_islands ?na_Sea_pairs ?ci_Sea ?ti_Sea ?ki_Sea_NoneType ?ki_Sea_bool ?ki_Sea_int ?ki_Sea_str ?ki_Sea_list ?ki_Sea_tuple ?ki_Sea_dict ?ik_Sea ?D_is_name ?D_check_islands ?D_pairs_of ?D_Sea_init ?D_Sea_islands ?D_Sea_pairs ?D_Sea_len ?D_is_integer ?D_is_within ?D_wrong_places ?D_check_sea ?D_check_bridges ?D_index_pairs ?D_lots_of ?D_has ?D_parts ?D_indexes_in ?D_in_order ?D_leading_out ?D_least_cuts ?D_reel ?D_upto ?D_pick ?D_title ?D_titles ?D_spans ?D_great ?D_numbers ?D_lots ?D_out ?D_names ?D_ringed ?D_right ?LP_in_order ?aL ?lL ?cL ?kL Law.law_true
    (case g_Sea => k_is)
    (case b_abs => k_is)
    (case b_all => k_is)
    (case b_bool => k_is)
    (case b_divmod => k_is)
    (case b_enumerate => k_is)
    (case b_int => k_is)
    (case b_isinstance => k_is)
    (case b_len => k_is)
    (case b_list => k_is)
    (case b_max => k_is)
    (case b_min => k_is)
    (case b_range => k_is)
    (case b_repr => k_is)
    (case b_sorted => k_is)
    (case b_str => k_is)
    (case b_tuple => k_is)
    (case b_zip => k_is)
    (case c_LETTERS => (refine' DL.ConstI.mk ?e1_LETTERS ?e2_LETTERS; (case e1_LETTERS => k_is); (case e2_LETTERS => exact ⟨_, rfl⟩)))
    (case c_LETTERS_AND_DIGITS => (refine' DL.ConstI.mk ?e1_LETTERS_AND_DIGITS ?e2_LETTERS_AND_DIGITS; (case e1_LETTERS_AND_DIGITS => k_is); (case e2_LETTERS_AND_DIGITS => exact ⟨_, rfl⟩)))
    (case c_MOST_BRIDGES => (refine' DL.ConstI.mk ?e1_MOST_BRIDGES ?e2_MOST_BRIDGES; (case e1_MOST_BRIDGES => k_is); (case e2_MOST_BRIDGES => exact ⟨_, rfl⟩)))
    (case c_MOST_ISLANDS => (refine' DL.ConstI.mk ?e1_MOST_ISLANDS ?e2_MOST_ISLANDS; (case e1_MOST_ISLANDS => k_is); (case e2_MOST_ISLANDS => exact ⟨_, rfl⟩)))
    (case c_MOST_SIGNS => (refine' DL.ConstI.mk ?e1_MOST_SIGNS ?e2_MOST_SIGNS; (case e1_MOST_SIGNS => k_is); (case e2_MOST_SIGNS => exact ⟨_, rfl⟩)))
    (case cl_Sea => exact ⟨by k_is, by k_is, by k_is, by k_is⟩)
    (case na_Sea_islands => k_is)
    (case na_Sea_pairs => k_is)
    (case ci_Sea => k_is)
    (case ti_Sea => k_is)
    (case ki_Sea_NoneType => k_is)
    (case ki_Sea_bool => k_is)
    (case ki_Sea_int => k_is)
    (case ki_Sea_str => k_is)
    (case ki_Sea_list => k_is)
    (case ki_Sea_tuple => k_is)
    (case ki_Sea_dict => k_is)
    (case ik_Sea => exact ⟨⟨by k_is, by k_is, by k_is, by k_is⟩, by k_is, by k_is, by k_is, by k_is⟩)
    (case D_is_name => (refine' DL.DefIn.mk X0 G0 ?a_is_name ?l_is_name ?c_is_name ?k_is_name ?b_is_name; (case a_is_name => k_is); (case l_is_name => k_is); (case c_is_name => k_is); (case k_is_name => k_is); (case b_is_name => exact fun _ _ _ _ _ _ us hl => match us, hl with | [_], _ => rfl)))
    (case D_check_islands => (refine' DL.DefIn.mk X0 G0 ?a_check_islands ?l_check_islands ?c_check_islands ?k_check_islands ?b_check_islands; (case a_check_islands => k_is); (case l_check_islands => k_is); (case c_check_islands => k_is); (case k_check_islands => k_is); (case b_check_islands => exact fun _ _ _ _ _ _ us hl => match us, hl with | [_], _ => rfl)))
    (case D_pairs_of => (refine' DL.DefIn.mk X0 G0 ?a_pairs_of ?l_pairs_of ?c_pairs_of ?k_pairs_of ?b_pairs_of; (case a_pairs_of => k_is); (case l_pairs_of => k_is); (case c_pairs_of => k_is); (case k_pairs_of => k_is); (case b_pairs_of => exact fun _ _ _ _ _ _ us hl => match us, hl with | [_], _ => rfl)))
    (case D_Sea_init => (refine' ⟨DL.MethF.mk ?a_Sea_init ?i_Sea_init ?l_Sea_init ?c_Sea_init ?k_Sea_init ?b_Sea_init, ?mk_Sea_init, ?kp_Sea_init⟩; (case a_Sea_init => k_is); (case i_Sea_init => k_is); (case mk_Sea_init => k_is); (case kp_Sea_init => k_is); (case l_Sea_init => k_is); (case c_Sea_init => k_is); (case k_Sea_init => k_is); (case b_Sea_init => exact fun _ _ _ _ _ _ us hl => match us, hl with | [_, _], _ => rfl)))
    (case D_Sea_islands => (refine' DL.PropF.mk ?a_Sea_islands ?g_Sea_islands ?t_Sea_islands ?r_Sea_islands ?l_Sea_islands ?c_Sea_islands ?k_Sea_islands ?b_Sea_islands; (case a_Sea_islands => k_is); (case g_Sea_islands => k_is); (case t_Sea_islands => k_is); (case r_Sea_islands => k_is); (case l_Sea_islands => k_is); (case c_Sea_islands => k_is); (case k_Sea_islands => k_is); (case b_Sea_islands => exact fun _ _ _ _ _ _ us hl => match us, hl with | [_], _ => rfl)))
    (case D_Sea_pairs => (refine' DL.PropF.mk ?a_Sea_pairs ?g_Sea_pairs ?t_Sea_pairs ?r_Sea_pairs ?l_Sea_pairs ?c_Sea_pairs ?k_Sea_pairs ?b_Sea_pairs; (case a_Sea_pairs => k_is); (case g_Sea_pairs => k_is); (case t_Sea_pairs => k_is); (case r_Sea_pairs => k_is); (case l_Sea_pairs => k_is); (case c_Sea_pairs => k_is); (case k_Sea_pairs => k_is); (case b_Sea_pairs => exact fun _ _ _ _ _ _ us hl => match us, hl with | [_], _ => rfl)))
    (case D_Sea_len => (refine' DL.MethF.mk ?a_Sea_len ?i_Sea_len ?l_Sea_len ?c_Sea_len ?k_Sea_len ?b_Sea_len; (case a_Sea_len => k_is); (case i_Sea_len => k_is); (case l_Sea_len => k_is); (case c_Sea_len => k_is); (case k_Sea_len => k_is); (case b_Sea_len => exact fun _ _ _ _ _ _ us hl => match us, hl with | [_], _ => rfl)))
    (case D_is_integer => (refine' DL.DefIn.mk X0 G0 ?a_is_integer ?l_is_integer ?c_is_integer ?k_is_integer ?b_is_integer; (case a_is_integer => k_is); (case l_is_integer => k_is); (case c_is_integer => k_is); (case k_is_integer => k_is); (case b_is_integer => exact fun _ _ _ _ _ _ us hl => match us, hl with | [_], _ => rfl)))
    (case D_is_within => (refine' DL.DefIn.mk X0 G0 ?a_is_within ?l_is_within ?c_is_within ?k_is_within ?b_is_within; (case a_is_within => k_is); (case l_is_within => k_is); (case c_is_within => k_is); (case k_is_within => k_is); (case b_is_within => exact fun _ _ _ _ _ _ us hl => match us, hl with | [_, _, _], _ => rfl)))
    (case D_wrong_places => (refine' DL.DefIn.mk X0 G0 ?a_wrong_places ?l_wrong_places ?c_wrong_places ?k_wrong_places ?b_wrong_places; (case a_wrong_places => k_is); (case l_wrong_places => k_is); (case c_wrong_places => k_is); (case k_wrong_places => k_is); (case b_wrong_places => exact fun _ _ _ _ _ _ us hl => match us, hl with | [_, _, _, _], _ => rfl)))
    (case D_check_sea => (refine' DL.DefIn.mk X0 G0 ?a_check_sea ?l_check_sea ?c_check_sea ?k_check_sea ?b_check_sea; (case a_check_sea => k_is); (case l_check_sea => k_is); (case c_check_sea => k_is); (case k_check_sea => k_is); (case b_check_sea => exact fun _ _ _ _ _ _ us hl => match us, hl with | [_], _ => rfl)))
    (case D_check_bridges => (refine' DL.DefIn.mk X0 G0 ?a_check_bridges ?l_check_bridges ?c_check_bridges ?k_check_bridges ?b_check_bridges; (case a_check_bridges => k_is); (case l_check_bridges => k_is); (case c_check_bridges => k_is); (case k_check_bridges => k_is); (case b_check_bridges => exact fun _ _ _ _ _ _ us hl => match us, hl with | [_, _], _ => rfl)))
    (case D_index_pairs => (refine' DL.DefIn.mk X0 G0 ?a_index_pairs ?l_index_pairs ?c_index_pairs ?k_index_pairs ?b_index_pairs; (case a_index_pairs => k_is); (case l_index_pairs => k_is); (case c_index_pairs => k_is); (case k_index_pairs => k_is); (case b_index_pairs => exact fun _ _ _ _ _ _ us hl => match us, hl with | [_], _ => rfl)))
    (case D_lots_of => (refine' DL.DefIn.mk X0 G0 ?a_lots_of ?l_lots_of ?c_lots_of ?k_lots_of ?b_lots_of; (case a_lots_of => k_is); (case l_lots_of => k_is); (case c_lots_of => k_is); (case k_lots_of => k_is); (case b_lots_of => exact fun _ _ _ _ _ _ us hl => match us, hl with | [_], _ => rfl)))
    (case D_has => (refine' DL.DefIn.mk X0 G0 ?a_has ?l_has ?c_has ?k_has ?b_has; (case a_has => k_is); (case l_has => k_is); (case c_has => k_is); (case k_has => k_is); (case b_has => exact fun _ _ _ _ _ _ us hl => match us, hl with | [_, _], _ => rfl)))
    (case D_parts => (refine' DL.DefIn.mk X0 G0 ?a_parts ?l_parts ?c_parts ?k_parts ?b_parts; (case a_parts => k_is); (case l_parts => k_is); (case c_parts => k_is); (case k_parts => k_is); (case b_parts => exact fun _ _ _ _ _ _ us hl => match us, hl with | [_, _, _], _ => rfl)))
    (case D_indexes_in => (refine' DL.DefIn.mk X0 G0 ?a_indexes_in ?l_indexes_in ?c_indexes_in ?k_indexes_in ?b_indexes_in; (case a_indexes_in => k_is); (case l_indexes_in => k_is); (case c_indexes_in => k_is); (case k_indexes_in => k_is); (case b_indexes_in => exact fun _ _ _ _ _ _ us hl => match us, hl with | [_, _], _ => rfl)))
    (case D_in_order => (refine' DL.DefInC.mk X0 G0 ?a_in_order ?l_in_order ?c_in_order ?k_in_order ?b_in_order; (case a_in_order => k_is); (case l_in_order => k_is); (case c_in_order => k_is); (case k_in_order => k_is); (case b_in_order => exact fun _ _ _ _ _ _ us hl => match us, hl with | [_], _ => rfl)))
    (case D_leading_out => (refine' DL.DefIn.mk X0 G0 ?a_leading_out ?l_leading_out ?c_leading_out ?k_leading_out ?b_leading_out; (case a_leading_out => k_is); (case l_leading_out => k_is); (case c_leading_out => k_is); (case k_leading_out => k_is); (case b_leading_out => exact fun _ _ _ _ _ _ us hl => match us, hl with | [_, _], _ => rfl)))
    (case D_least_cuts => (refine' DL.DefIn.mk X0 G0 ?a_least_cuts ?l_least_cuts ?c_least_cuts ?k_least_cuts ?b_least_cuts; (case a_least_cuts => k_is); (case l_least_cuts => k_is); (case c_least_cuts => k_is); (case k_least_cuts => k_is); (case b_least_cuts => exact fun _ _ _ _ _ _ us hl => match us, hl with | [_, _], _ => rfl)))
    (case D_reel => (refine' DL.DefIn.mk X0 G0 ?a_reel ?l_reel ?c_reel ?k_reel ?b_reel; (case a_reel => k_is); (case l_reel => k_is); (case c_reel => k_is); (case k_reel => k_is); (case b_reel => exact fun _ _ _ _ _ _ us hl => match us, hl with | [_, _], _ => rfl)))
    (case D_upto => (refine' DL.DefIn.mk X0 G0 ?a_upto ?l_upto ?c_upto ?k_upto ?b_upto; (case a_upto => k_is); (case l_upto => k_is); (case c_upto => k_is); (case k_upto => k_is); (case b_upto => exact fun _ _ _ _ _ _ us hl => match us, hl with | [_, _], _ => rfl)))
    (case D_pick => (refine' DL.DefIn.mk X0 G0 ?a_pick ?l_pick ?c_pick ?k_pick ?b_pick; (case a_pick => k_is); (case l_pick => k_is); (case c_pick => k_is); (case k_pick => k_is); (case b_pick => exact fun _ _ _ _ _ _ us hl => match us, hl with | [_, _], _ => rfl)))
    (case D_title => (refine' DL.DefIn.mk X0 G0 ?a_title ?l_title ?c_title ?k_title ?b_title; (case a_title => k_is); (case l_title => k_is); (case c_title => k_is); (case k_title => k_is); (case b_title => exact fun _ _ _ _ _ _ us hl => match us, hl with | [_], _ => rfl)))
    (case D_titles => (refine' DL.DefIn.mk X0 G0 ?a_titles ?l_titles ?c_titles ?k_titles ?b_titles; (case a_titles => k_is); (case l_titles => k_is); (case c_titles => k_is); (case k_titles => k_is); (case b_titles => exact fun _ _ _ _ _ _ us hl => match us, hl with | [_, _], _ => rfl)))
    (case D_spans => (refine' DL.DefIn.mk X0 G0 ?a_spans ?l_spans ?c_spans ?k_spans ?b_spans; (case a_spans => k_is); (case l_spans => k_is); (case c_spans => k_is); (case k_spans => k_is); (case b_spans => exact fun _ _ _ _ _ _ us hl => match us, hl with | [_], _ => rfl)))
    (case D_great => (refine' DL.DefIn.mk X0 G0 ?a_great ?l_great ?c_great ?k_great ?b_great; (case a_great => k_is); (case l_great => k_is); (case c_great => k_is); (case k_great => k_is); (case b_great => exact fun _ _ _ _ _ _ us hl => match us, hl with | [_], _ => rfl)))
    (case D_numbers => (refine' DL.DefIn.mk X0 G0 ?a_numbers ?l_numbers ?c_numbers ?k_numbers ?b_numbers; (case a_numbers => k_is); (case l_numbers => k_is); (case c_numbers => k_is); (case k_numbers => k_is); (case b_numbers => exact fun _ _ _ _ _ _ us hl => match us, hl with | [_, _], _ => rfl)))
    (case D_lots => (refine' DL.DefIn.mk X0 G0 ?a_lots ?l_lots ?c_lots ?k_lots ?b_lots; (case a_lots => k_is); (case l_lots => k_is); (case c_lots => k_is); (case k_lots => k_is); (case b_lots => exact fun _ _ _ _ _ _ us hl => match us, hl with | [_], _ => rfl)))
    (case D_out => (refine' DL.DefIn.mk X0 G0 ?a_out ?l_out ?c_out ?k_out ?b_out; (case a_out => k_is); (case l_out => k_is); (case c_out => k_is); (case k_out => k_is); (case b_out => exact fun _ _ _ _ _ _ us hl => match us, hl with | [_, _, _], _ => rfl)))
    (case D_names => (refine' DL.DefIn.mk X0 G0 ?a_names ?l_names ?c_names ?k_names ?b_names; (case a_names => k_is); (case l_names => k_is); (case c_names => k_is); (case k_names => k_is); (case b_names => exact fun _ _ _ _ _ _ us hl => match us, hl with | [_, _], _ => rfl)))
    (case D_ringed => (refine' DL.DefIn.mk X0 G0 ?a_ringed ?l_ringed ?c_ringed ?k_ringed ?b_ringed; (case a_ringed => k_is); (case l_ringed => k_is); (case c_ringed => k_is); (case k_ringed => k_is); (case b_ringed => exact fun _ _ _ _ _ _ us hl => match us, hl with | [_, _], _ => rfl)))
    (case D_right => (refine' DL.DefIn.mk X0 G0 ?a_right ?l_right ?c_right ?k_right ?b_right; (case a_right => k_is); (case l_right => k_is); (case c_right => k_is); (case k_right => k_is); (case b_right => exact fun _ _ _ _ _ _ us hl => match us, hl with | [_], _ => rfl)))
    (case LP_in_order => exact ⟨⟨by decide +kernel, by decide +kernel⟩, by decide⟩)
    (case aL => k_is)
    (case lL => k_is)
    (case cL => k_is)
    (case kL => k_is)
