import PyProof.Rows.All
import HandS.ForMost
import HandS.ForExc
import HandS.CallSlots
import HandS.TryMany
import HandS.ExcInit
import HandS.ExcField
import HandS.ExcValue
import HandS.IsInst
import HandS.Zip
import HandS.Flow
import HandS.Wide
import HandS.Deep
import HandS.TupAny
import HandS.TupLe
import KE.SortData
import KE.GoesEnum
import HandS.DictComp
import HandS.Conv
import HandS.Defaults
import HandS.Head0
import HandS.Head1
import HandS.Head2
import HandS.HeadEnd
import HandS.HeadHook1
import HandS.HeadHook2
import HandS.EndBits
import HandS.SortKw
import KE.DataMinMax
import KE.SortCalls
import PyProof.Rows.FloatCmp
import OpenK.KExp
import PyProof.DictMoreH
import KE.KDictWalk
import KE.KDictSum
import KE.KTupSum
import HandS.TupMul
import HandS.DictTup
import PyProof.Transfer
import HandS.RaiseMore
import HandS.WideBits
import HandS.Style
import HandS.Strs
import HandS.Text
import HandS.ExcIs
import HandS.List
import HandS.HotCalls
import PyProof.FactsAll.list_3
import HandS.StrMore
import PyProof.AssignAttr
import PyProof.ReprRoads
import PySem.Challenge.RW_leastroads_k00_errors_keep_what_is_passe
set_option Elab.async false
set_option linter.all false
set_option maxRecDepth 100000
/-! A small semantics of Python over plain data, and its tie to the layer's readings. -/
namespace Mp
open PySem PySem.Spec PyProof.Rows L2

/-! ## data -/
inductive Val where
  | non | bl (b : Bool) | int (i : Int) | str (x : Str) | tup (xs : List Val) | frz (xs : List Val) | ref (i : Nat) | ktp (xs : List Val)

inductive Ob where
  | lst (xs : List Val)
  | dk (kvs : List (Key × Val))
  | dt (kvs : List (List Key × Val))
  | ins (c : Str) (fs : List (Str × Val))
  | exo (c : Str) (fs : List (Str × Val))
abbrev Store := List Ob
abbrev En := List (Option Val)

inductive Out (α : Type) where
  | ok (x : α) (S : Store)
  | err (c : Str) (fs : List (Str × Val)) (S : Store)
  | bad
inductive Res where
  | nx (e : En) (S : Store)
  | rt (v : Val) (S : Store)
  | bk (e : En) (S : Store)
  | ct (e : En) (S : Store)
  | er (c : Str) (fs : List (Str × Val)) (e : En) (S : Store)
  | bad
def Out.bind {α β : Type} : Out α → (α → Store → Out β) → Out β
  | .ok x S, k => k x S
  | .err c fs S, _ => .err c fs S
  | .bad, _ => .bad
def Out.toS {α : Type} (env : En) : Out α → (α → Store → Res) → Res
  | .ok x S, k => k x S
  | .err c fs S, _ => .er c fs env S
  | .bad, _ => .bad

/-- what stands around: the classes by name, the error classes' values; a caught error: its slot, itself, its class, its dict, its fields -/
structure Sy where
  cl : Str → Option Addr
  er : Str → Option Value
  xi : Option (Nat × Addr × Value × Option Addr × List (Str × Val)) := none

/-! ## heaps -/
def Fx : HO → Prop
  | .tup _ => True
  | .frz _ _ => True
  | .xd _ => True
  | _ => False
def Ext (H H' : Hp) : Prop := ∀ a o, Fx o → H a = some o → H' a = some o
theorem Ext.refl (H : Hp) : Ext H H := fun _ _ _ h => h
theorem Ext.trans {H H1 H2 : Hp} (a : Ext H H1) (b : Ext H1 H2) : Ext H H2 := fun x o f h => b x o f (a x o f h)
theorem Ext.new {H : Hp} {p : Addr} {o : HO} (h : H p = none) : Ext H (upd H p o) := fun a u _ e => by
  rw [upd_ne (ne_of_none e h)]; exact e
theorem Ext.mut {H : Hp} {p : Addr} {o u : HO} (h : H p = some u) (nf : ¬ Fx u) : Ext H (upd H p o) := fun a v f e => by
  have : a ≠ p := fun z => by subst z; rw [h] at e; cases e; exact nf f
  rw [upd_ne this]; exact e
theorem Ext.rd {H H' : Hp} {a : Addr} {xs : List V} (e : Ext H H') (h : Rd H a (.tup xs)) : Rd H' a (.tup xs) := by
  rcases h with h | ⟨o, h⟩
  · exact .inl (e _ _ trivial h)
  · exact .inr ⟨o, e _ _ trivial h⟩
theorem Ext.sqt {K : PySem.W.Frag} {H H' : Hp} {a : Addr} {xs : List V} (e : Ext H H') (h : SqT K H a xs) : SqT K H' a xs := by
  rcases h with h | h
  · exact .inl (e.rd h)
  · exact .inr h
/-- a list that nobody writes -/
theorem ktSq {K : PySem.W.Frag} {H : Hp} {a : Addr} {xs : List V} (h : SqT K (fun _ => none) a xs) : SqT K H a xs := Ext.sqt (H := fun _ => none) (fun _ _ _ z => by cases z) h
def Fzl (K : PySem.W.Frag) (H : Hp) (a : Addr) (xs : List V) : Prop := (∃ o, H a = some (.frz o (.lst xs))) ∨ SqL K (fun _ => none) a xs
theorem Fzl.up {K : PySem.W.Frag} {H H' : Hp} {a : Addr} {xs : List V} (e : Ext H H') (h : Fzl K H a xs) : Fzl K H' a xs := by
  rcases h with ⟨o, h⟩ | h
  · exact .inl ⟨o, e _ _ trivial h⟩
  · exact .inr h
theorem Fzl.sq {K : PySem.W.Frag} {H : Hp} {a : Addr} {xs : List V} (h : Fzl K H a xs) : SqL K H a xs := by
  rcases h with ⟨o, h⟩ | (h | ⟨o, h⟩) | h
  · exact .inl (.inr ⟨o, h⟩)
  · cases h
  · cases h
  · exact .inr h
def Pre (ρ ρ' : List Addr) : Prop := ∀ (i : Nat) (a : Addr), ρ[i]? = some a → ρ'[i]? = some a
theorem Pre.refl (ρ : List Addr) : Pre ρ ρ := fun _ _ h => h
theorem Pre.trans {a b c : List Addr} (h : Pre a b) (k : Pre b c) : Pre a c := fun i x e => k i x (h i x e)
theorem Pre.snoc (ρ : List Addr) (p : Addr) : Pre ρ (ρ ++ [p]) := fun i a h => by
  rw [List.getElem?_append_left (List.getElem?_eq_some_iff.mp h).1]; exact h

/-! ## what stands for what -/
mutual
inductive Rep (K : PySem.W.Frag) (ρ : List Addr) (H : Hp) : V → Val → Prop
  | non : Rep K ρ H .non .non
  | bl (b : Bool) : Rep K ρ H (.bl b) (.bl b)
  | int (i : Int) : Rep K ρ H (.int i) (.int i)
  | str (x : Str) : Rep K ρ H (.str x) (.str x)
  | tup {a : Addr} {vs : List V} {xs : List Val} : H a = some (.tup vs) → Reps K ρ H vs xs → Rep K ρ H (.ref a) (.tup xs)
  | frz {a : Addr} {vs : List V} {xs : List Val} : Fzl K H a vs → Reps K ρ H vs xs → Rep K ρ H (.ref a) (.frz xs)
  | ref {a : Addr} {i : Nat} : ρ[i]? = some a → Rep K ρ H (.ref a) (.ref i)
  | ktp {a : Addr} {vs : List V} {xs : List Val} : SqT K (fun _ => none) a vs → Reps K ρ H vs xs → Rep K ρ H (.ref a) (.ktp xs)
inductive Reps (K : PySem.W.Frag) (ρ : List Addr) (H : Hp) : List V → List Val → Prop
  | nil : Reps K ρ H [] []
  | cons {v : V} {vs : List V} {x : Val} {xs : List Val} : Rep K ρ H v x → Reps K ρ H vs xs → Reps K ρ H (v :: vs) (x :: xs)
end
section
variable {K : PySem.W.Frag} {ρ ρ' : List Addr} {H H' : Hp}
mutual
theorem Rep.up (p : Pre ρ ρ') (e : Ext H H') : ∀ {v : V} {x : Val}, Rep K ρ H v x → Rep K ρ' H' v x
  | _, _, .non => .non
  | _, _, .bl b => .bl b
  | _, _, .int i => .int i
  | _, _, .str x => .str x
  | _, _, .tup h r => .tup (e _ _ trivial h) (Reps.up p e r)
  | _, _, .frz h r => .frz (h.up e) (Reps.up p e r)
  | _, _, .ref h => .ref (p _ _ h)
  | _, _, .ktp h r => .ktp h (Reps.up p e r)
theorem Reps.up (p : Pre ρ ρ') (e : Ext H H') : ∀ {vs : List V} {xs : List Val}, Reps K ρ H vs xs → Reps K ρ' H' vs xs
  | _, _, .nil => .nil
  | _, _, .cons h r => .cons (Rep.up p e h) (Reps.up p e r)
end
theorem Reps.length : ∀ {vs : List V} {xs : List Val}, Reps K ρ H vs xs → vs.length = xs.length
  | _, _, .nil => rfl
  | _, _, .cons _ r => congrArg (· + 1) (Reps.length r)
theorem Reps.get : ∀ {vs : List V} {xs : List Val} {i : Nat} {x : Val}, Reps K ρ H vs xs → xs[i]? = some x → ∃ v, vs[i]? = some v ∧ Rep K ρ H v x
  | _, _, _, _, .nil, h => by simp at h
  | _, _, 0, _, .cons h _, e => by simp at e; subst e; exact ⟨_, rfl, h⟩
  | _, _, i + 1, x, .cons _ r, e => by
    obtain ⟨v, h1, h2⟩ := Reps.get (i := i) (x := x) r (by simpa using e)
    exact ⟨v, by simpa using h1, h2⟩
theorem Reps.getV : ∀ {vs : List V} {xs : List Val} {i : Nat} {v : V}, Reps K ρ H vs xs → vs[i]? = some v → ∃ x, xs[i]? = some x ∧ Rep K ρ H v x
  | _, _, _, _, .nil, h => by simp at h
  | _, _, 0, _, .cons h _, e => by simp at e; subst e; exact ⟨_, rfl, h⟩
  | _, _, i + 1, v, .cons _ r, e => by
    obtain ⟨x, h1, h2⟩ := Reps.getV (i := i) (v := v) r (by simpa using e)
    exact ⟨x, by simpa using h1, h2⟩
theorem Reps.append : ∀ {vs ws : List V} {xs ys : List Val}, Reps K ρ H vs xs → Reps K ρ H ws ys → Reps K ρ H (vs ++ ws) (xs ++ ys)
  | _, _, _, _, .nil, s => s
  | _, _, _, _, .cons h r, s => .cons h (Reps.append r s)
theorem Reps.take : ∀ {vs : List V} {xs : List Val} (n : Nat), Reps K ρ H vs xs → Reps K ρ H (vs.take n) (xs.take n)
  | _, _, 0, _ => .nil
  | _, _, _ + 1, .nil => .nil
  | _, _, n + 1, .cons h r => .cons h (Reps.take n r)
theorem Reps.drop : ∀ {vs : List V} {xs : List Val} (n : Nat), Reps K ρ H vs xs → Reps K ρ H (vs.drop n) (xs.drop n)
  | _, _, 0, r => r
  | _, _, _ + 1, .nil => .nil
  | _, _, n + 1, .cons _ r => Reps.drop n r
theorem Reps.set {v : V} {x : Val} (h : Rep K ρ H v x) : ∀ {vs : List V} {xs : List Val} (i : Nat), Reps K ρ H vs xs → Reps K ρ H (vs.set i v) (xs.set i x)
  | _, _, _, .nil => .nil
  | _, _, 0, .cons _ r => .cons h r
  | _, _, i + 1, .cons g r => .cons g (Reps.set h i r)
theorem Reps.eraseIdx : ∀ {vs : List V} {xs : List Val} (i : Nat), Reps K ρ H vs xs → Reps K ρ H (vs.eraseIdx i) (xs.eraseIdx i)
  | _, _, _, .nil => .nil
  | _, _, 0, .cons _ r => r
  | _, _, i + 1, .cons g r => .cons g (Reps.eraseIdx i r)
theorem Reps.dropLast {vs : List V} {xs : List Val} (r : Reps K ρ H vs xs) : Reps K ρ H vs.dropLast xs.dropLast := by
  rw [List.dropLast_eq_take, List.dropLast_eq_take, r.length]; exact r.take _
end

/-- named values: a dict's pairs, an instance's fields -/
def RepK {κ : Type} (K : PySem.W.Frag) (ρ : List Addr) (H : Hp) : List (κ × V) → List (κ × Val) → Prop := Paired fun p q => p.1 = q.1 ∧ Rep K ρ H p.2 q.2
theorem RepK.up {κ : Type} {K : PySem.W.Frag} {ρ ρ' : List Addr} {H H' : Hp} (p : Pre ρ ρ') (e : Ext H H') : ∀ {vs : List (κ × V)} {xs : List (κ × Val)}, RepK K ρ H vs xs → RepK K ρ' H' vs xs
  | _, _, .nil => .nil
  | _, _, .cons h r => .cons ⟨h.1, h.2.up p e⟩ (RepK.up p e r)
theorem RepK.length {κ : Type} {K : PySem.W.Frag} {ρ : List Addr} {H : Hp} {vs : List (κ × V)} {xs : List (κ × Val)} (r : RepK K ρ H vs xs) : vs.length = xs.length := Paired.length r

/-- an own error's object at a, not raised; its fields -/
def exoL (H : Hp) (a C : Addr) (d : Option Addr) : Prop := H a = some (exo a C d) ∨ (d = none ∧ H a = some (ExO (.ref C) a))
def ErrF (K : PySem.W.Frag) (ρ : List Addr) (H : Hp) (d : Option Addr) (fs : List (Str × Val)) : Prop := (fs = [] ∧ d = none) ∨ ∃ dd gs, d = some dd ∧ H dd = some (.xd gs) ∧ RepK K ρ H gs fs
theorem ErrF.up {K : PySem.W.Frag} {ρ ρ' : List Addr} {H H' : Hp} {d : Option Addr} {fs : List (Str × Val)} (p : Pre ρ ρ') (e : Ext H H') (h : ErrF K ρ H d fs) : ErrF K ρ' H' d fs :=
  h.elim .inl fun ⟨dd, gs, z, h3, h4⟩ => .inr ⟨dd, gs, z, e _ _ trivial h3, h4.up p e⟩
theorem exo_fx {e C : Addr} {d : Option Addr} : ¬ Fx (exo e C d) := fun z => by
  have z' : Fx (HO.ext _) := z
  exact z'
theorem ExO_fx {a : Addr} {cls : Value} : ¬ Fx (ExO cls a) := fun z => by
  have z' : Fx (HO.ext _) := z
  exact z'
def ObRep (K : PySem.W.Frag) (Y : Sy) (ρ : List Addr) (H : Hp) (a : Addr) : Ob → Prop
  | .lst xs => ∃ vs, H a = some (.lst vs) ∧ Reps K ρ H vs xs
  | .dk kvs => ∃ ws, H a = some (.dK ws) ∧ RepK K ρ H ws kvs
  | .dt kvs => ∃ ws, H a = some (.dT ws) ∧ RepK K ρ H ws kvs
  | .ins c fs => ∃ C dx gs, Y.cl c = some C ∧ H a = some (.ins C dx gs) ∧ RepK K ρ H gs fs
  | .exo c fs => ∃ C d, Y.er c = some (.ref C) ∧ exoL H a C d ∧ ErrF K ρ H d fs
/-- an object of the store stands at a, not fixed -/
theorem ObRep.at {K : PySem.W.Frag} {Y : Sy} {ρ : List Addr} {H : Hp} {a : Addr} {o : Ob} (h : ObRep K Y ρ H a o) : ∃ u, H a = some u ∧ ¬ Fx u := by
  cases o with
  | lst xs => obtain ⟨vs, e, _⟩ := h; exact ⟨_, e, fun z => z⟩
  | dk kvs => obtain ⟨vs, e, _⟩ := h; exact ⟨_, e, fun z => z⟩
  | dt kvs => obtain ⟨vs, e, _⟩ := h; exact ⟨_, e, fun z => z⟩
  | ins c fs => obtain ⟨C, dx, gs, _, e, _⟩ := h; exact ⟨_, e, fun z => z⟩
  | exo c fs =>
    obtain ⟨C, d, _, e | ⟨_, e⟩, _⟩ := h
    · exact ⟨_, e, exo_fx⟩
    · exact ⟨_, e, ExO_fx⟩
theorem ObRep.up {K : PySem.W.Frag} {Y : Sy} {ρ ρ' : List Addr} {H H' : Hp} {a : Addr} {o : Ob} (p : Pre ρ ρ') (e : Ext H H') (k : H' a = H a) (h : ObRep K Y ρ H a o) : ObRep K Y ρ' H' a o := by
  cases o with
  | lst xs => obtain ⟨vs, q, r⟩ := h; exact ⟨vs, k.trans q, r.up p e⟩
  | dk kvs => obtain ⟨vs, q, r⟩ := h; exact ⟨vs, k.trans q, r.up p e⟩
  | dt kvs => obtain ⟨vs, q, r⟩ := h; exact ⟨vs, k.trans q, r.up p e⟩
  | ins c fs => obtain ⟨C, dx, gs, hc, q, r⟩ := h; exact ⟨C, dx, gs, hc, k.trans q, r.up p e⟩
  | exo c fs =>
    obtain ⟨C, d, hc, q, r⟩ := h
    exact ⟨C, d, hc, q.imp (fun z => k.trans z) (fun z => ⟨z.1, k.trans z.2⟩), r.up p e⟩
structure Sim (K : PySem.W.Frag) (Y : Sy) (ρ : List Addr) (H : Hp) (S : Store) : Prop where
  len : ρ.length = S.length
  nd : ρ.Nodup
  ob : ∀ (i : Nat) (a : Addr) (o : Ob), ρ[i]? = some a → S[i]? = some o → ObRep K Y ρ H a o
section
variable {K : PySem.W.Frag} {Y : Sy} {ρ ρ' : List Addr} {H H' : Hp} {S : Store}
theorem Sim.at_ (s : Sim K Y ρ H S) {i : Nat} {o : Ob} (h : S[i]? = some o) : ∃ a, ρ[i]? = some a ∧ ObRep K Y ρ H a o := by
  have hi : i < ρ.length := by rw [s.len]; exact (List.getElem?_eq_some_iff.mp h).1
  exact ⟨ρ[i], List.getElem?_eq_getElem hi, s.ob i _ o (List.getElem?_eq_getElem hi) h⟩
theorem Sim.mem (s : Sim K Y ρ H S) {a : Addr} (h : a ∈ ρ) : ∃ u, H a = some u ∧ ¬ Fx u := by
  obtain ⟨i, hi, e⟩ := List.getElem_of_mem h
  have hS : i < S.length := by rw [← s.len]; exact hi
  exact (s.ob i a S[i] (by rw [List.getElem?_eq_getElem hi, e]) (List.getElem?_eq_getElem hS)).at
theorem Sim.fresh (s : Sim K Y ρ H S) {p : Addr} (h : H p = none) : p ∉ ρ := fun hm => by
  obtain ⟨u, e, _⟩ := s.mem hm
  rw [h] at e; cases e
/-- nothing of the store is touched -/
theorem Sim.keep (s : Sim K Y ρ H S) (e : Ext H H') (k : ∀ a ∈ ρ, H' a = H a) : Sim K Y ρ H' S :=
  ⟨s.len, s.nd, fun i a o h1 h2 => (s.ob i a o h1 h2).up (Pre.refl ρ) e (k a (List.mem_of_getElem? h1))⟩
/-- a thing that is none of the store is laid -/
theorem Sim.other (s : Sim K Y ρ H S) {p : Addr} {o : HO} (h : H p = none) : Sim K Y ρ (upd H p o) S :=
  s.keep (Ext.new h) fun a ha => upd_ne fun z => s.fresh h (z ▸ ha)
theorem Sim.new (s : Sim K Y ρ H S) {p : Addr} {u : HO} {o : Ob} (h : H p = none) (r : ObRep K Y (ρ ++ [p]) (upd H p u) p o) : Sim K Y (ρ ++ [p]) (upd H p u) (S ++ [o]) := by
  refine ⟨by simp [s.len], ?_, fun i a q h1 h2 => ?_⟩
  · rw [List.nodup_append]
    exact ⟨s.nd, by simp, fun a ha b hb z => by simp at hb; subst hb; subst z; exact s.fresh h ha⟩
  · by_cases hi : i < ρ.length
    · rw [List.getElem?_append_left hi] at h1
      rw [List.getElem?_append_left (by rw [← s.len]; exact hi)] at h2
      exact (s.ob i a q h1 h2).up (Pre.snoc ρ p) (Ext.new h) (upd_ne fun z => s.fresh h (z ▸ List.mem_of_getElem? h1))
    · have hl := s.len
      have e : i = ρ.length := by
        have := (List.getElem?_eq_some_iff.mp h1).1
        simp at this
        omega
      subst e
      rw [List.getElem?_append_right (Nat.le_refl _)] at h1
      rw [List.getElem?_append_right (by omega)] at h2
      simp at h1
      rw [hl] at h2
      simp at h2
      subst h1; subst h2
      exact r
theorem Sim.put (s : Sim K Y ρ H S) {i : Nat} {a : Addr} {u : HO} {o : Ob} (h : ρ[i]? = some a) (r : ObRep K Y ρ (upd H a u) a o) : Ext H (upd H a u) ∧ Sim K Y ρ (upd H a u) (S.set i o) := by
  obtain ⟨u0, e0, nf⟩ := s.mem (List.mem_of_getElem? h)
  have e : Ext H (upd H a u) := Ext.mut e0 nf
  refine ⟨e, by simp [s.len], s.nd, fun j b q h1 h2 => ?_⟩
  by_cases hj : j = i
  · subst hj
    rw [h] at h1; cases h1
    have hl : j < S.length := by rw [← s.len]; exact (List.getElem?_eq_some_iff.mp h).1
    rw [List.getElem?_set_self hl] at h2
    cases h2
    exact r
  · rw [List.getElem?_set_ne (Ne.symm hj)] at h2
    refine (s.ob j b q h1 h2).up (Pre.refl ρ) e (upd_ne fun z => hj ?_)
    subst z
    obtain ⟨l1, e1⟩ := List.getElem?_eq_some_iff.mp h1
    obtain ⟨l2, e2⟩ := List.getElem?_eq_some_iff.mp h
    exact (List.getElem_inj s.nd).mp (e1.trans e2.symm)
end

/-! ## slots -/
structure ERep (K : PySem.W.Frag) (Y : Sy) (ρ : List Addr) (H : Hp) (σ : L2.St) (env : En) : Prop where
  len : σ.length = env.length
  at_ : ∀ (i : Nat) (x : Val), env[i]? = some (some x) → ∃ v, σ[i]? = some (some v) ∧ Rep K ρ H v x
  xi : ∀ (n : Nat) (a : Addr) (cv : Value) (d : Option Addr) (fs : List (Str × Val)), Y.xi = some (n, a, cv, d, fs) → σ[n]? = some (some (.ref a)) ∧ ((fs = [] ∧ d = none) ∨ ∃ dd gs, d = some dd ∧ H dd = some (.xd gs) ∧ RepK K ρ H gs fs)
section
variable {K : PySem.W.Frag} {Y : Sy} {ρ ρ' : List Addr} {H H' : Hp} {σ : L2.St} {env : En}
theorem ERep.up (p : Pre ρ ρ') (e : Ext H H') (h : ERep K Y ρ H σ env) : ERep K Y ρ' H' σ env :=
  ⟨h.len, fun i x q => let ⟨v, a, r⟩ := h.at_ i x q; ⟨v, a, r.up p e⟩, fun n a cv d fs q => let ⟨h1, h2⟩ := h.xi n a cv d fs q; ⟨h1, h2.elim .inl fun ⟨dd, gs, z, h3, h4⟩ => .inr ⟨dd, gs, z, e _ _ trivial h3, h4.up p e⟩⟩⟩
theorem ERep.set (h : ERep K Y ρ H σ env) {i : Nat} {v : V} {x : Val} (r : Rep K ρ H v x) (hx : Y.xi = none) : ERep K Y ρ H (σ.set i (some v)) (env.set i (some x)) := by
  refine ⟨by simp [h.len], fun j y q => ?_, fun n a cv d fs q => by rw [hx] at q; cases q⟩
  by_cases hj : j = i
  · subst hj
    have hl : j < env.length := by
      have := (List.getElem?_eq_some_iff.mp q).1
      simpa using this
    rw [List.getElem?_set_self hl] at q
    cases q
    exact ⟨v, List.getElem?_set_self (by rw [h.len]; exact hl), r⟩
  · rw [List.getElem?_set_ne (Ne.symm hj)] at q
    obtain ⟨w, a, r'⟩ := h.at_ j y q
    exact ⟨w, by rw [List.getElem?_set_ne (Ne.symm hj)]; exact a, r'⟩
end

/-! ## errors -/
def ErrRep (K : PySem.W.Frag) (Y : Sy) (ρ : List Addr) (H : Hp) (cls : Value) (d : Option Addr) (c : Str) (fs : List (Str × Val)) : Prop :=
  Y.er c = some cls ∧ ((fs = [] ∧ d = none) ∨ ∃ dd gs, d = some dd ∧ H dd = some (.xd gs) ∧ RepK K ρ H gs fs)

/-! ## what is wanted of an outcome -/
section
variable {α β γ δ : Type} {K : PySem.W.Frag} {Y : Sy} {W : WX}
abbrev RR (β α : Type) := List Addr → Hp → β → α → Prop
def Post (K : PySem.W.Frag) (Y : Sy) (W : Value → Option Addr → Hp → Prop) (ρ : List Addr) (H : Hp) (R : RR β α) (Q : β → Hp → Prop) : Out α → Prop
  | .ok x S => ∀ v ρ' H', Pre ρ ρ' → Ext H H' → Sim K Y ρ' H' S → R ρ' H' v x → Q v H'
  | .err c fs S => ∀ cls d ρ' H', Pre ρ ρ' → Ext H H' → Sim K Y ρ' H' S → ErrRep K Y ρ' H' cls d c fs → W cls d H'
  | .bad => False
theorem Post.up {W : Value → Option Addr → Hp → Prop} {ρ ρ' : List Addr} {H H' : Hp} {R : RR β α} {Q : β → Hp → Prop} {o : Out α} (p : Pre ρ ρ') (e : Ext H H') (h : Post K Y W ρ H R Q o) : Post K Y W ρ' H' R Q o := by
  cases o with
  | ok x S => exact fun v ρ2 H2 p2 e2 s r => h v ρ2 H2 (p.trans p2) (e.trans e2) s r
  | err c fs S => exact fun cls d ρ2 H2 p2 e2 s r => h cls d ρ2 H2 (p.trans p2) (e.trans e2) s r
  | bad => exact h
abbrev RV (K : PySem.W.Frag) : RR V Val := fun ρ H v x => Rep K ρ H v x
abbrev RL (K : PySem.W.Frag) : RR (List V) (List Val) := fun ρ H v x => Reps K ρ H v x
abbrev RB : RR Bool Bool := fun _ _ v x => v = x
/-- the reading of f -/
def tG (K : PySem.W.Frag) (Y : Sy) (W : WX) (R : RR β α) (f : En → Store → Out α) : L2.St → Hp → (β → Hp → Prop) → Prop := fun σ H Q =>
  ∃ ρ env S, ERep K Y ρ H σ env ∧ Sim K Y ρ H S ∧ Post K Y (fun cls d H' => W cls d σ H') ρ H R Q (f env S)
/-- first f, then what hangs on it -/
theorem tG.bind {R : RR β α} {R' : RR δ γ} {f : En → Store → Out α} {k : En → α → Store → Out γ} {σ : L2.St} {H : Hp} {Q : δ → Hp → Prop} {Q' : β → Hp → Prop}
    (h : tG K Y W R' (fun env S => (f env S).bind (k env)) σ H Q)
    (q : ∀ ρ env v x H1 S1, ERep K Y ρ H1 σ env → Sim K Y ρ H1 S1 → R ρ H1 v x → Post K Y (fun cls d H' => W cls d σ H') ρ H1 R' Q (k env x S1) → Q' v H1) : tG K Y W R f σ H Q' := by
  obtain ⟨ρ, env, S, he, hs, h⟩ := h
  refine ⟨ρ, env, S, he, hs, ?_⟩
  dsimp only at h
  generalize f env S = o at h
  cases o with
  | ok x S1 =>
    intro v ρ1 H1 p e s r
    exact q ρ1 env v x H1 S1 (he.up p e) s r (Post.up p e h)
  | err c fs S1 => exact h
  | bad => exact h
/-- the same where σ, env, .. stand already -/
theorem tG.go {R : RR β α} {R' : RR δ γ} {f : En → Store → Out α} {k : α → Store → Out γ} {σ : L2.St} {H : Hp} {ρ : List Addr} {env : En} {S : Store} {Q : δ → Hp → Prop} {Q' : β → Hp → Prop} (he : ERep K Y ρ H σ env) (hs : Sim K Y ρ H S)
    (h : Post K Y (fun cls d H' => W cls d σ H') ρ H R' Q ((f env S).bind k))
    (q : ∀ ρ1 v x H1 S1, Pre ρ ρ1 → Ext H H1 → ERep K Y ρ1 H1 σ env → Sim K Y ρ1 H1 S1 → R ρ1 H1 v x → Post K Y (fun cls d H' => W cls d σ H') ρ1 H1 R' Q (k x S1) → Q' v H1) : tG K Y W R f σ H Q' := by
  refine ⟨ρ, env, S, he, hs, ?_⟩
  generalize f env S = o at h
  cases o with
  | ok x S1 =>
    intro v ρ1 H1 p e s r
    exact q ρ1 v x H1 S1 p e (he.up p e) s r (Post.up p e h)
  | err c fs S1 => exact h
  | bad => exact h
theorem tG.mono {R : RR β α} {f : En → Store → Out α} {σ : L2.St} {H : Hp} {Q Q' : β → Hp → Prop} (h : tG K Y W R f σ H Q) (q : ∀ v H', Q v H' → Q' v H') : tG K Y W R f σ H Q' := by
  obtain ⟨ρ, env, S, he, hs, h⟩ := h
  refine ⟨ρ, env, S, he, hs, ?_⟩
  generalize f env S = o at h
  cases o with
  | ok x S1 => exact fun v ρ1 H1 p e s r => q _ _ (h v ρ1 H1 p e s r)
  | err c fs S1 => exact h
  | bad => exact h
end

/-! ## judgements -/
def SE (X : Cx) (Y : Sy) (W : WX) (e : Expr) (f : En → Store → Out Val) : Prop := PE X e (tG X.K Y W (RV X.K) f)
def ST (X : Cx) (Y : Sy) (W : WX) (e : Expr) (f : En → Store → Out Bool) : Prop := PT X e (tG X.K Y W RB f)
def SA (X : Cx) (Y : Sy) (W : WX) (es : List Expr) (f : En → Store → Out (List Val)) : Prop := PA X es (tG X.K Y W (RL X.K) f)
theorem PE.imp {X : Cx} {e : Expr} {t t' : TE} (h : PE X e t) (k : ∀ σ H Q, t' σ H Q → t σ H Q) : PE X e t' := ⟨fun pins s σ H Q I q => h.run pins s σ H Q I (k σ H Q q)⟩
theorem PT.imp {X : Cx} {e : Expr} {t t' : TT} (h : PT X e t) (k : ∀ σ H Q, t' σ H Q → t σ H Q) : PT X e t' := ⟨fun pins s σ H Q I q => h.run pins s σ H Q I (k σ H Q q)⟩
theorem PA.imp {X : Cx} {e : List Expr} {t t' : TA} (h : PA X e t) (k : ∀ σ H Q, t' σ H Q → t σ H Q) : PA X e t' := ⟨fun pos pins s σ H Q I q => h.run pos pins s σ H Q I (k σ H Q q)⟩
theorem PS.imp {X : Cx} {e : Stmt} {t t' : TS} (h : PS X e t) (k : ∀ D σ H, t' D σ H → t D σ H) : PS X e t' := ⟨fun pins s σ H D I q => h.run pins s σ H D I (k D σ H q)⟩
theorem PSs.imp {X : Cx} {e : List Stmt} {t t' : TS} (h : PSs X e t) (k : ∀ D σ H, t' D σ H → t D σ H) : PSs X e t' := ⟨fun pins s σ H D I q => h.run pins s σ H D I (k D σ H q)⟩

/-! ## expressions -/
def eV (i : Nat) : En → Store → Out Val := fun env S => match env[i]? with
  | some (some x) => .ok x S
  | _ => .bad
def eC (x : Val) : En → Store → Out Val := fun _ S => .ok x S
section
variable {X : Cx} {Y : Sy} {W : WX}
theorem se_v (i : Nat) {x : Str} {pos : Pos} (hN : X.N[i]? = some x := by rfl) (hv : Vis X.env.scope x := by first | exact Or.inl rfl | exact Or.inr (Or.inl rfl) | exact Or.inr (Or.inr rfl)) (hd : (x == ("__debug__" : Str)) = false := by decide)
    (hcd : (x == ("__classdict__" : Str)) = false := by decide) : SE X Y W (.Name x pos) (eV i) := by
  refine PE.imp (pe_var hN hv hd hcd) fun σ H Q h => ?_
  obtain ⟨ρ, env, S, he, hs, h⟩ := h
  unfold eV at h
  split at h
  · rename_i x hx
    obtain ⟨v, e, r⟩ := he.at_ i x hx
    exact ⟨v, e, h v ρ H (Pre.refl _) (Ext.refl _) hs r⟩
  · exact h.elim
theorem se_c {e : Expr} {v : V} {x : Val} (h : PE X e (tC v)) (r : ∀ ρ H, Rep X.K ρ H v x) : SE X Y W e (eC x) := by
  refine PE.imp h fun σ H Q h => ?_
  obtain ⟨ρ, env, S, he, hs, h⟩ := h
  exact h v ρ H (Pre.refl _) (Ext.refl _) hs (r ρ H)
theorem se_int {i j pos} : SE X Y W (.Constant (.int i) j pos) (eC (.int i)) := se_c pe_int fun _ _ => .int i
theorem se_bl {b j pos} : SE X Y W (.Constant (.bool b) j pos) (eC (.bl b)) := se_c pe_bl fun _ _ => .bl b
theorem se_non {j pos} : SE X Y W (.Constant .none j pos) (eC .non) := se_c pe_non fun _ _ => .non
theorem se_str {x j pos} : SE X Y W (.Constant (.str x) j pos) (eC (.str x)) := se_c pe_str fun _ _ => .str x

/-! ### operators -/
abbrev BOp := Val → Val → Store → Out Val
def eB2 (op : BOp) (a b : En → Store → Out Val) : En → Store → Out Val := fun env S => (a env S).bind fun x S1 => (b env S1).bind fun y S2 => op x y S2
def OpS (X : Cx) (Y : Sy) (r : R2) (op : BOp) : Prop := ∀ (W' : Value → Option Addr → Hp → Prop) (ρ : List Addr) (H : Hp) (S : Store) (v w : V) (x y : Val) (Q : VK), Sim X.K Y ρ H S → Rep X.K ρ H v x → Rep X.K ρ H w y → Post X.K Y W' ρ H (RV X.K) Q (op x y S) → r v w H Q
theorem tOp_of {r : R2} {op : BOp} (ho : OpS X Y r op) {fa fb : En → Store → Out Val} {σ : L2.St} {H : Hp} {Q : VK} (h : tG X.K Y W (RV X.K) (eB2 op fa fb) σ H Q) : tOp r (tG X.K Y W (RV X.K) fa) (tG X.K Y W (RV X.K) fb) σ H Q := by
  refine tG.bind (k := fun env x S1 => (fb env S1).bind fun y S2 => op x y S2) h fun ρ env v x H1 S1 he hs rx hp => ?_
  refine tG.go he hs hp fun ρ2 w y H2 S2 p2 e2 he2 hs2 ry hp2 => ?_
  exact ho _ ρ2 H2 S2 v w x y Q hs2 (rx.up p2 e2) ry hp2
theorem se_op {op : Operator} {r : R2} {g : BOp} {a b : Expr} {fa fb : En → Store → Out Val} {pos : Pos} (hr : OpR X (binaryOp op) r) (ho : OpS X Y r g) (ha : SE X Y W a fa) (hb : SE X Y W b fb) : SE X Y W (.BinOp a op b pos) (eB2 g fa fb) :=
  PE.imp (pe_op hr ha hb) fun _ _ _ h => tOp_of ho h
theorem se_cmp {op : CmpOp} {r : R2} {g : BOp} {a b : Expr} {fa fb : En → Store → Out Val} {pos : Pos} (hr : OpR X (compareOp op) r) (ho : OpS X Y r g) (ha : SE X Y W a fa) (hb : SE X Y W b fb) (hm : behindInMarks op b = false) : SE X Y W (.Compare a [op] [b] pos) (eB2 g fa fb) :=
  PE.imp (pe_cmpR hr ha hb hm) fun _ _ _ h => tOp_of ho h
/-- a value that is a flag, as a test -/
def toB : Val → Store → Out Bool
  | .bl b, S => .ok b S
  | _, _ => .bad
def bV (f : En → Store → Out Val) : En → Store → Out Bool := fun env S => (f env S).bind toB
theorem tTest_of {t : TE} {f : En → Store → Out Val} {σ : L2.St} {H : Hp} {Q : Bool → Hp → Prop} (ht : ∀ Q', tG X.K Y W (RV X.K) f σ H Q' → t σ H Q') (h : tG X.K Y W RB (bV f) σ H Q) : tTest t σ H Q := by
  refine ht _ (tG.bind (k := fun _ => toB) h fun ρ env v x H1 S1 he hs rx hp => ?_)
  cases rx <;> first | exact hp.elim | skip
  rename_i b
  exact ⟨b, rfl, hp b ρ H1 (Pre.refl _) (Ext.refl _) hs rfl⟩
theorem st_cmp {op : CmpOp} {r : R2} {g : BOp} {a b : Expr} {fa fb : En → Store → Out Val} {pos : Pos} (hr : OpR X (compareOp op) r) (ho : OpS X Y r g) (ha : SE X Y W a fa) (hb : SE X Y W b fb) (hm : behindInMarks op b = false) : ST X Y W (.Compare a [op] [b] pos) (bV (eB2 g fa fb)) :=
  PT.imp (pt_cmpR hr ha hb hm) fun _ _ _ h => tTest_of (fun _ q => tOp_of ho q) h
theorem st_val {e : Expr} {f : En → Store → Out Val} (h : SE X Y W e f) (he : ∀ whole, isTrue e X.env whole = (do let v ← whole; standAt e.pos; holding [v] (truthy v)) := by intro _; rfl) : ST X Y W e (bV f) :=
  PT.imp (pt_val h he) fun _ _ _ q => tTest_of (fun _ z => z) q

/-! ### and, or, not -/
def bAnd (a b : En → Store → Out Bool) : En → Store → Out Bool := fun env S => (a env S).bind fun x S1 => if x = true then b env S1 else .ok false S1
def bOr (a b : En → Store → Out Bool) : En → Store → Out Bool := fun env S => (a env S).bind fun x S1 => if x = true then .ok true S1 else b env S1
def bNot (a : En → Store → Out Bool) : En → Store → Out Bool := fun env S => (a env S).bind fun x S1 => .ok (!x) S1
def SW (X : Cx) (Y : Sy) (W : WX) (e : Expr) (f : En → Store → Out Bool) : Prop := PW X e (tG X.K Y W RB f)
theorem PW.imp {X : Cx} {e : Expr} {t t' : TT} (h : PW X e t) (k : ∀ σ H Q, t' σ H Q → t σ H Q) : PW X e t' := ⟨fun wh pins s σ H Q I q => h.run wh pins s σ H Q I (k σ H Q q)⟩
theorem SW.st {e : Expr} {f : En → Store → Out Bool} (h : SW X Y W e f) : ST X Y W e f := PW.pt h
variable {a b : Expr} {rest : List Expr} {pos : Pos} {fa fb : En → Store → Out Bool}
theorem sw_and1 (ha : ST X Y W a fa) : SW X Y W (.BoolOp .And [a] pos) fa := pw_and1 ha
theorem sw_or1 (ha : ST X Y W a fa) : SW X Y W (.BoolOp .Or [a] pos) fa := pw_or1 ha
theorem sw_and (ha : ST X Y W a fa) (hb : SW X Y W (.BoolOp .And (b :: rest) pos) fb) : SW X Y W (.BoolOp .And (a :: b :: rest) pos) (bAnd fa fb) := by
  refine PW.imp (pw_and ha hb) fun σ H Q h => ?_
  refine tG.bind (k := fun env x S1 => if x = true then fb env S1 else .ok false S1) h fun ρ env v x H1 S1 he hs rx hp => ?_
  subst rx
  cases v with
  | true => exact ⟨ρ, env, S1, he, hs, hp⟩
  | false => exact hp false ρ H1 (Pre.refl _) (Ext.refl _) hs rfl
theorem sw_or (ha : ST X Y W a fa) (hb : SW X Y W (.BoolOp .Or (b :: rest) pos) fb) : SW X Y W (.BoolOp .Or (a :: b :: rest) pos) (bOr fa fb) := by
  refine PW.imp (pw_or ha hb) fun σ H Q h => ?_
  refine tG.bind (k := fun env x S1 => if x = true then .ok true S1 else fb env S1) h fun ρ env v x H1 S1 he hs rx hp => ?_
  subst rx
  cases v with
  | true => exact hp true ρ H1 (Pre.refl _) (Ext.refl _) hs rfl
  | false => exact ⟨ρ, env, S1, he, hs, hp⟩
theorem st_not (ha : ST X Y W a fa) : ST X Y W (.UnaryOp .Not a pos) (bNot fa) := by
  refine PT.imp (pt_not ha) fun σ H Q h => ?_
  refine tG.bind (k := fun env x S1 => .ok (!x) S1) h fun ρ env v x H1 S1 he hs rx hp => ?_
  subst rx
  exact hp _ ρ H1 (Pre.refl _) (Ext.refl _) hs rfl
/-- .. as values -/
def eAnd (a b : En → Store → Out Val) : En → Store → Out Val := fun env S => (a env S).bind fun x S1 => match x with
  | .bl true => b env S1
  | .bl false => .ok (.bl false) S1
  | _ => .bad
def eOr (a b : En → Store → Out Val) : En → Store → Out Val := fun env S => (a env S).bind fun x S1 => match x with
  | .bl true => .ok (.bl true) S1
  | .bl false => b env S1
  | _ => .bad
def eNot (a : En → Store → Out Val) : En → Store → Out Val := fun env S => (a env S).bind fun x S1 => match x with
  | .bl c => .ok (.bl (!c)) S1
  | _ => .bad
variable {ga gb : En → Store → Out Val}
theorem se_one {op} (h : SE X Y W a ga) : SE X Y W (.BoolOp op [a] pos) ga := pe_one h
theorem se_and (ha : SE X Y W a ga) (hb : SE X Y W (.BoolOp .And (b :: rest) pos) gb) : SE X Y W (.BoolOp .And (a :: b :: rest) pos) (eAnd ga gb) := by
  refine PE.imp (pe_and ha hb) fun σ H Q h => ?_
  refine tG.bind (k := fun env x S1 => match x with | .bl true => gb env S1 | .bl false => .ok (.bl false) S1 | _ => .bad) h fun ρ env v x H1 S1 he hs rx hp => ?_
  cases rx <;> first | exact hp.elim | skip
  rename_i c
  refine ⟨c, rfl, ?_⟩
  cases c with
  | true => exact ⟨ρ, env, S1, he, hs, hp⟩
  | false => exact hp _ ρ H1 (Pre.refl _) (Ext.refl _) hs (.bl false)
theorem se_or (ha : SE X Y W a ga) (hb : SE X Y W (.BoolOp .Or (b :: rest) pos) gb) : SE X Y W (.BoolOp .Or (a :: b :: rest) pos) (eOr ga gb) := by
  refine PE.imp (pe_or ha hb) fun σ H Q h => ?_
  refine tG.bind (k := fun env x S1 => match x with | .bl true => .ok (.bl true) S1 | .bl false => gb env S1 | _ => .bad) h fun ρ env v x H1 S1 he hs rx hp => ?_
  cases rx <;> first | exact hp.elim | skip
  rename_i c
  refine ⟨c, rfl, ?_⟩
  cases c with
  | true => exact hp _ ρ H1 (Pre.refl _) (Ext.refl _) hs (.bl true)
  | false => exact ⟨ρ, env, S1, he, hs, hp⟩
theorem se_not (ha : SE X Y W a ga) : SE X Y W (.UnaryOp .Not a pos) (eNot ga) := by
  refine PE.imp (pe_not ha) fun σ H Q h => ?_
  refine tG.bind (k := fun env x S1 => match x with | .bl c => Out.ok (Val.bl (!c)) S1 | _ => Out.bad) h fun ρ env v x H1 S1 he hs rx hp => ?_
  cases rx <;> first | exact hp.elim | skip
  rename_i c
  exact ⟨c, rfl, hp _ ρ H1 (Pre.refl _) (Ext.refl _) hs (.bl _)⟩
def eIf (c : En → Store → Out Bool) (a b : En → Store → Out Val) : En → Store → Out Val := fun env S => (c env S).bind fun x S1 => if x = true then a env S1 else b env S1
theorem se_if {c : Expr} {fc : En → Store → Out Bool} (hc : ST X Y W c fc) (ha : SE X Y W a ga) (hb : SE X Y W b gb) : SE X Y W (.IfExp c a b pos) (eIf fc ga gb) := by
  refine PE.imp (pe_ifExp hc ha hb) fun σ H Q h => ?_
  refine tG.bind (k := fun env x S1 => if x = true then ga env S1 else gb env S1) h fun ρ env v x H1 S1 he hs rx hp => ?_
  subst rx
  cases v with
  | true => exact ⟨ρ, env, S1, he, hs, hp⟩
  | false => exact ⟨ρ, env, S1, he, hs, hp⟩

/-! ### argument lists, displays -/
def aNil : En → Store → Out (List Val) := fun _ S => .ok [] S
def aCons (f : En → Store → Out Val) (r : En → Store → Out (List Val)) : En → Store → Out (List Val) := fun env S => (f env S).bind fun x S1 => (r env S1).bind fun xs S2 => .ok (x :: xs) S2
theorem sa_nil : SA X Y W [] aNil := by
  refine PA.imp pa_nil fun σ H Q h => ?_
  obtain ⟨ρ, env, S, he, hs, h⟩ := h
  exact h [] ρ H (Pre.refl _) (Ext.refl _) hs .nil
theorem sa_cons {e : Expr} {es : List Expr} {f : En → Store → Out Val} {r : En → Store → Out (List Val)} (ha : SE X Y W e f) (hr : SA X Y W es r) (hs : starEach (e :: es) X.env = (false, eval e X.env) :: starEach es X.env := by rfl) : SA X Y W (e :: es) (aCons f r) := by
  refine PA.imp (pa_cons ha hr hs) fun σ H Q h => ?_
  refine tG.bind (k := fun env x S1 => (r env S1).bind fun xs S2 => .ok (x :: xs) S2) h fun ρ env v x H1 S1 he hs rx hp => ?_
  refine tG.go he hs hp fun ρ2 ws ys H2 S2 p2 e2 he2 hs2 ry hp2 => ?_
  exact hp2 _ ρ2 H2 (Pre.refl _) (Ext.refl _) hs2 (.cons (rx.up p2 e2) ry)
/-- the longest list that is made here -/
def LIM : Nat := 100000
theorem lim_le {n : Nat} (h : n ≤ LIM) : n ≤ sizeLine := Nat.le_trans h (by decide)
theorem lim_lt {n : Nat} (h : n < LIM) : n < sizeLine := Nat.lt_of_lt_of_le h (by decide)
def eTup (r : En → Store → Out (List Val)) : En → Store → Out Val := fun env S => (r env S).bind fun xs S1 => if xs.length ≤ LIM then .ok (.tup xs) S1 else .bad
def eLst (r : En → Store → Out (List Val)) : En → Store → Out Val := fun env S => (r env S).bind fun xs S1 => if xs.length ≤ LIM then .ok (.ref S1.length) (S1 ++ [.lst xs]) else .bad
theorem rep_new {K : PySem.W.Frag} {ρ : List Addr} {H : Hp} {p : Addr} {n : Nat} (h : n = ρ.length) : Rep K (ρ ++ [p]) H (.ref p) (.ref n) := .ref (by rw [h]; simp)
theorem se_tup {x1} {es : List Expr} {r : En → Store → Out (List Val)} (h : SA X Y W es r) : SE X Y W (.Tuple es x1 pos) (eTup r) := by
  refine PE.imp (pe_tup h) fun σ H Q h => ?_
  refine tG.bind (k := fun env xs S1 => if xs.length ≤ LIM then Out.ok (Val.tup xs) S1 else Out.bad) h fun ρ env vs xs H1 S1 he hs rx hp => ?_
  split at hp
  · rename_i hl
    refine ⟨by rw [rx.length]; exact lim_le hl, fun p hn => ?_⟩
    exact hp _ ρ _ (Pre.refl _) (Ext.new hn) (hs.other hn) (.tup upd_same (rx.up (Pre.refl _) (Ext.new hn)))
  · exact hp.elim
theorem se_lst {es : List Expr} {r : En → Store → Out (List Val)} (h : SA X Y W es r) : SE X Y W (.List es pos) (eLst r) := by
  refine PE.imp (pe_lst h) fun σ H Q h => ?_
  refine tG.bind (k := fun env xs S1 => if xs.length ≤ LIM then Out.ok (Val.ref S1.length) (S1 ++ [.lst xs]) else Out.bad) h fun ρ env vs xs H1 S1 he hs rx hp => ?_
  split at hp
  · rename_i hl
    refine ⟨by rw [rx.length]; exact lim_le hl, fun p hn => ?_⟩
    exact hp _ (ρ ++ [p]) _ (Pre.snoc _ _) (Ext.new hn) (hs.new hn ⟨vs, upd_same, rx.up (Pre.snoc _ _) (Ext.new hn)⟩) (rep_new hs.len.symm)
  · exact hp.elim
/-- {} with int and text keys | with tuple keys -/
def eDk : En → Store → Out Val := fun _ S => .ok (.ref S.length) (S ++ [.dk []])
def eDt : En → Store → Out Val := fun _ S => .ok (.ref S.length) (S ++ [.dt []])
theorem se_dk : SE X Y W (.Dict [] [] pos) eDk := by
  refine PE.imp pe_dnewK fun σ H Q h => ?_
  obtain ⟨ρ, env, S, he, hs, h⟩ := h
  intro p hn
  exact h _ (ρ ++ [p]) _ (Pre.snoc _ _) (Ext.new hn) (hs.new hn ⟨[], upd_same, .nil⟩) (rep_new hs.len.symm)
theorem se_dt : SE X Y W (.Dict [] [] pos) eDt := by
  refine PE.imp pe_dnewT fun σ H Q h => ?_
  obtain ⟨ρ, env, S, he, hs, h⟩ := h
  intro p hn
  exact h _ (ρ ++ [p]) _ (Pre.snoc _ _) (Ext.new hn) (hs.new hn ⟨[], upd_same, .nil⟩) (rep_new hs.len.symm)
end
end Mp

set_option Elab.async false
set_option linter.all false
set_option maxRecDepth 100000
/-! Operators, comparisons, subscripts, slices. -/
namespace Mp
open PySem PySem.Spec PyProof.Rows L2

theorem Sim.lst {K : PySem.W.Frag} {Y : Sy} {ρ : List Addr} {H : Hp} {S : Store} (s : Sim K Y ρ H S) {i : Nat} {a : Addr} {xs : List Val} (h : ρ[i]? = some a) (e : S[i]? = some (.lst xs)) : ∃ vs, H a = some (.lst vs) ∧ Reps K ρ H vs xs := s.ob i a _ h e
theorem Sim.dk {K : PySem.W.Frag} {Y : Sy} {ρ : List Addr} {H : Hp} {S : Store} (s : Sim K Y ρ H S) {i : Nat} {a : Addr} {xs : List (Key × Val)} (h : ρ[i]? = some a) (e : S[i]? = some (.dk xs)) : ∃ vs, H a = some (.dK vs) ∧ RepK K ρ H vs xs := s.ob i a _ h e
theorem Sim.dt {K : PySem.W.Frag} {Y : Sy} {ρ : List Addr} {H : Hp} {S : Store} (s : Sim K Y ρ H S) {i : Nat} {a : Addr} {xs : List (List Key × Val)} (h : ρ[i]? = some a) (e : S[i]? = some (.dt xs)) : ∃ vs, H a = some (.dT vs) ∧ RepK K ρ H vs xs := s.ob i a _ h e
/-- a list that can be read: a store's list, a frozen one -/
def getL (S : Store) : Val → Option (List Val)
  | .ref i => match S[i]? with
    | some (.lst xs) => some xs
    | _ => none
  | .frz xs => some xs
  | _ => none
theorem getL_rep {K : PySem.W.Frag} {Y : Sy} {ρ : List Addr} {H : Hp} {S : Store} {v : V} {x : Val} {xs : List Val} (s : Sim K Y ρ H S) (r : Rep K ρ H v x) (h : getL S x = some xs) : ∃ a vs, v = .ref a ∧ SqL K H a vs ∧ Reps K ρ H vs xs := by
  cases r <;> try (simp [getL] at h)
  case frz a vs ys f r => subst h; exact ⟨a, vs, rfl, f.sq, r⟩
  case ref a i hi =>
    split at h
    · rename_i ys e
      cases h
      obtain ⟨vs, e1, r⟩ := s.lst hi e
      exact ⟨a, vs, rfl, SqL.of e1, r⟩
    · cases h

/-! ### data -/
mutual
def toD : Val → Option PyData
  | .non => some .none
  | .bl b => some (.bool b)
  | .int i => some (.int i)
  | .str x => some (.str x)
  | .tup xs => (toDs xs).map PyData.tuple
  | .frz xs => (toDs xs).map PyData.list
  | .ktp _ => none
  | .ref _ => none
def toDs : List Val → Option (List PyData)
  | [] => some []
  | x :: xs => (toD x).bind fun d => (toDs xs).map fun ds => d :: ds
end
/-- .. and a list of the store, whose items are data -/
def toD1 (S : Store) (x : Val) : Option PyData := match x with
  | .ref i => match S[i]? with
    | some (.lst xs) => (toDs xs).map PyData.list
    | _ => none
  | x => toD x
section
variable {K : PySem.W.Frag} {Y : Sy} {ρ : List Addr} {H : Hp} {S : Store}
mutual
theorem toD_dp : ∀ {v : V} {x : Val} {d : PyData}, Rep K ρ H v x → toD x = some d → Dp K H v d
  | _, _, d, .non, h => by simp only [toD, Option.some.injEq] at h; subst h; exact .non
  | _, _, d, .bl b, h => by simp only [toD, Option.some.injEq] at h; subst h; exact .bl b
  | _, _, d, .int i, h => by simp only [toD, Option.some.injEq] at h; subst h; exact .int i
  | _, _, d, .str i, h => by simp only [toD, Option.some.injEq] at h; subst h; exact .str i
  | _, _, d, .tup e r, h => by
    simp only [toD, Option.map_eq_some_iff] at h
    obtain ⟨ds, h1, rfl⟩ := h
    exact .tup (SqT.of e) (toDs_dp r h1)
  | _, _, d, .frz e r, h => by
    simp only [toD, Option.map_eq_some_iff] at h
    obtain ⟨ds, h1, rfl⟩ := h
    exact .lst e.sq (toDs_dp r h1)
  | _, _, d, .ref _, h => by simp [toD] at h
  | _, _, d, .ktp _ _, h => by simp [toD] at h
theorem toDs_dp : ∀ {vs : List V} {xs : List Val} {ds : List PyData}, Reps K ρ H vs xs → toDs xs = some ds → DpAll K H vs ds
  | _, _, ds, .nil, h => by simp only [toDs, Option.some.injEq] at h; subst h; exact .nil
  | _, _, ds, .cons h1 h2, h => by
    simp only [toDs, Option.bind_eq_some_iff, Option.map_eq_some_iff] at h
    obtain ⟨d, e1, ds', e2, rfl⟩ := h
    exact .cons (toD_dp h1 e1) (toDs_dp h2 e2)
end
theorem toD1_dp (s : Sim K Y ρ H S) {v : V} {x : Val} {d : PyData} (r : Rep K ρ H v x) (h : toD1 S x = some d) : Dp K H v d := by
  cases x with
  | ref i =>
    cases r with
    | @ref a _ hi =>
      unfold toD1 at h
      dsimp only at h
      split at h
      · rename_i ys e1
        obtain ⟨ds, h1, rfl⟩ := Option.map_eq_some_iff.mp h
        obtain ⟨vs, e2, r⟩ := s.lst hi e1
        exact .lst (SqL.of e2) (toDs_dp r h1)
      · cases h
  | non => exact toD_dp r h
  | bl b => exact toD_dp r h
  | int b => exact toD_dp r h
  | str b => exact toD_dp r h
  | tup b => exact toD_dp r h
  | frz b => exact toD_dp r h
  | ktp b => exact toD_dp r h
end

/-! ### arithmetic -/
def rOr (r r' : R2) : R2 := fun x y H Q => r x y H Q ∨ r' x y H Q
theorem OpR.or2 {X : Cx} {f : Value → Value → Sem Value} {r r' : R2} (h : OpR X f r) (h' : OpR X f r') : OpR X f (rOr r r') := h.or h'
def vAdd : BOp
  | .int i, .int j, S => .ok (.int (i + j)) S
  | .str a, .str b, S => if a.length + b.length ≤ LIM then .ok (.str (a ++ b)) S else .bad
  | .tup xs, .tup ys, S => if xs.length + ys.length ≤ LIM then .ok (.tup (xs ++ ys)) S else .bad
  | .ref i, .ref j, S => match S[i]?, S[j]? with
    | some (.lst xs), some (.lst ys) => if xs.length + ys.length ≤ LIM then .ok (.ref S.length) (S ++ [.lst (xs ++ ys)]) else .bad
    | _, _ => .bad
  | _, _, _ => .bad
def rAddS : R2 := fun x y H Q => ∃ i j, x = .str i ∧ y = .str j ∧ i.length + j.length ≤ sizeLine ∧ Q (.str (i ++ j)) H
def rAddI : R2 := rI0 fun i j => .int (i + j)
section
variable {X : Cx} {Y : Sy} {W : WX} {a b : Expr} {fa fb : En → Store → Out Val} {pos : Pos}
theorem op_vAdd : OpR X (binaryOp .Add) (rOr rAddI (rOr rAddS (rOr (rCatA X.K) rCat))) := OpR.or2 op_add (OpR.or2 op_add_str (OpR.or2 op_catA op_cat))
theorem vAdd_ok : OpS X Y (rOr rAddI (rOr rAddS (rOr (rCatA X.K) rCat))) vAdd := by
  intro W' ρ H S v w x y Q hs rx ry h
  cases rx <;> cases ry <;> try exact h.elim
  case int.int i j => exact .inl ⟨i, j, rfl, rfl, h _ ρ H (Pre.refl _) (Ext.refl _) hs (.int _)⟩
  case str.str i j =>
    simp only [vAdd] at h
    split at h
    · rename_i hl
      exact .inr (.inl ⟨i, j, rfl, rfl, lim_le hl, h _ ρ H (Pre.refl _) (Ext.refl _) hs (.str _)⟩)
    · exact h.elim
  case tup.tup a vs xs e1 r1 b ws ys e2 r2 =>
    simp only [vAdd] at h
    split at h
    · rename_i hl
      have l1 := r1.length
      have l2 := r2.length
      refine .inr (.inr (.inl ⟨a, b, vs, ws, rfl, rfl, SqT.of e1, SqT.of e2, by rw [l1, l2]; exact lim_le hl, fun z => ?_, fun _ z => ?_, fun _ _ p hn => ?_⟩))
      · subst z
        have : xs = [] := List.eq_nil_of_length_eq_zero l1.symm
        subst this
        exact h _ ρ H (Pre.refl _) (Ext.refl _) hs (.tup e2 r2)
      · subst z
        have : ys = [] := List.eq_nil_of_length_eq_zero l2.symm
        subst this
        exact h _ ρ H (Pre.refl _) (Ext.refl _) hs (.tup e1 (by simpa using r1))
      · exact h _ ρ _ (Pre.refl _) (Ext.new hn) (hs.other hn) (.tup upd_same ((r1.append r2).up (Pre.refl _) (Ext.new hn)))
    · exact h.elim
  case ref.ref a i hi b j hj =>
    simp only [vAdd] at h
    split at h
    · rename_i xs ys e1 e2
      split at h
      · rename_i hl
        obtain ⟨vs, q1, r1⟩ := hs.lst hi e1
        obtain ⟨ws, q2, r2⟩ := hs.lst hj e2
        refine .inr (.inr (.inr ⟨a, b, vs, ws, rfl, rfl, q1, q2, by rw [r1.length, r2.length]; exact lim_le hl, fun p hn => ?_⟩))
        exact h _ (ρ ++ [p]) _ (Pre.snoc _ _) (Ext.new hn) (hs.new hn ⟨_, upd_same, (r1.append r2).up (Pre.snoc _ _) (Ext.new hn)⟩) (rep_new hs.len.symm)
      · exact h.elim
    · exact h.elim
theorem se_add (ha : SE X Y W a fa) (hb : SE X Y W b fb) : SE X Y W (.BinOp a .Add b pos) (eB2 vAdd fa fb) := se_op op_vAdd vAdd_ok ha hb
/-- ints alone -/
def vI2 (g : Int → Int → Val) : BOp
  | .int i, .int j, S => .ok (g i j) S
  | _, _, _ => .bad
theorem vI2_ok {g : Int → Int → V} {g' : Int → Int → Val} (hg : ∀ K ρ H i j, Rep K ρ H (g i j) (g' i j)) : OpS X Y (rI0 g) (vI2 g') := by
  intro W' ρ H S v w x y Q hs rx ry h
  cases rx <;> cases ry <;> try exact h.elim
  case int.int i j => exact ⟨i, j, rfl, rfl, h _ ρ H (Pre.refl _) (Ext.refl _) hs (hg _ _ _ i j)⟩
/-- .. under a condition -/
def vIC (C : Int → Int → Prop) [∀ i j, Decidable (C i j)] (g : Int → Int → Int) : BOp
  | .int i, .int j, S => if C i j then .ok (.int (g i j)) S else .bad
  | _, _, _ => .bad
theorem vIC_ok {C C' : Int → Int → Prop} [∀ i j, Decidable (C i j)] {g : Int → Int → Int} (hc : ∀ i j, C i j → C' i j) : OpS X Y (rI C' fun i j => .int (g i j)) (vIC C g) := by
  intro W' ρ H S v w x y Q hs rx ry h
  cases rx <;> cases ry <;> try exact h.elim
  case int.int i j =>
    simp only [vIC] at h
    split at h
    · rename_i hz
      exact ⟨i, j, rfl, rfl, hc i j hz, h _ ρ H (Pre.refl _) (Ext.refl _) hs (.int _)⟩
    · exact h.elim
abbrev vSub : BOp := vI2 fun i j => .int (i - j)
abbrev CM (i j : Int) : Prop := i.natAbs < 2 ^ 2000 ∧ j.natAbs < 2 ^ 2000
abbrev CD (_ j : Int) : Prop := 0 < j ∧ j < 2 ^ 64
abbrev CP (i j : Int) : Prop := 0 ≤ j ∧ j ≤ 1000000 ∧ i.natAbs < 2 ^ 64
abbrev vMul : BOp := vIC CM fun i j => i * j
abbrev vFdiv : BOp := vIC CD fun i j => i / j
abbrev vMod : BOp := vIC (fun _ j => 0 < j) fun i j => i % j
abbrev vPow : BOp := vIC CP fun i j => i ^ j.toNat
theorem se_sub (ha : SE X Y W a fa) (hb : SE X Y W b fb) : SE X Y W (.BinOp a .Sub b pos) (eB2 vSub fa fb) := se_op op_sub (vI2_ok fun _ _ _ _ _ => .int _) ha hb
theorem se_mul (ha : SE X Y W a fa) (hb : SE X Y W b fb) : SE X Y W (.BinOp a .Mult b pos) (eB2 vMul fa fb) := se_op op_mulW (vIC_ok fun i j h => wide_mul (a := 2000) (b := 2000) h.1 h.2 (by decide) (by decide) (by decide)) ha hb
theorem se_fdiv (ha : SE X Y W a fa) (hb : SE X Y W b fb) : SE X Y W (.BinOp a .FloorDiv b pos) (eB2 vFdiv fa fb) := se_op op_fdivW (vIC_ok fun i j h => wide_div (b := 64) h.1 (by have := h.2; omega) (by decide) (by decide)) ha hb
theorem se_mod (ha : SE X Y W a fa) (hb : SE X Y W b fb) : SE X Y W (.BinOp a .Mod b pos) (eB2 vMod fa fb) := se_op op_mod (vIC_ok fun i j h => h) ha hb
theorem se_pow (ha : SE X Y W a fa) (hb : SE X Y W b fb) : SE X Y W (.BinOp a .Pow b pos) (eB2 vPow fa fb) := se_op op_pow (vIC_ok fun i j h => h) ha hb
def eNeg (f : En → Store → Out Val) : En → Store → Out Val := fun env S => (f env S).bind fun x S1 => match x with
  | .int i => .ok (.int (-i)) S1
  | _ => .bad
theorem se_neg (ha : SE X Y W a fa) : SE X Y W (.UnaryOp .USub a pos) (eNeg fa) := by
  refine PE.imp (pe_un un_neg ha) fun σ H Q h => ?_
  refine tG.bind (k := fun env x S1 => match x with | .int i => Out.ok (Val.int (-i)) S1 | _ => Out.bad) h fun ρ env v x H1 S1 he hs rx hp => ?_
  cases rx <;> try exact hp.elim
  rename_i i
  exact ⟨i, rfl, hp _ ρ H1 (Pre.refl _) (Ext.refl _) hs (.int _)⟩

/-! ### order: ints, tuples of ints -/
def intsOf : List Val → Option (List Int)
  | [] => some []
  | .int i :: r => (intsOf r).map fun ns => i :: ns
  | _ :: _ => none
theorem intsOf_rep {K : PySem.W.Frag} {ρ : List Addr} {H : Hp} : ∀ {vs : List V} {xs : List Val} {ns : List Int}, Reps K ρ H vs xs → intsOf xs = some ns → vs = ns.map V.int
  | _, _, _, .nil, h => by simp only [intsOf, Option.some.injEq] at h; subst h; rfl
  | _, _, ns, .cons h1 h2, h => by
    cases h1 <;> try (simp [intsOf] at h; done)
    simp only [intsOf, Option.map_eq_some_iff] at h
    obtain ⟨ms, e, rfl⟩ := h
    rw [intsOf_rep h2 e]
    rfl
/-- by g on ints, by t on tuples of ints -/
def vOrd (g : Int → Int → Bool) (t : List Int → List Int → Bool) : BOp
  | .int i, .int j, S => .ok (.bl (g i j)) S
  | .tup xs, .tup ys, S => match intsOf xs, intsOf ys with
    | some ns, some ms => .ok (.bl (t ns ms)) S
    | _, _ => .bad
  | _, _, _ => .bad
def rTup (K : PySem.W.Frag) (t : List Int → List Int → Bool) : R2 := fun x y H Q => ∃ (a b : Addr) (ns ms : List Int), x = .ref a ∧ y = .ref b ∧ SqT K H a (ns.map V.int) ∧ SqT K H b (ms.map V.int) ∧ Q (.bl (t ns ms)) H
theorem vOrd_ok {g : Int → Int → Bool} {t : List Int → List Int → Bool} : OpS X Y (rOr (rI0 fun i j => .bl (g i j)) (rTup X.K t)) (vOrd g t) := by
  intro W' ρ H S v w x y Q hs rx ry h
  cases rx <;> cases ry <;> try exact h.elim
  case int.int i j => exact .inl ⟨i, j, rfl, rfl, h _ ρ H (Pre.refl _) (Ext.refl _) hs (.bl _)⟩
  case tup.tup a vs xs e1 r1 b ws ys e2 r2 =>
    simp only [vOrd] at h
    split at h
    · rename_i ns ms h1 h2
      have i1 := intsOf_rep r1 h1
      have i2 := intsOf_rep r2 h2
      subst i1; subst i2
      exact .inr ⟨a, b, ns, ms, rfl, rfl, SqT.of e1, SqT.of e2, h _ ρ H (Pre.refl _) (Ext.refl _) hs (.bl _)⟩
    · exact h.elim
abbrev leL (ns ms : List Int) : Bool := _root_.Ob.lexAt (fun j => decide (ns.getD j 0 = ms.getD j 0)) (fun j => decide (ns.getD j 0 ≤ ms.getD j 0)) (decide (ns.length ≤ ms.length)) 0 (min ns.length ms.length)
end
end Mp

set_option Elab.async false
set_option linter.all false
set_option maxRecDepth 100000
/-! Comparisons, membership, subscripts, slices. -/
namespace Mp
open PySem PySem.Spec PyProof.Rows L2

section
variable {X : Cx} {Y : Sy} {W : WX} {a b : Expr} {fa fb : En → Store → Out Val} {pos : Pos}
/-! ### t > u of tuples of ints -/
theorem vals_int_at {ns : List Int} {its : List Value} (r : Vals (ns.map V.int) its) (j : Nat) (h : j < its.toArray.size) : ∃ t, its.toArray[j] = Value.int (ns.getD j 0) t := by
  have hl := r.length
  rw [List.length_map] at hl
  simp at h
  have e : (ns.map V.int)[j]? = some (V.int (ns.getD j 0)) := by
    rw [List.getElem?_map, List.getElem?_eq_getElem (by omega)]
    simp [List.getD_eq_getElem?_getD, List.getElem?_eq_getElem (show j < ns.length by omega)]
  obtain ⟨u, h1, t, h2⟩ := r.get e
  refine ⟨t, ?_⟩
  rw [List.getElem?_eq_getElem h] at h1
  cases h1
  simpa using h2
abbrev gtL (ns ms : List Int) : Bool := _root_.Ob.lexAt (fun j => decide (ns.getD j 0 = ms.getD j 0)) (fun j => decide (ms.getD j 0 < ns.getD j 0)) (decide (ns.length > ms.length)) 0 (min ns.length ms.length)
theorem op_gtT (hu : X.A.units < cLine) : OpR X (compareOp .Gt) (rTup X.K gtL) := by
  intro pins s σ H x y v u Q I rx ry h
  obtain ⟨p, q, ns, ms, rfl, rfl, hp, hq, hQ⟩ := h
  cases rx
  cases ry
  obtain ⟨its, r1, t1, _⟩ := I.tuple hp
  obtain ⟨jts, r2, t2, _⟩ := I.tuple hq
  have n1 : its.toArray.size = ns.length := by rw [List.size_toArray, ← r1.length, List.length_map]
  have n2 : jts.toArray.size = ms.length := by rw [List.size_toArray, ← r2.length, List.length_map]
  have G := _root_.Ob.RcOp.tuples_gt (A := X.A) (s := s) (e := fun j => decide (ns.getD j 0 = ms.getD j 0)) (r := fun j => decide (ms.getD j 0 < ns.getD j 0)) t1 t2 hu
    (fun j h1 h2 => by
      obtain ⟨t, et⟩ := vals_int_at r1 j h1
      obtain ⟨t', et'⟩ := vals_int_at r2 j h2
      have z : decide (ns.getD j 0 = ms.getD j 0) = (ns.getD j 0 == ms.getD j 0) := by
        by_cases q : ns.getD j 0 = ms.getD j 0
        · rw [q]; simp
        · rw [decide_eq_false q, beq_eq_false_iff_ne.mpr q]
      rw [et, et', z]
      exact SeqAt.EqAt.int_int _ _ _ _)
    (fun j h1 h2 _ => by
      obtain ⟨t, et⟩ := vals_int_at r1 j h1
      obtain ⟨t', et'⟩ := vals_int_at r2 j h2
      rw [et, et']
      exact _root_.Ob.RcOp.gt_int _ _ _ _)
  rw [n1, n2] at G
  exact G X.prog X.w X.xe (EP X pins σ Q) ⟨.bl _, H, I, rfl, hQ⟩
abbrev vLt : BOp := vOrd (fun i j => decide (i < j)) HT.lexLt
abbrev vLe : BOp := vOrd (fun i j => decide (i ≤ j)) leL
abbrev vGt : BOp := vOrd (fun i j => decide (j < i)) gtL
abbrev vGe : BOp := vI2 fun i j => .bl (decide (j ≤ i))
theorem op_vLt (hu : X.A.units < cLine) : OpR X (compareOp .Lt) (rOr (rI0 fun i j => .bl (decide (i < j))) (rTup X.K HT.lexLt)) := OpR.or2 op_lt (op_ltT hu)
theorem op_vLe (hu : X.A.units < cLine) : OpR X (compareOp .LtE) (rOr (rI0 fun i j => .bl (decide (i ≤ j))) (rTup X.K leL)) := OpR.or2 op_le (op_leT hu)
theorem op_vGt (hu : X.A.units < cLine) : OpR X (compareOp .Gt) (rOr (rI0 fun i j => .bl (decide (j < i))) (rTup X.K gtL)) := OpR.or2 op_gt (op_gtT hu)
theorem se_lt (hu : X.A.units < cLine) (ha : SE X Y W a fa) (hb : SE X Y W b fb) : SE X Y W (.Compare a [.Lt] [b] pos) (eB2 vLt fa fb) := se_cmp (op_vLt hu) vOrd_ok ha hb (nomark _)
theorem se_le (hu : X.A.units < cLine) (ha : SE X Y W a fa) (hb : SE X Y W b fb) : SE X Y W (.Compare a [.LtE] [b] pos) (eB2 vLe fa fb) := se_cmp (op_vLe hu) vOrd_ok ha hb (nomark _)
theorem se_gt (hu : X.A.units < cLine) (ha : SE X Y W a fa) (hb : SE X Y W b fb) : SE X Y W (.Compare a [.Gt] [b] pos) (eB2 vGt fa fb) := se_cmp (op_vGt hu) vOrd_ok ha hb (nomark _)
theorem se_ge (ha : SE X Y W a fa) (hb : SE X Y W b fb) : SE X Y W (.Compare a [.GtE] [b] pos) (eB2 vGe fa fb) := se_cmp op_ge (vI2_ok fun _ _ _ _ _ => .bl _) ha hb (nomark _)
theorem st_lt (hu : X.A.units < cLine) (ha : SE X Y W a fa) (hb : SE X Y W b fb) : ST X Y W (.Compare a [.Lt] [b] pos) (bV (eB2 vLt fa fb)) := st_cmp (op_vLt hu) vOrd_ok ha hb (nomark _)
theorem st_le (hu : X.A.units < cLine) (ha : SE X Y W a fa) (hb : SE X Y W b fb) : ST X Y W (.Compare a [.LtE] [b] pos) (bV (eB2 vLe fa fb)) := st_cmp (op_vLe hu) vOrd_ok ha hb (nomark _)
theorem st_gt (hu : X.A.units < cLine) (ha : SE X Y W a fa) (hb : SE X Y W b fb) : ST X Y W (.Compare a [.Gt] [b] pos) (bV (eB2 vGt fa fb)) := st_cmp (op_vGt hu) vOrd_ok ha hb (nomark _)
theorem st_ge (ha : SE X Y W a fa) (hb : SE X Y W b fb) : ST X Y W (.Compare a [.GtE] [b] pos) (bV (eB2 vGe fa fb)) := st_cmp op_ge (vI2_ok fun _ _ _ _ _ => .bl _) ha hb (nomark _)
/-- a op b op' c -/
def eCh (g g' : BOp) (fa fb fc : En → Store → Out Val) : En → Store → Out Val := fun env S => (fa env S).bind fun x S1 => (fb env S1).bind fun y S2 => (g x y S2).bind fun r S3 => match r with
  | .bl true => (fc env S3).bind fun z S4 => g' y z S4
  | .bl false => .ok (.bl false) S3
  | _ => .bad
/-- an operator that makes nothing and gives a flag -/
def FlagOp (g : BOp) : Prop := ∀ x y S, (∃ k, g x y S = .ok (.bl k) S) ∨ g x y S = .bad
theorem vOrd_flag {g : Int → Int → Bool} {t : List Int → List Int → Bool} : FlagOp (vOrd g t) := fun x y S => by
  cases x <;> cases y <;> try exact .inr rfl
  · exact .inl ⟨_, rfl⟩
  · simp only [vOrd]
    split
    · exact .inl ⟨_, rfl⟩
    · exact .inr rfl
theorem vI2_flag {g : Int → Int → Bool} : FlagOp (vI2 fun i j => .bl (g i j)) := fun x y S => by
  cases x <;> cases y <;> first | exact .inr rfl | exact .inl ⟨_, rfl⟩
theorem tChain_of {r r' : R2} {g g' : BOp} {fc : En → Store → Out Val} {σ : L2.St} {H : Hp} {Q : VK} (ho : OpS X Y r g) (hf : FlagOp g) (ho' : OpS X Y r' g')
    (h : tG X.K Y W (RV X.K) (eCh g g' fa fb fc) σ H Q) : tChain r r' (tG X.K Y W (RV X.K) fa) (tG X.K Y W (RV X.K) fb) (tG X.K Y W (RV X.K) fc) σ H Q := by
  refine tG.bind (k := fun env x S1 => (fb env S1).bind fun y S2 => (g x y S2).bind fun r S3 => match r with
    | .bl true => (fc env S3).bind fun z S4 => g' y z S4
    | .bl false => Out.ok (Val.bl false) S3
    | _ => Out.bad) h fun ρ env v x H1 S1 he hs rx hp => ?_
  refine tG.go he hs hp fun ρ2 w y H2 S2 p2 e2 he2 hs2 ry hp2 => ?_
  refine ho (fun _ _ _ => False) ρ2 H2 S2 v w x y _ hs2 (rx.up p2 e2) ry ?_
  rcases hf x y S2 with ⟨k, e⟩ | e
  · rw [e]
    rw [e] at hp2
    intro z ρ3 H3 p3 e3 hs3 rz
    cases rz
    refine ⟨k, rfl, ?_⟩
    cases k with
    | true =>
      refine iteT ?_
      refine tG.go (he2.up p3 e3) hs3 (Post.up p3 e3 hp2) fun ρ4 w' z H4 S4 p4 e4 he4 hs4 rz hp4 => ?_
      exact ho' _ ρ4 H4 S4 w w' y z Q hs4 (ry.up (p3.trans p4) (e3.trans e4)) rz hp4
    | false => exact iteF (hp2 _ ρ3 H3 p3 e3 hs3 (.bl false))
  · rw [e] at hp2
    exact hp2.elim
section
variable {op op' : CmpOp} {r r' : R2} {g g' : BOp} {c : Expr} {fc : En → Store → Out Val}
theorem se_ch (hr : OpR X (compareOp op) r) (ho : OpS X Y r g) (hf : FlagOp g) (hr' : OpR X (compareOp op') r') (ho' : OpS X Y r' g')
    (ha : SE X Y W a fa) (hb : SE X Y W b fb) (hc : SE X Y W c fc) (hm : lastMarks [op, op'] [b, c] = false := by with_unfolding_all rfl) : SE X Y W (.Compare a [op, op'] [b, c] pos) (eCh g g' fa fb fc) :=
  PE.imp (pe_chain hr hr' ha hb hc hm) fun _ _ _ h => tChain_of ho hf ho' h
theorem st_ch (hr : OpR X (compareOp op) r) (ho : OpS X Y r g) (hf : FlagOp g) (hr' : OpR X (compareOp op') r') (ho' : OpS X Y r' g')
    (ha : SE X Y W a fa) (hb : SE X Y W b fb) (hc : SE X Y W c fc) (hm : lastMarks [op, op'] [b, c] = false := by with_unfolding_all rfl) : ST X Y W (.Compare a [op, op'] [b, c] pos) (bV (eCh g g' fa fb fc)) :=
  PT.imp (pt_chain hr hr' ha hb hc hm) fun _ _ _ h => tTest_of (fun _ q => tChain_of ho hf ho' q) h
end

/-! ### is -/
def isV : Val → Val → Option Bool
  | .non, .non => some true
  | .non, .bl _ => some false
  | .bl _, .non => some false
  | .bl a, .bl b => some (decide (a = b))
  | _, .non => some false
  | _, .bl _ => some false
  | _, _ => none
def vIs : BOp := fun x y S => match isV x y with
  | some k => .ok (.bl k) S
  | none => .bad
def vIsN : BOp := fun x y S => match isV x y with
  | some k => .ok (.bl (!k)) S
  | none => .bad
def rIs : R2 := fun x y H Q => (y = .non ∧ Q (.bl (decide (x = .non))) H) ∨ ∃ b, y = .bl b ∧ Q (.bl (decide (x = .bl b))) H
def rIsN : R2 := fun x y H Q => (y = .non ∧ Q (.bl (!decide (x = .non))) H) ∨ ∃ b, y = .bl b ∧ Q (.bl (!decide (x = .bl b))) H
theorem plain_bool {v : Value} {b : Bool} {x : V} (r : RelV x v) : plainIs v (.bool b) = true ∧ (v = .bool b ↔ x = .bl b) := by
  cases x <;> first
    | (cases r; refine ⟨rfl, ?_⟩; constructor <;> intro h <;> cases h <;> rfl)
    | (obtain ⟨t, rfl⟩ := r; refine ⟨rfl, ?_⟩; constructor <;> intro h <;> cases h)
theorem op_vIs : OpR X (compareOp .Is) rIs := by
  intro pins s σ H x y v u Q I rx ry h
  rcases h with ⟨rfl, q⟩ | ⟨b, rfl, q⟩
  · exact op_isN pins s σ H x _ v u Q I rx ry ⟨rfl, q⟩
  · cases ry
    obtain ⟨hp, hi⟩ := plain_bool (b := b) rx
    by_cases e : x = .bl b
    · have ev := hi.mpr e
      subst ev
      exact wpAny_is_self hp ⟨.bl true, H, I, rfl, by simpa [e] using q⟩
    · exact wpAny_is_other hp (fun z => e (hi.mp z)) ⟨.bl false, H, I, rfl, by simpa [e] using q⟩
theorem op_vIsN : OpR X (compareOp .IsNot) rIsN := by
  intro pins s σ H x y v u Q I rx ry h
  rcases h with ⟨rfl, q⟩ | ⟨b, rfl, q⟩
  · exact op_notN pins s σ H x _ v u Q I rx ry ⟨rfl, q⟩
  · cases ry
    obtain ⟨hp, hi⟩ := plain_bool (b := b) rx
    by_cases e : x = .bl b
    · have ev := hi.mpr e
      subst ev
      exact wpAny_isNot_self hp ⟨.bl false, H, I, rfl, by simpa [e] using q⟩
    · exact wpAny_isNot_other hp (fun z => e (hi.mp z)) ⟨.bl true, H, I, rfl, by simpa [e] using q⟩
theorem isV_rep {K : PySem.W.Frag} {ρ : List Addr} {H : Hp} {v w : V} {x y : Val} {k : Bool} (rx : Rep K ρ H v x) (ry : Rep K ρ H w y) (h : isV x y = some k) : (w = .non ∧ decide (v = .non) = k) ∨ ∃ b, w = .bl b ∧ decide (v = .bl b) = k := by
  cases ry <;> cases rx <;> simp only [isV, Option.some.injEq, reduceCtorEq] at h <;> subst h <;> first
    | exact .inl ⟨rfl, by simp⟩
    | exact .inr ⟨_, rfl, by simp⟩
theorem vIs_ok : OpS X Y rIs vIs := by
  intro W' ρ H S v w x y Q hs rx ry h
  unfold vIs at h
  split at h
  · rename_i k e
    rcases isV_rep rx ry e with ⟨q1, q2⟩ | ⟨b, q1, q2⟩
    · exact .inl ⟨q1, by rw [q2]; exact h _ ρ H (Pre.refl _) (Ext.refl _) hs (.bl _)⟩
    · exact .inr ⟨b, q1, by rw [q2]; exact h _ ρ H (Pre.refl _) (Ext.refl _) hs (.bl _)⟩
  · exact h.elim
theorem vIsN_ok : OpS X Y rIsN vIsN := by
  intro W' ρ H S v w x y Q hs rx ry h
  unfold vIsN at h
  split at h
  · rename_i k e
    rcases isV_rep rx ry e with ⟨q1, q2⟩ | ⟨b, q1, q2⟩
    · exact .inl ⟨q1, by rw [q2]; exact h _ ρ H (Pre.refl _) (Ext.refl _) hs (.bl _)⟩
    · exact .inr ⟨b, q1, by rw [q2]; exact h _ ρ H (Pre.refl _) (Ext.refl _) hs (.bl _)⟩
  · exact h.elim
theorem se_is (ha : SE X Y W a fa) (hb : SE X Y W b fb) : SE X Y W (.Compare a [.Is] [b] pos) (eB2 vIs fa fb) := se_cmp op_vIs vIs_ok ha hb (nomark _)
theorem se_isN (ha : SE X Y W a fa) (hb : SE X Y W b fb) : SE X Y W (.Compare a [.IsNot] [b] pos) (eB2 vIsN fa fb) := se_cmp op_vIsN vIsN_ok ha hb (nomark _)
theorem st_is (ha : SE X Y W a fa) (hb : SE X Y W b fb) : ST X Y W (.Compare a [.Is] [b] pos) (bV (eB2 vIs fa fb)) := st_cmp op_vIs vIs_ok ha hb (nomark _)
theorem st_isN (ha : SE X Y W a fa) (hb : SE X Y W b fb) : ST X Y W (.Compare a [.IsNot] [b] pos) (bV (eB2 vIsN fa fb)) := st_cmp op_vIsN vIsN_ok ha hb (nomark _)

/-! ### == of data -/
def eqv1 (S : Store) (x y : Val) : Option Bool := (toD1 S x).bind fun d => (toD1 S y).bind fun e => if SeqAt.shaped d = true ∧ SeqAt.shaped e = true then some (PyData.eqv d e) else none
def vEq : BOp := fun x y S => match eqv1 S x y with
  | some k => .ok (.bl k) S
  | none => .bad
def vNe : BOp := fun x y S => match eqv1 S x y with
  | some k => .ok (.bl (!k)) S
  | none => .bad
theorem eqv1_dp {K : PySem.W.Frag} {ρ : List Addr} {H : Hp} {S : Store} {v w : V} {x y : Val} {k : Bool} (hs : Sim K Y ρ H S) (rx : Rep K ρ H v x) (ry : Rep K ρ H w y) (h : eqv1 S x y = some k) :
    ∃ d e, Dp K H v d ∧ Dp K H w e ∧ SeqAt.shaped d = true ∧ SeqAt.shaped e = true ∧ PyData.eqv d e = k := by
  unfold eqv1 at h
  simp only [Option.bind_eq_some_iff] at h
  obtain ⟨d, h1, e, h2, h3⟩ := h
  split at h3
  · rename_i hz
    cases h3
    exact ⟨d, e, toD1_dp hs rx h1, toD1_dp hs ry h2, hz.1, hz.2, rfl⟩
  · cases h3
theorem vEq_ok : OpS X Y (rEqD X.K) vEq := by
  intro W' ρ H S v w x y Q hs rx ry h
  unfold vEq at h
  split at h
  · rename_i k e
    obtain ⟨d, d', h1, h2, h3, h4, h5⟩ := eqv1_dp hs rx ry e
    exact ⟨d, d', h1, h2, h3, h4, by rw [h5]; exact h _ ρ H (Pre.refl _) (Ext.refl _) hs (.bl _)⟩
  · exact h.elim
theorem vNe_ok : OpS X Y (rNeD X.K) vNe := by
  intro W' ρ H S v w x y Q hs rx ry h
  unfold vNe at h
  split at h
  · rename_i k e
    obtain ⟨d, d', h1, h2, h3, h4, h5⟩ := eqv1_dp hs rx ry e
    exact ⟨d, d', h1, h2, h3, h4, by rw [h5]; exact h _ ρ H (Pre.refl _) (Ext.refl _) hs (.bl _)⟩
  · exact h.elim
theorem se_eq (hu : X.A.units + 64 < cLine) (ha : SE X Y W a fa) (hb : SE X Y W b fb) : SE X Y W (.Compare a [.Eq] [b] pos) (eB2 vEq fa fb) := se_cmp (op_eqD hu) vEq_ok ha hb (nomark _)
theorem se_ne (hu : X.A.units + 64 < cLine) (ha : SE X Y W a fa) (hb : SE X Y W b fb) : SE X Y W (.Compare a [.NotEq] [b] pos) (eB2 vNe fa fb) := se_cmp (op_neD hu) vNe_ok ha hb (nomark _)
theorem st_eq (hu : X.A.units + 64 < cLine) (ha : SE X Y W a fa) (hb : SE X Y W b fb) : ST X Y W (.Compare a [.Eq] [b] pos) (bV (eB2 vEq fa fb)) := st_cmp (op_eqD hu) vEq_ok ha hb (nomark _)
theorem st_ne (hu : X.A.units + 64 < cLine) (ha : SE X Y W a fa) (hb : SE X Y W b fb) : ST X Y W (.Compare a [.NotEq] [b] pos) (bV (eB2 vNe fa fb)) := st_cmp (op_neD hu) vNe_ok ha hb (nomark _)
end
end Mp

set_option Elab.async false
set_option linter.all false
set_option maxRecDepth 100000
/-! Keys, membership, subscripts, slices. -/
namespace Mp
open PySem PySem.Spec PyProof.Rows L2

/-! ### keys -/
def keyOf : Val → Option Key
  | .int i => some (.inl i)
  | .str x => some (.inr x)
  | _ => none
def keysOf : List Val → Option (List Key)
  | [] => some []
  | x :: xs => (keyOf x).bind fun k => (keysOf xs).map fun ks => k :: ks
def tkeyOf : Val → Option (List Key)
  | .tup xs => keysOf xs
  | _ => none
def lookK {κ : Type} [DecidableEq κ] (kvs : List (κ × Val)) (k : κ) : Option Val := (kvs.find? fun kv => decide (kv.1 = k)).map (·.2)
def putD {κ : Type} [DecidableEq κ] (kvs : List (κ × Val)) (k : κ) (v : Val) : List (κ × Val) :=
  if kvs.any (fun kv => decide (kv.1 = k)) then kvs.map fun kv => if kv.1 = k then (kv.1, v) else kv else kvs ++ [(k, v)]
section
variable {K : PySem.W.Frag} {Y : Sy} {ρ : List Addr} {H : Hp} {S : Store}
theorem keyOf_rep {v : V} {x : Val} {k : Key} (r : Rep K ρ H v x) (h : keyOf x = some k) : v = kV k := by
  cases r <;> simp only [keyOf, Option.some.injEq, reduceCtorEq] at h <;> subst h <;> rfl
theorem keysOf_rep : ∀ {vs : List V} {xs : List Val} {ks : List Key}, Reps K ρ H vs xs → keysOf xs = some ks → vs = ks.map kV
  | _, _, _, .nil, h => by simp only [keysOf, Option.some.injEq] at h; subst h; rfl
  | _, _, _, .cons h1 h2, h => by
    simp only [keysOf, Option.bind_eq_some_iff, Option.map_eq_some_iff] at h
    obtain ⟨k, e1, ks, e2, rfl⟩ := h
    rw [keyOf_rep h1 e1, keysOf_rep h2 e2]
    rfl
theorem tkeyOf_rep {v : V} {x : Val} {ks : List Key} (r : Rep K ρ H v x) (h : tkeyOf x = some ks) : ∃ b, v = .ref b ∧ H b = some (.tup (ks.map kV)) := by
  cases r <;> try (simp [tkeyOf] at h; done)
  case tup a vs xs e r =>
    have := keysOf_rep r h
    subst this
    exact ⟨a, rfl, e⟩
theorem RepK.look {κ : Type} [DecidableEq κ] (k : κ) : ∀ {ws : List (κ × V)} {kvs : List (κ × Val)}, RepK K ρ H ws kvs → (lookK kvs k = none ∧ valV ws k = none) ∨ ∃ v x, lookK kvs k = some x ∧ valV ws k = some v ∧ Rep K ρ H v x
  | _, _, .nil => .inl ⟨rfl, rfl⟩
  | p :: _, q :: tl, .cons h r => by
    by_cases e : p.1 = k
    · refine .inr ⟨p.2, q.2, ?_, valV_pos e, h.2⟩
      simp [lookK, List.find?_cons, ← h.1, e]
    · have e' : ¬ q.1 = k := by rw [← h.1]; exact e
      have a1 : lookK (q :: tl) k = lookK tl k := by simp [lookK, List.find?_cons, e']
      rcases RepK.look k r with ⟨h1, h2⟩ | ⟨v, x, h1, h2, h3⟩
      · exact .inl ⟨a1.trans h1, (valV_neg e).trans h2⟩
      · exact .inr ⟨v, x, a1.trans h1, (valV_neg e).trans h2, h3⟩
theorem RepK.any {κ : Type} [DecidableEq κ] (k : κ) : ∀ {ws : List (κ × V)} {kvs : List (κ × Val)}, RepK K ρ H ws kvs → (ws.any fun kv => decide (kv.1 = k)) = kvs.any fun kv => decide (kv.1 = k)
  | _, _, .nil => rfl
  | _, _, .cons h r => by rw [List.any_cons, List.any_cons, h.1, RepK.any k r]
theorem RepK.repl {κ : Type} [DecidableEq κ] (k : κ) {v : V} {x : Val} (hv : Rep K ρ H v x) : ∀ {ws : List (κ × V)} {kvs : List (κ × Val)}, RepK K ρ H ws kvs →
    RepK K ρ H (ws.map fun kv => if kv.1 = k then (kv.1, v) else kv) (kvs.map fun kv => if kv.1 = k then (kv.1, x) else kv)
  | _, _, .nil => .nil
  | p :: _, q :: _, .cons h r => by
    refine .cons ?_ (RepK.repl k hv r)
    dsimp only
    by_cases e : p.1 = k
    · have e' : q.1 = k := by rw [← h.1]; exact e
      rw [if_pos e, if_pos e']
      exact ⟨h.1, hv⟩
    · have e' : ¬ q.1 = k := by rw [← h.1]; exact e
      rw [if_neg e, if_neg e']
      exact h
theorem RepK.append {κ : Type} : ∀ {ws ws' : List (κ × V)} {kvs kvs' : List (κ × Val)}, RepK K ρ H ws kvs → RepK K ρ H ws' kvs' → RepK K ρ H (ws ++ ws') (kvs ++ kvs')
  | _, _, _, _, .nil, s => s
  | _, _, _, _, .cons h r, s => .cons h (RepK.append r s)
theorem RepK.put {κ : Type} [DecidableEq κ] (k : κ) {v : V} {x : Val} (hv : Rep K ρ H v x) {ws : List (κ × V)} {kvs : List (κ × Val)} (r : RepK K ρ H ws kvs) : RepK K ρ H (putK ws k v) (putD kvs k x) := by
  unfold putK putD
  rw [r.any k]
  split
  · exact r.repl k hv
  · exact r.append (.cons ⟨rfl, hv⟩ .nil)
/-- what a dict of the store holds -/
def dLook (S : Store) (d k : Val) : Option (Option Val) := match d with
  | .ref i => match S[i]? with
    | some (.dk kvs) => (keyOf k).map fun k => lookK kvs k
    | some (.dt kvs) => (tkeyOf k).map fun k => lookK kvs k
    | _ => none
  | _ => none
theorem dLook_rep (hs : Sim K Y ρ H S) {v w : V} {d k : Val} {o : Option Val} (rd : Rep K ρ H v d) (rk : Rep K ρ H w k) (h : dLook S d k = some o) :
    ∃ a o', v = .ref a ∧ DGet H a w o' ∧ ((o = none ∧ o' = none) ∨ ∃ x y, o = some x ∧ o' = some y ∧ Rep K ρ H y x) := by
  cases rd <;> try (simp [dLook] at h; done)
  case ref a i hi =>
    simp only [dLook] at h
    split at h
    · rename_i kvs e
      obtain ⟨k', e1, rfl⟩ := Option.map_eq_some_iff.mp h
      obtain ⟨ws, q, r⟩ := hs.dk hi e
      have ek := keyOf_rep rk e1
      subst ek
      rcases r.look k' with ⟨h1, h2⟩ | ⟨v, x, h1, h2, h3⟩
      · exact ⟨a, _, rfl, DGet.k q, .inl ⟨h1, h2⟩⟩
      · exact ⟨a, _, rfl, DGet.k q, .inr ⟨x, v, h1, h2, h3⟩⟩
    · rename_i kvs e
      obtain ⟨k', e1, rfl⟩ := Option.map_eq_some_iff.mp h
      obtain ⟨ws, q, r⟩ := hs.dt hi e
      obtain ⟨b, rfl, eb⟩ := tkeyOf_rep rk e1
      rcases r.look k' with ⟨h1, h2⟩ | ⟨v, x, h1, h2, h3⟩
      · exact ⟨a, _, rfl, DGet.t q eb, .inl ⟨h1, h2⟩⟩
      · exact ⟨a, _, rfl, DGet.t q eb, .inr ⟨x, v, h1, h2, h3⟩⟩
    · cases h
end

section
variable {X : Cx} {Y : Sy} {W : WX} {a b : Expr} {fa fb : En → Store → Out Val} {pos : Pos}
/-! ### in -/
def rInDT (K : PySem.W.Frag) (n : Bool) : R2 := fun x y H Q => ∃ d ds, Dp K H x d ∧ (Dp K H y (.list ds) ∨ Dp K H y (.tuple ds)) ∧ SeqAt.shaped d = true ∧ PyData.canLayAll0 ds = true ∧ Q (.bl (xor n (ds.any fun z => PyData.eqv z d))) H
def rInDict (n : Bool) : R2 := fun x y H Q => ∃ a o, y = .ref a ∧ DGet H a x o ∧ Q (.bl (xor n o.isSome)) H
def rInS (n : Bool) : R2 := fun x y H Q => ∃ i j, x = .str i ∧ y = .str j ∧ Q (.bl (xor n (!(Builtin.Str.occurrences j i 0 j.length 1).isEmpty))) H
theorem op_InDT (hu : X.A.units + 65 < cLine) : OpR X (compareOp .In) (rInDT X.K false) := by
  intro pins s σ H x y v u Q I rx ry h
  obtain ⟨d, ds, hd, he | he, sd, se, q⟩ := h
  · obtain ⟨as, r1⟩ := Dp.reads I d x v hd rx
    obtain ⟨bs, r2⟩ := Dp.reads I (.list ds) y u he ry
    exact SeqAt.in_list_reads r2 r1 se (SeqAt.canLay_of_shaped sd) (room_in_shaped sd hu) ⟨.bl _, H, I, rfl, by simpa using q⟩
  · obtain ⟨as, r1⟩ := Dp.reads I d x v hd rx
    obtain ⟨bs, r2⟩ := Dp.reads I (.tuple ds) y u he ry
    exact SeqAt.in_tuple_reads r2 r1 se (SeqAt.canLay_of_shaped sd) (room_in_shaped sd hu) ⟨.bl _, H, I, rfl, by simpa using q⟩
theorem op_NotInDT (hu : X.A.units + 65 < cLine) : OpR X (compareOp .NotIn) (rInDT X.K true) := by
  intro pins s σ H x y v u Q I rx ry h
  obtain ⟨d, ds, hd, he | he, sd, se, q⟩ := h
  · obtain ⟨as, r1⟩ := Dp.reads I d x v hd rx
    obtain ⟨bs, r2⟩ := Dp.reads I (.list ds) y u he ry
    exact SeqAt.notIn_list_reads r2 r1 se (SeqAt.canLay_of_shaped sd) (room_in_shaped sd hu) ⟨.bl _, H, I, rfl, by simpa using q⟩
  · obtain ⟨as, r1⟩ := Dp.reads I d x v hd rx
    obtain ⟨bs, r2⟩ := Dp.reads I (.tuple ds) y u he ry
    exact SeqAt.notIn_tuple_reads r2 r1 se (SeqAt.canLay_of_shaped sd) (room_in_shaped sd hu) ⟨.bl _, H, I, rfl, by simpa using q⟩
theorem op_InDict (hu : X.A.units + 65 < cLine) : OpR X (compareOp .In) (rInDict false) := by
  intro pins s σ H x y v u Q I rx ry h
  obtain ⟨p, o, rfl, g, q⟩ := h
  cases ry
  exact d_in (by omega) I g rx fun s' I' => ⟨.bl _, H, I', rfl, by simpa using q⟩
theorem op_NotInDict (hu : X.A.units + 65 < cLine) : OpR X (compareOp .NotIn) (rInDict true) := by
  intro pins s σ H x y v u Q I rx ry h
  obtain ⟨p, o, rfl, g, q⟩ := h
  cases ry
  exact d_notIn (by omega) I g rx fun s' I' => ⟨.bl _, H, I', rfl, by simpa using q⟩
/-- the items of a list or tuple, as data -/
def itemsD (S : Store) : Val → Option (List PyData)
  | .ref i => match S[i]? with
    | some (.lst xs) => toDs xs
    | _ => none
  | .frz xs => toDs xs
  | .tup xs => toDs xs
  | _ => none
def isIn (S : Store) (x y : Val) : Option Bool := match dLook S y x with
  | some o => some o.isSome
  | none => match itemsD S y, toD x with
    | some ds, some d => if SeqAt.shaped d = true ∧ PyData.canLayAll0 ds = true then some (ds.any fun z => PyData.eqv z d) else none
    | _, _ => none
def vIn (n : Bool) : BOp := fun x y S => match isIn S x y with
  | some k => .ok (.bl (xor n k)) S
  | none => .bad
theorem itemsD_rep {K : PySem.W.Frag} {ρ : List Addr} {H : Hp} {S : Store} {v : V} {x : Val} {ds : List PyData} (hs : Sim K Y ρ H S) (r : Rep K ρ H v x) (h : itemsD S x = some ds) : Dp K H v (.list ds) ∨ Dp K H v (.tuple ds) := by
  cases r <;> try (simp [itemsD] at h; done)
  case tup a vs xs e r => exact .inr (.tup (SqT.of e) (toDs_dp r h))
  case frz a vs xs e r => exact .inl (.lst e.sq (toDs_dp r h))
  case ref a i hi =>
    simp only [itemsD] at h
    split at h
    · rename_i xs e
      obtain ⟨vs, e2, r⟩ := hs.lst hi e
      exact .inl (.lst (SqL.of e2) (toDs_dp r h))
    · cases h
theorem vIn_ok {n : Bool} : OpS X Y (rOr (rInDT X.K n) (rInDict n)) (vIn n) := by
  intro W' ρ H S v w x y Q hs rx ry h
  unfold vIn at h
  split at h
  · rename_i k e
    unfold isIn at e
    split at e
    · rename_i o eo
      cases e
      obtain ⟨p, o', e1, g, hq⟩ := dLook_rep hs ry rx eo
      refine .inr ⟨p, o', e1, g, ?_⟩
      have : o'.isSome = o.isSome := by
        rcases hq with ⟨h1, h2⟩ | ⟨x, y, h1, h2, _⟩ <;> rw [h1, h2] <;> rfl
      rw [this]
      exact h _ ρ H (Pre.refl _) (Ext.refl _) hs (.bl _)
    · split at e
      · rename_i ds d e1 e2
        split at e
        · rename_i hz
          cases e
          exact .inl ⟨d, ds, toD_dp rx e2, itemsD_rep hs ry e1, hz.1, hz.2, h _ ρ H (Pre.refl _) (Ext.refl _) hs (.bl _)⟩
        · cases e
      · cases e
  · exact h.elim
theorem op_vIn (hu : X.A.units + 65 < cLine) : OpR X (compareOp .In) (rOr (rInDT X.K false) (rInDict false)) := OpR.or2 (op_InDT hu) (op_InDict hu)
theorem op_vNotIn (hu : X.A.units + 65 < cLine) : OpR X (compareOp .NotIn) (rOr (rInDT X.K true) (rInDict true)) := OpR.or2 (op_NotInDT hu) (op_NotInDict hu)
theorem se_in (hu : X.A.units + 65 < cLine) (ha : SE X Y W a fa) (hb : SE X Y W b fb) (hm : behindInMarks .In b = false := by rfl) : SE X Y W (.Compare a [.In] [b] pos) (eB2 (vIn false) fa fb) := se_cmp (op_vIn hu) vIn_ok ha hb hm
theorem se_notIn (hu : X.A.units + 65 < cLine) (ha : SE X Y W a fa) (hb : SE X Y W b fb) (hm : behindInMarks .NotIn b = false := by rfl) : SE X Y W (.Compare a [.NotIn] [b] pos) (eB2 (vIn true) fa fb) := se_cmp (op_vNotIn hu) vIn_ok ha hb hm
theorem st_in (hu : X.A.units + 65 < cLine) (ha : SE X Y W a fa) (hb : SE X Y W b fb) (hm : behindInMarks .In b = false := by rfl) : ST X Y W (.Compare a [.In] [b] pos) (bV (eB2 (vIn false) fa fb)) := st_cmp (op_vIn hu) vIn_ok ha hb hm
theorem st_notIn (hu : X.A.units + 65 < cLine) (ha : SE X Y W a fa) (hb : SE X Y W b fb) (hm : behindInMarks .NotIn b = false := by rfl) : ST X Y W (.Compare a [.NotIn] [b] pos) (bV (eB2 (vIn true) fa fb)) := st_cmp (op_vNotIn hu) vIn_ok ha hb hm

/-! ### a[b] -/
def itemsOf (S : Store) : Val → Option (List Val)
  | .tup xs => some xs
  | x => getL S x
def vIx : BOp := fun x y S => match dLook S x y with
  | some (some z) => .ok z S
  | some none => .bad
  | none => match itemsOf S x, y with
    | some xs, .int i => match atI xs i with
      | some z => .ok z S
      | none => .bad
    | _, _ => .bad
def rIxD : R2 := fun x y H Q => ∃ a v, x = .ref a ∧ DGet H a y (some v) ∧ Q v H
theorem ix_dict (hu : X.A.units + 1 < cLine) : IxR X rIxD := by
  intro value slice pins s σ H x y v u Q I rx ry h hs
  obtain ⟨p, z, rfl, g, q⟩ := h
  cases rx
  exact tail_any (dict_typeIs I g) PySem.F.slot_dict_getitem.lookup (d_getItem hu I g ry fun w' s3 I3 rw' => ⟨z, H, I3, rw', q⟩) hs
theorem Reps.atI {K : PySem.W.Frag} {ρ : List Addr} {H : Hp} {vs : List V} {xs : List Val} {i : Int} {z : Val} (r : Reps K ρ H vs xs) (h : L2.atI xs i = some z) : ∃ v, L2.atI vs i = some v ∧ Rep K ρ H v z := by
  unfold L2.atI at h ⊢
  rw [r.length]
  obtain ⟨j, e1, e2⟩ := Option.bind_eq_some_iff.mp h
  obtain ⟨v, e3, r'⟩ := r.get e2
  exact ⟨v, by rw [e1]; exact e3, r'⟩
theorem itemsOf_rep {K : PySem.W.Frag} {ρ : List Addr} {H : Hp} {S : Store} {v : V} {x : Val} {xs : List Val} (hs : Sim K Y ρ H S) (r : Rep K ρ H v x) (h : itemsOf S x = some xs) : ∃ a vs, v = .ref a ∧ (SqL K H a vs ∨ SqT K H a vs) ∧ Reps K ρ H vs xs := by
  cases x with
  | tup ys =>
    cases h
    cases r with
    | tup e r => exact ⟨_, _, rfl, .inr (SqT.of e), r⟩
  | ref i =>
    obtain ⟨a, vs, e1, e2, e3⟩ := getL_rep hs r h
    exact ⟨a, vs, e1, .inl e2, e3⟩
  | frz i =>
    obtain ⟨a, vs, e1, e2, e3⟩ := getL_rep hs r h
    exact ⟨a, vs, e1, .inl e2, e3⟩
  | _ => cases h
theorem vIx_ok : OpS X Y (rOr rIxD (rOr (rIxL X.K) (rIxT X.K))) vIx := by
  intro W' ρ H S v w x y Q hs rx ry h
  unfold vIx at h
  split at h
  · rename_i z e
    obtain ⟨p, o', e1, g, hq⟩ := dLook_rep hs rx ry e
    rcases hq with ⟨h1, h2⟩ | ⟨z', y', h1, h2, r⟩
    · cases h1
    · cases h1
      subst h2
      exact .inl ⟨p, y', e1, g, h _ ρ H (Pre.refl _) (Ext.refl _) hs r⟩
  · exact h.elim
  · split at h
    · rename_i xs i ex _
      split at h
      · rename_i z ez
        obtain ⟨p, vs, rfl, hq, r⟩ := itemsOf_rep hs rx ex
        obtain ⟨u, eu, ru⟩ := r.atI ez
        cases ry
        rcases hq with hq | hq
        · exact .inr (.inl ⟨p, vs, i, u, rfl, rfl, hq, eu, h _ ρ H (Pre.refl _) (Ext.refl _) hs ru⟩)
        · exact .inr (.inr ⟨p, vs, i, u, rfl, rfl, hq, eu, h _ ρ H (Pre.refl _) (Ext.refl _) hs ru⟩)
      · exact h.elim
    · exact h.elim
theorem se_ix (hu : X.A.units + 1 < cLine) (ha : SE X Y W a fa) (hb : SE X Y W b fb) (hp : PlainIx b := by exact fun _ _ => rfl) : SE X Y W (.Subscript a b pos) (eB2 vIx fa fb) :=
  PE.imp (pe_ix (IxR.or (ix_dict hu) (IxR.or ix_list ix_tup)) ha hb hp) fun _ _ _ h => tOp_of (r := rOr rIxD (rOr (rIxL X.K) (rIxT X.K))) vIx_ok h

/-! ### a[lo:hi] -/
def toI : Val → Store → Out (Option Int)
  | .int i, S => .ok (some i) S
  | _, _ => .bad
def pNo : En → Store → Out (Option Int) := fun _ S => .ok none S
def pSome (f : En → Store → Out Val) : En → Store → Out (Option Int) := fun env S => (f env S).bind toI
abbrev RO : RR (Option Int) (Option Int) := fun _ _ v x => v = x
def SO (X : Cx) (Y : Sy) (W : WX) (e : Option Expr) (f : En → Store → Out (Option Int)) : Prop := PO X e (tG X.K Y W RO f)
theorem PO.imp {X : Cx} {e : Option Expr} {t t' : TO} (h : PO X e t) (k : ∀ σ H Q, t' σ H Q → t σ H Q) : PO X e t' := ⟨fun pins s σ H Q I q => h.run pins s σ H Q I (k σ H Q q)⟩
theorem so_no : SO X Y W none pNo := by
  refine PO.imp po_none fun σ H Q h => ?_
  obtain ⟨ρ, env, S, he, hs, h⟩ := h
  exact h none ρ H (Pre.refl _) (Ext.refl _) hs rfl
theorem so_some {e : Expr} {f : En → Store → Out Val} (h : SE X Y W e f) : SO X Y W (some e) (pSome f) := by
  refine PO.imp (po_some h) fun σ H Q h => ?_
  refine tG.bind (k := fun _ => toI) h fun ρ env v x H1 S1 he hs rx hp => ?_
  cases rx <;> try exact hp.elim
  rename_i i
  exact ⟨i, rfl, hp _ ρ H1 (Pre.refl _) (Ext.refl _) hs rfl⟩
def cutL {α : Type} (xs : List α) (lo hi : Option Int) : List α := (xs.drop (HT.sIx xs.length 0 lo)).take (HT.sIx xs.length xs.length hi - HT.sIx xs.length 0 lo)
theorem Reps.cut {K : PySem.W.Frag} {ρ : List Addr} {H : Hp} {vs : List V} {xs : List Val} (r : Reps K ρ H vs xs) (lo hi : Option Int) : Reps K ρ H (cutV vs lo hi) (cutL xs lo hi) := by
  unfold cutV cutL
  rw [r.length]
  exact (r.drop _).take _
def vSl (x : Val) (lo hi : Option Int) (S : Store) : Out Val := match x with
  | .tup xs => .ok (.tup (cutL xs lo hi)) S
  | x => match getL S x with
    | some xs => .ok (.ref S.length) (S ++ [.lst (cutL xs lo hi)])
    | none => .bad
def eSl (f : En → Store → Out Val) (l h : En → Store → Out (Option Int)) : En → Store → Out Val := fun env S => (f env S).bind fun x S1 => (l env S1).bind fun lo S2 => (h env S2).bind fun hi S3 => vSl x lo hi S3
theorem sIx_all {α : Type} (xs : List α) {lo hi : Option Int} (h : HT.sIx xs.length 0 lo = 0 ∧ HT.sIx xs.length xs.length hi = xs.length) : cutL xs lo hi = xs := by
  unfold cutL
  rw [h.1, h.2]
  simp
theorem vSl_ok {W' : Value → Option Addr → Hp → Prop} {ρ : List Addr} {H : Hp} {S : Store} {v : V} {x : Val} {lo hi : Option Int} {Q : VK} (hs : Sim X.K Y ρ H S) (rx : Rep X.K ρ H v x) (h : Post X.K Y W' ρ H (RV X.K) Q (vSl x lo hi S)) :
    rSlA X.K v lo hi H Q ∨ rSlL X.K v lo hi H Q := by
  cases x with
  | tup xs =>
    cases rx with
    | @tup a vs _ e r =>
      refine .inl ⟨a, vs, rfl, SqT.of e, fun hw => ?_, fun hw p hn => ?_⟩
      · rw [r.length] at hw
        have := sIx_all xs hw
        refine h _ ρ H (Pre.refl _) (Ext.refl _) hs ?_
        rw [this]
        exact .tup e r
      · exact h _ ρ _ (Pre.refl _) (Ext.new hn) (hs.other hn) (.tup upd_same ((r.cut lo hi).up (Pre.refl _) (Ext.new hn)))
  | ref i =>
    simp only [vSl] at h
    split at h
    · rename_i xs e
      obtain ⟨a, vs, rfl, e2, r⟩ := getL_rep hs rx e
      exact .inr ⟨a, vs, rfl, e2, fun p hn => h _ (ρ ++ [p]) _ (Pre.snoc _ _) (Ext.new hn) (hs.new hn ⟨_, upd_same, (r.cut lo hi).up (Pre.snoc _ _) (Ext.new hn)⟩) (rep_new hs.len.symm)⟩
    · exact h.elim
  | frz i =>
    simp only [vSl] at h
    split at h
    · rename_i xs e
      obtain ⟨a, vs, rfl, e2, r⟩ := getL_rep hs rx e
      exact .inr ⟨a, vs, rfl, e2, fun p hn => h _ (ρ ++ [p]) _ (Pre.snoc _ _) (Ext.new hn) (hs.new hn ⟨_, upd_same, (r.cut lo hi).up (Pre.snoc _ _) (Ext.new hn)⟩) (rep_new hs.len.symm)⟩
    · exact h.elim
  | _ => exact h.elim
theorem se_sl {e : Expr} {lo hi : Option Expr} {p2 : Pos} {f : En → Store → Out Val} {l h : En → Store → Out (Option Int)} (he : SE X Y W e f) (hl : SO X Y W lo l) (hh : SO X Y W hi h) : SE X Y W (.Subscript e (.Slice lo hi none p2) pos) (eSl f l h) := by
  refine PE.imp (pe_slice (SlR.or sl_tupA sl_list) he hl hh) fun σ H Q hw => ?_
  refine tG.bind (k := fun env x S1 => (l env S1).bind fun lo S2 => (h env S2).bind fun hi S3 => vSl x lo hi S3) hw fun ρ env v x H1 S1 he hs rx hp => ?_
  refine tG.go he hs hp fun ρ2 o1 o1' H2 S2 p2 e2 he2 hs2 r1 hp2 => ?_
  refine tG.go he2 hs2 hp2 fun ρ3 o2 o2' H3 S3 p3 e3 he3 hs3 r2 hp3 => ?_
  subst r1; subst r2
  exact vSl_ok hs3 (rx.up (p2.trans p3) (e2.trans e3)) hp3
end
end Mp

set_option Elab.async false
set_option linter.all false
set_option maxRecDepth 100000
/-! Calls; statements; loops. -/
namespace Mp
open PySem PySem.Spec PyProof.Rows L2

/-! ### calls by values -/
abbrev Fn := List Val → Store → Out Val
def eCall (g : Fn) (fa : En → Store → Out (List Val)) : En → Store → Out Val := fun env S => (fa env S).bind g
def CallS (X : Cx) (Y : Sy) (r : List V → Hp → VK → Prop) (g : Fn) : Prop := ∀ (W' : Value → Option Addr → Hp → Prop) (ρ : List Addr) (H : Hp) (S : Store) (vs : List V) (xs : List Val) (Q : VK), Sim X.K Y ρ H S → Reps X.K ρ H vs xs → Post X.K Y W' ρ H (RV X.K) Q (g xs S) → r vs H Q
section
variable {X : Cx} {Y : Sy} {W : WX} {a b e : Expr} {es : List Expr} {fa fb f : En → Store → Out Val} {ga : En → Store → Out (List Val)} {p pos : Pos} {x : Str} {g : Fn}
theorem tCB_of {r : List V → Hp → VK → Prop} (ok : CallS X Y r g) {σ : L2.St} {H : Hp} {Q : VK} (h : tG X.K Y W (RV X.K) (eCall g ga) σ H Q) : tCB r (tG X.K Y W (RL X.K) ga) σ H Q :=
  tG.bind (k := fun _ => g) h fun ρ env vs xs H1 S1 he hs rx hp => ok _ ρ H1 S1 vs xs Q hs rx hp
theorem se_b {r : List V → Hp → VK → Prop} {id : String} (hc : CallR X (.builtin id) r) (ok : CallS X Y r g) (hg : Gl X x) (hm : X.mg x = none) (hv : bootBuiltins x = some (.builtin id)) (ha : SA X Y W (e :: es) ga) (hn : x ≠ "__name__" := by decide) (hdb : (x == ("__debug__" : Str)) = false := by decide)
    (he : starEach (e :: es) X.env = (false, eval e X.env) :: starEach es X.env := by rfl) (hpl : (backTo pos (starEach es X.env)).any (·.1) = false := by rfl) : SE X Y W (.Call (.Name x p) (e :: es) [] pos) (eCall g ga) :=
  PE.imp (pe_callB hc hg hm hv ha hn hdb he hpl) fun _ _ _ h => tCB_of ok h
theorem se_ty {r : List V → Hp → VK → Prop} {T : String} (hc : CallR X (.type T) r) (ok : CallS X Y r g) (hg : Gl X x) (hm : X.mg x = none) (hv : bootBuiltins x = some (.type T)) (ha : SA X Y W (e :: es) ga) (hn : x ≠ "__name__" := by decide) (hdb : (x == ("__debug__" : Str)) = false := by decide)
    (he : starEach (e :: es) X.env = (false, eval e X.env) :: starEach es X.env := by rfl) (hpl : (backTo pos (starEach es X.env)).any (·.1) = false := by rfl) : SE X Y W (.Call (.Name x p) (e :: es) [] pos) (eCall g ga) :=
  PE.imp (pe_callTy hc hg hm hv ha hn hdb he hpl) fun _ _ _ h => tCB_of ok h

/-! ### built-ins -/
theorem reps1 {K : PySem.W.Frag} {ρ : List Addr} {H : Hp} {vs : List V} {x : Val} (r : Reps K ρ H vs [x]) : ∃ v, vs = [v] ∧ Rep K ρ H v x := by
  cases r with | cons h t => cases t; exact ⟨_, rfl, h⟩
theorem reps2 {K : PySem.W.Frag} {ρ : List Addr} {H : Hp} {vs : List V} {x y : Val} (r : Reps K ρ H vs [x, y]) : ∃ v w, vs = [v, w] ∧ Rep K ρ H v x ∧ Rep K ρ H w y := by
  cases r with | cons h t => cases t with | cons h2 t => cases t; exact ⟨_, _, rfl, h, h2⟩
def fLen : Fn := fun vs S => match vs with
  | [.str z] => if z.length ≤ LIM then .ok (.int z.length) S else .bad
  | [.ref i] => match S[i]? with
    | some (.lst xs) => .ok (.int xs.length) S
    | some (.dk xs) => .ok (.int xs.length) S
    | _ => .bad
  | [x] => match itemsOf S x with
    | some xs => .ok (.int xs.length) S
    | none => .bad
  | _ => .bad
def rLenS : List V → Hp → VK → Prop := fun xs H Q => ∃ z, xs = [.str z] ∧ z.length ≤ sizeLine ∧ Q (.int z.length) H
def rLenQ (K : PySem.W.Frag) : List V → Hp → VK → Prop := fun xs H Q => ∃ p ys, xs = [.ref p] ∧ (SqL K H p ys ∨ SqT K H p ys) ∧ Q (.int ys.length) H
def rLenD : List V → Hp → VK → Prop := fun xs H Q => ∃ p kvs, xs = [.ref p] ∧ Rd H p (.dK kvs) ∧ Q (.int kvs.length) H
theorem call_lenD2 : CallR X (.builtin "len") rLenD := by
  intro pins s σ H xs us Q I r h
  obtain ⟨p, kvs, rfl, e, q⟩ := h
  obtain ⟨u, rfl, ru⟩ := vals1 r
  cases ru
  exact d_len I e fun t s' I' => ⟨.int kvs.length, H, I', ⟨t, rfl⟩, q⟩
theorem call_fLen : CallR X (.builtin "len") (fun xs H Q => rLenS xs H Q ∨ rLenQ X.K xs H Q ∨ rLenD xs H Q) := CallR.or call_len_str (CallR.or call_len_seq call_lenD2)
theorem fLen_ok : CallS X Y (fun xs H Q => rLenS xs H Q ∨ rLenQ X.K xs H Q ∨ rLenD xs H Q) fLen := by
  intro W' ρ H S vs xs Q hs rx h
  unfold fLen at h
  split at h
  · obtain ⟨v, rfl, r⟩ := reps1 rx
    cases r
    split at h
    · rename_i hz
      exact .inl ⟨_, rfl, lim_le hz, h _ ρ H (Pre.refl _) (Ext.refl _) hs (.int _)⟩
    · exact h.elim
  · obtain ⟨v, rfl, r⟩ := reps1 rx
    cases r with
    | @ref a i hi =>
    split at h
    · rename_i ys e
      obtain ⟨ws, e2, r⟩ := hs.lst hi e
      exact .inr (.inl ⟨a, ws, rfl, .inl (SqL.of e2), h _ ρ H (Pre.refl _) (Ext.refl _) hs (by rw [r.length]; exact .int _)⟩)
    · rename_i ys e
      obtain ⟨ws, e2, r⟩ := hs.dk hi e
      exact .inr (.inr ⟨a, ws, rfl, .inl e2, h _ ρ H (Pre.refl _) (Ext.refl _) hs (by rw [r.length]; exact .int _)⟩)
    · exact h.elim
  · split at h
    · rename_i ys e
      obtain ⟨v, rfl, r⟩ := reps1 rx
      obtain ⟨p, ws, rfl, hq, r⟩ := itemsOf_rep hs r e
      exact .inr (.inl ⟨p, ws, rfl, hq, h _ ρ H (Pre.refl _) (Ext.refl _) hs (by rw [r.length]; exact .int _)⟩)
    · exact h.elim
  · exact h.elim
theorem se_len (hg : Gl X "len") (hm : X.mg "len" = none) (ha : SA X Y W [e] ga) (he : starEach [e] X.env = [(false, eval e X.env)] := by rfl) : SE X Y W (.Call (.Name "len" p) [e] [] pos) (eCall fLen ga) :=
  se_b call_fLen fLen_ok hg hm PySem.boot_len ha (he := he)
def fInt : Fn := fun vs S => match vs with
  | [.int i] => .ok (.int i) S
  | [.bl k] => .ok (.int (if k then 1 else 0)) S
  | _ => .bad
theorem se_int1 (hg : Gl X "int") (hm : X.mg "int" = none) (ha : SA X Y W [e] ga) (he : starEach [e] X.env = [(false, eval e X.env)] := by rfl) : SE X Y W (.Call (.Name "int" p) [e] [] pos) (eCall fInt ga) := by
  refine se_ty call_int1 (fun W' ρ H S vs xs Q hs rx h => ?_) hg hm (by decide +kernel) ha (he := he)
  unfold fInt at h
  split at h
  · obtain ⟨v, rfl, r⟩ := reps1 rx
    cases r
    exact .inl ⟨_, rfl, h _ ρ H (Pre.refl _) (Ext.refl _) hs (.int _)⟩
  · obtain ⟨v, rfl, r⟩ := reps1 rx
    cases r
    exact .inr ⟨_, rfl, h _ ρ H (Pre.refl _) (Ext.refl _) hs (.int _)⟩
  · exact h.elim
def fList : Fn := fun vs S => match vs with
  | [x] => match itemsOf S x with
    | some xs => .ok (.ref S.length) (S ++ [.lst xs])
    | none => .bad
  | _ => .bad
theorem se_list (hg : Gl X "list") (hm : X.mg "list" = none) (ha : SA X Y W [e] ga) (he : starEach [e] X.env = [(false, eval e X.env)] := by rfl) : SE X Y W (.Call (.Name "list" p) [e] [] pos) (eCall fList ga) := by
  refine se_ty call_list_of (fun W' ρ H S vs xs Q hs rx h => ?_) hg hm (by decide +kernel) ha (he := he)
  unfold fList at h
  split at h
  · split at h
    · rename_i x ys e
      obtain ⟨v, rfl, r⟩ := reps1 rx
      obtain ⟨q, ws, rfl, hq, r⟩ := itemsOf_rep hs r e
      exact ⟨q, ws, rfl, hq, fun l hn => h _ (ρ ++ [l]) _ (Pre.snoc _ _) (Ext.new hn) (hs.new hn ⟨_, upd_same, r.up (Pre.snoc _ _) (Ext.new hn)⟩) (rep_new hs.len.symm)⟩
    · exact h.elim
  · exact h.elim
def fTuple : Fn := fun vs S => match vs with
  | [x] => match itemsOf S x with
    | some xs => .ok (.tup xs) S
    | none => .bad
  | _ => .bad
theorem se_tuple (hg : Gl X "tuple") (hm : X.mg "tuple" = none) (ha : SA X Y W [e] ga) (he : starEach [e] X.env = [(false, eval e X.env)] := by rfl) : SE X Y W (.Call (.Name "tuple" p) [e] [] pos) (eCall fTuple ga) := by
  refine se_ty call_tuple_of (fun W' ρ H S vs xs Q hs rx h => ?_) hg hm (by decide +kernel) ha (he := he)
  match xs, rx, h with
  | [z], rx, h =>
    obtain ⟨v, rfl, rv⟩ := reps1 rx
    cases z with
    | tup zs =>
      cases rv with
      | @tup q ws _ e1 r1 => exact ⟨q, ws, rfl, .inr ⟨SqT.of e1, h _ ρ H (Pre.refl _) (Ext.refl _) hs (.tup e1 r1)⟩⟩
    | ref i =>
      simp only [fTuple, itemsOf] at h
      split at h
      · rename_i ys e
        obtain ⟨q, ws, rfl, hq, r⟩ := getL_rep hs rv e
        exact ⟨q, ws, rfl, .inl ⟨hq, fun l hn => h _ ρ _ (Pre.refl _) (Ext.new hn) (hs.other hn) (.tup upd_same (r.up (Pre.refl _) (Ext.new hn)))⟩⟩
      · exact h.elim
    | frz i =>
      simp only [fTuple, itemsOf] at h
      split at h
      · rename_i ys e
        obtain ⟨q, ws, rfl, hq, r⟩ := getL_rep hs rv e
        exact ⟨q, ws, rfl, .inl ⟨hq, fun l hn => h _ ρ _ (Pre.refl _) (Ext.new hn) (hs.other hn) (.tup upd_same (r.up (Pre.refl _) (Ext.new hn)))⟩⟩
      · exact h.elim
    | _ => exact h.elim
  | [], _, h => exact h.elim
  | _ :: _ :: _, _, h => exact h.elim
def fMin2 : Fn := fun vs S => match vs with
  | [.int i, .int j] => .ok (.int (if j < i then j else i)) S
  | _ => .bad
def fMax2 : Fn := fun vs S => match vs with
  | [.int i, .int j] => .ok (.int (if j > i then j else i)) S
  | _ => .bad
theorem se_min2 (hc : X.calm = true) (hg : Gl X "min") (hm : X.mg "min" = none) (ha : SA X Y W [a, b] ga) (he : starEach [a, b] X.env = (false, eval a X.env) :: starEach [b] X.env := by rfl) (hpl : (backTo pos (starEach [b] X.env)).any (·.1) = false := by rfl) : SE X Y W (.Call (.Name "min" p) [a, b] [] pos) (eCall fMin2 ga) := by
  refine se_b (call_min2 hc) (fun W' ρ H S vs xs Q hs rx h => ?_) hg hm (by decide +kernel) ha (he := he) (hpl := hpl)
  unfold fMin2 at h
  split at h
  · obtain ⟨v, w, rfl, r1, r2⟩ := reps2 rx
    cases r1; cases r2
    exact ⟨_, _, rfl, h _ ρ H (Pre.refl _) (Ext.refl _) hs (.int _)⟩
  · exact h.elim
theorem se_max2 (hc : X.calm = true) (hg : Gl X "max") (hm : X.mg "max" = none) (ha : SA X Y W [a, b] ga) (he : starEach [a, b] X.env = (false, eval a X.env) :: starEach [b] X.env := by rfl) (hpl : (backTo pos (starEach [b] X.env)).any (·.1) = false := by rfl) : SE X Y W (.Call (.Name "max" p) [a, b] [] pos) (eCall fMax2 ga) := by
  refine se_b (call_max2 hc) (fun W' ρ H S vs xs Q hs rx h => ?_) hg hm (by decide +kernel) ha (he := he) (hpl := hpl)
  unfold fMax2 at h
  split at h
  · obtain ⟨v, w, rfl, r1, r2⟩ := reps2 rx
    cases r1; cases r2
    exact ⟨_, _, rfl, h _ ρ H (Pre.refl _) (Ext.refl _) hs (.int _)⟩
  · exact h.elim
/-! ### flags in a list: all, any; ints: sum -/
def flagsOf : List Val → Option (List Bool)
  | [] => some []
  | .bl k :: r => (flagsOf r).map fun ks => k :: ks
  | _ :: _ => none
theorem flagsOf_rep {K : PySem.W.Frag} {ρ : List Addr} {H : Hp} : ∀ {vs : List V} {xs : List Val} {ns : List Bool}, Reps K ρ H vs xs → flagsOf xs = some ns → vs = ns.map V.bl
  | _, _, _, .nil, h => by simp only [flagsOf, Option.some.injEq] at h; subst h; rfl
  | _, _, ns, .cons h1 h2, h => by
    cases h1 <;> try (simp [flagsOf] at h; done)
    simp only [flagsOf, Option.map_eq_some_iff] at h
    obtain ⟨ms, e, rfl⟩ := h
    rw [flagsOf_rep h2 e]
    rfl
/-- of one list, by its items -/
def fOne {α : Type} (c : List Val → Option α) (k : α → Val) : Fn := fun vs S => match vs with
  | [x] => match (getL S x).bind c with
    | some ks => .ok (k ks) S
    | none => .bad
  | _ => .bad
abbrev fAll : Fn := fOne flagsOf fun ks => .bl (ks.all id)
abbrev fAny : Fn := fOne flagsOf fun ks => .bl (ks.any id)
abbrev fSum : Fn := fOne intsOf fun ns => .int ns.sum
theorem fOne_rep {α : Type} {c : List Val → Option α} {k : α → Val} {W' : Value → Option Addr → Hp → Prop} {ρ : List Addr} {H : Hp} {S : Store} {vs : List V} {xs : List Val} {Q : VK} (hs : Sim X.K Y ρ H S) (rx : Reps X.K ρ H vs xs) (h : Post X.K Y W' ρ H (RV X.K) Q (fOne c k xs S)) :
    ∃ q ws ys ks, vs = [.ref q] ∧ SqL X.K H q ws ∧ Reps X.K ρ H ws ys ∧ c ys = some ks ∧ ∀ v, Rep X.K ρ H v (k ks) → Q v H := by
  unfold fOne at h
  split at h
  · split at h
    · rename_i x ks e
      obtain ⟨ys, e1, e2⟩ := Option.bind_eq_some_iff.mp e
      obtain ⟨v, rfl, r⟩ := reps1 rx
      obtain ⟨q, ws, rfl, hq, r⟩ := getL_rep hs r e1
      exact ⟨q, ws, ys, ks, rfl, hq, r, e2, fun v rv => h v ρ H (Pre.refl _) (Ext.refl _) hs rv⟩
    · exact h.elim
  · exact h.elim
theorem se_all (hc : X.calm = true) (hg : Gl X "all") (hm : X.mg "all" = none) (ha : SA X Y W [e] ga) (he : starEach [e] X.env = [(false, eval e X.env)] := by rfl) : SE X Y W (.Call (.Name "all" p) [e] [] pos) (eCall fAll ga) := by
  refine se_b (cr_all hc) (fun W' ρ H S vs xs Q hs rx h => ?_) hg hm (by decide +kernel) ha (he := he)
  obtain ⟨q, ws, ys, ks, rfl, hq, r, ec, hQ⟩ := fOne_rep hs rx h
  have := flagsOf_rep r ec
  subst this
  exact ⟨q, ks, rfl, hq, hQ _ (.bl _)⟩
theorem se_any (hc : X.calm = true) (hg : Gl X "any") (hm : X.mg "any" = none) (ha : SA X Y W [e] ga) (he : starEach [e] X.env = [(false, eval e X.env)] := by rfl) : SE X Y W (.Call (.Name "any" p) [e] [] pos) (eCall fAny ga) := by
  refine se_b (cr_any hc) (fun W' ρ H S vs xs Q hs rx h => ?_) hg hm (by decide +kernel) ha (he := he)
  obtain ⟨q, ws, ys, ks, rfl, hq, r, ec, hQ⟩ := fOne_rep hs rx h
  have := flagsOf_rep r ec
  subst this
  exact ⟨q, ks, rfl, hq, hQ _ (.bl _)⟩
theorem se_sum (hc : X.calm = true) (hg : Gl X "sum") (hm : X.mg "sum" = none) (ha : SA X Y W [e] ga) (he : starEach [e] X.env = [(false, eval e X.env)] := by rfl) : SE X Y W (.Call (.Name "sum" p) [e] [] pos) (eCall fSum ga) := by
  refine se_b (cr_sum hc) (fun W' ρ H S vs xs Q hs rx h => ?_) hg hm (by decide +kernel) ha (he := he)
  obtain ⟨q, ws, ys, ks, rfl, hq, r, ec, hQ⟩ := fOne_rep hs rx h
  have := intsOf_rep r ec
  subst this
  exact ⟨q, ks, rfl, hq, hQ _ (.int _)⟩

/-! ### isinstance of built-in classes -/
def tyOf (S : Store) : Val → Option String
  | .non => some "NoneType"
  | .bl _ => some "bool"
  | .int _ => some "int"
  | .str _ => some "str"
  | .tup _ => some "tuple"
  | .frz _ => none
  | .ktp _ => none
  | .ref i => match S[i]? with
    | some (.lst _) => some "list"
    | some (.dk _) => some "dict"
    | some (.dt _) => some "dict"
    | _ => none
theorem tyOf_rep {K : PySem.W.Frag} {ρ : List Addr} {H : Hp} {S : Store} {v : V} {x : Val} {T : String} (hs : Sim K Y ρ H S) (r : Rep K ρ H v x) (h : tyOf S x = some T) : TyX K H v (.type T) := by
  cases r <;> simp only [tyOf, Option.some.injEq, reduceCtorEq] at h
  case non => subst h; exact .base .non
  case bl b => subst h; exact .base (.bl b)
  case int i => subst h; exact .base (.int i)
  case str i => subst h; exact .base (.str i)
  case tup e r => subst h; exact .base (.tup e)
  case ref a i hi =>
    split at h
    · rename_i xs e
      cases h
      obtain ⟨vs, e2, _⟩ := hs.lst hi e
      exact .base (.lst e2)
    · rename_i xs e
      cases h
      obtain ⟨vs, e2, _⟩ := hs.dk hi e
      exact .base (.dK e2)
    · rename_i xs e
      cases h
      obtain ⟨vs, e2, _⟩ := hs.dt hi e
      exact .base (.dT e2)
    · cases h
def tyNames : List String := ["NoneType", "bool", "int", "str", "tuple", "list", "dict"]
def subTy (a b : String) : Bool := a == b || (a == "bool" && b == "int")
def eIsT (T : String) (f : En → Store → Out Val) : En → Store → Out Val := fun env S => (f env S).bind fun x S1 => match tyOf S1 x with
  | some t => if t ∈ tyNames then .ok (.bl (subTy t T)) S1 else .bad
  | none => .bad
theorem se_isT {T : String} {tn : Str} {p2 : Pos} (hT : ∀ t ∈ tyNames, kitB t T = some (subTy t T)) (hg : Gl X "isinstance") (hm : X.mg "isinstance" = none) (hg2 : Gl X tn) (hm2 : X.mg tn = none) (hv : bootBuiltins tn = some (.type T)) (ha : SE X Y W e f)
    (hn : tn ≠ "__name__" := by decide) (hdb : (tn == ("__debug__" : Str)) = false := by decide)
    (he : starEach [e, .Name tn p2] X.env = (false, eval e X.env) :: starEach [.Name tn p2] X.env := by rfl) (hpl : (backTo pos (starEach [.Name tn p2] X.env)).any (·.1) = false := by rfl) (h2 : starEach [.Name tn p2] X.env = (false, eval (.Name tn p2) X.env) :: starEach [] X.env := by rfl) :
    SE X Y W (.Call (.Name "isinstance" p) [e, .Name tn p2] [] pos) (eIsT T f) := by
  refine PE.imp (pe_callB (call_isi (X := X)) hg hm (by decide +kernel) (pa_cons ha (pa_cons (pe_bltn (v := .ty T) hg2 hm2 hv rfl hn hdb) pa_nil h2) he) (he := he) (hpl := hpl)) fun σ H Q h => ?_
  refine tG.bind (k := fun _ x S1 => match tyOf S1 x with | some t => if t ∈ tyNames then Out.ok (Val.bl (subTy t T)) S1 else Out.bad | none => Out.bad) h fun ρ env v x H1 S1 he hs rx hp => ?_
  split at hp
  · rename_i t et
    split at hp
    · rename_i ht
      exact ⟨v, .ty T, .type t, .type T, subTy t T, rfl, .ty T, tyOf_rep hs rx et, kit_ty (hT t ht), hp _ ρ H1 (Pre.refl _) (Ext.refl _) hs (.bl _)⟩
    · exact hp.elim
  · exact hp.elim
end
end Mp

set_option Elab.async false
set_option linter.all false
set_option maxRecDepth 100000
/-! Statements, targets, what is walked, for. -/
namespace Mp
open PySem PySem.Spec PyProof.Rows L2

/-! ### statements -/
def PostS (K : PySem.W.Frag) (Y : Sy) (W : WX) (ρ : List Addr) (H : Hp) (D : Ends) : Res → Prop
  | .nx env S => ∀ σ' ρ' H', Pre ρ ρ' → Ext H H' → ERep K Y ρ' H' σ' env → Sim K Y ρ' H' S → D.nx σ' H'
  | .rt x S => ∀ v ρ' H', Pre ρ ρ' → Ext H H' → Sim K Y ρ' H' S → Rep K ρ' H' v x → D.rt v H'
  | .bk env S => ∀ σ' ρ' H', Pre ρ ρ' → Ext H H' → ERep K Y ρ' H' σ' env → Sim K Y ρ' H' S → D.bk σ' H'
  | .ct env S => ∀ σ' ρ' H', Pre ρ ρ' → Ext H H' → ERep K Y ρ' H' σ' env → Sim K Y ρ' H' S → D.ct σ' H'
  | .er c fs env S => ∀ cls d σ' ρ' H', Pre ρ ρ' → Ext H H' → ERep K Y ρ' H' σ' env → Sim K Y ρ' H' S → ErrRep K Y ρ' H' cls d c fs → W cls d σ' H'
  | .bad => False
theorem PostS.up {K : PySem.W.Frag} {Y : Sy} {W : WX} {ρ ρ' : List Addr} {H H' : Hp} {D : Ends} {r : Res} (p : Pre ρ ρ') (e : Ext H H') (h : PostS K Y W ρ H D r) : PostS K Y W ρ' H' D r := by
  cases r with
  | nx env S => exact fun σ2 ρ2 H2 p2 e2 => h σ2 ρ2 H2 (p.trans p2) (e.trans e2)
  | rt x S => exact fun σ2 ρ2 H2 p2 e2 => h σ2 ρ2 H2 (p.trans p2) (e.trans e2)
  | bk env S => exact fun σ2 ρ2 H2 p2 e2 => h σ2 ρ2 H2 (p.trans p2) (e.trans e2)
  | ct env S => exact fun σ2 ρ2 H2 p2 e2 => h σ2 ρ2 H2 (p.trans p2) (e.trans e2)
  | er c fs env S => exact fun c d σ2 ρ2 H2 p2 e2 => h c d σ2 ρ2 H2 (p.trans p2) (e.trans e2)
  | bad => exact h
def tS (K : PySem.W.Frag) (Y : Sy) (W : WX) (g : En → Store → Res) : TS := fun D σ H => ∃ ρ env S, ERep K Y ρ H σ env ∧ Sim K Y ρ H S ∧ PostS K Y W ρ H D (g env S)
def SS (X : Cx) (Y : Sy) (W : WX) (st : Stmt) (g : En → Store → Res) : Prop := PS X st (tS X.K Y W g)
def SSs (X : Cx) (Y : Sy) (W : WX) (st : List Stmt) (g : En → Store → Res) : Prop := PSs X st (tS X.K Y W g)
/-- from an expression's outcome to a statement's -/
theorem tS.go {α β : Type} {K : PySem.W.Frag} {Y : Sy} {W : WX} {R : RR β α} {f : En → Store → Out α} {k : En → α → Store → Res} {D : Ends} {σ : L2.St} {H : Hp} {Q' : β → Hp → Prop}
    (h : tS K Y W (fun env S => (f env S).toS env (k env)) D σ H)
    (q : ∀ ρ env v x H1 S1, ERep K Y ρ H1 σ env → Sim K Y ρ H1 S1 → R ρ H1 v x → PostS K Y W ρ H1 D (k env x S1) → Q' v H1) : tG K Y W R f σ H Q' := by
  obtain ⟨ρ, env, S, he, hs, h⟩ := h
  refine ⟨ρ, env, S, he, hs, ?_⟩
  dsimp only at h
  generalize f env S = o at h
  cases o with
  | ok x S1 =>
    intro v ρ1 H1 p e s r
    exact q ρ1 env v x H1 S1 (he.up p e) s r (PostS.up p e h)
  | err c fs S1 =>
    intro cls d ρ1 H1 p e s r
    exact h cls d σ ρ1 H1 p e (he.up p e) s r
  | bad => exact h

def sNil : En → Store → Res := fun env S => .nx env S
def sSeq (g h : En → Store → Res) : En → Store → Res := fun env S => match g env S with
  | .nx e S1 => h e S1
  | .rt v S1 => .rt v S1
  | .bk e S1 => .bk e S1
  | .ct e S1 => .ct e S1
  | .er c fs e S1 => .er c fs e S1
  | .bad => .bad
section
variable {X : Cx} {Y : Sy} {W : WX} {st : Stmt} {rest : List Stmt} {g h : En → Store → Res} {e : Expr} {f : En → Store → Out Val} {pos : Pos}
theorem ss_nil : SSs X Y W [] sNil := by
  refine PSs.imp pss_nil fun D σ H h => ?_
  obtain ⟨ρ, env, S, he, hs, h⟩ := h
  exact h σ ρ H (Pre.refl _) (Ext.refl _) he hs
theorem ss_one (h1 : SS X Y W st g) : SSs X Y W [st] g := pss_one h1
theorem ss_cons (h1 : SS X Y W st g) (h2 : SSs X Y W rest h) : SSs X Y W (st :: rest) (sSeq g h) := by
  refine PSs.imp (pss_cons h1 h2) fun D σ H hh => ?_
  obtain ⟨ρ, env, S, he, hs, hh⟩ := hh
  refine ⟨ρ, env, S, he, hs, ?_⟩
  simp only [sSeq] at hh
  generalize g env S = r at hh
  cases r with
  | nx e1 S1 => exact fun σ' ρ' H' p e q s => ⟨ρ', e1, S1, q, s, PostS.up p e hh⟩
  | rt v S1 => exact hh
  | bk v S1 => exact hh
  | ct v S1 => exact hh
  | er c fs v S1 => exact hh
  | bad => exact hh
def sBrk : En → Store → Res := fun env S => .bk env S
def sCt : En → Store → Res := fun env S => .ct env S
theorem ss_pass : SS X Y W (.Pass pos) sNil := by
  refine PS.imp ps_pass fun D σ H h => ?_
  obtain ⟨ρ, env, S, he, hs, h⟩ := h
  exact h σ ρ H (Pre.refl _) (Ext.refl _) he hs
theorem ss_doc {x j pos'} : SS X Y W (.Expr (.Constant (.str x) j pos') pos) sNil := by
  refine PS.imp ps_doc fun D σ H h => ?_
  obtain ⟨ρ, env, S, he, hs, h⟩ := h
  exact h σ ρ H (Pre.refl _) (Ext.refl _) he hs
theorem ss_break : SS X Y W (.Break pos) sBrk := by
  refine PS.imp ps_break fun D σ H h => ?_
  obtain ⟨ρ, env, S, he, hs, h⟩ := h
  exact h σ ρ H (Pre.refl _) (Ext.refl _) he hs
theorem ss_continue : SS X Y W (.Continue pos) sCt := by
  refine PS.imp ps_continue fun D σ H h => ?_
  obtain ⟨ρ, env, S, he, hs, h⟩ := h
  exact h σ ρ H (Pre.refl _) (Ext.refl _) he hs
def sExpr (f : En → Store → Out Val) : En → Store → Res := fun env S => (f env S).toS env fun _ S1 => .nx env S1
theorem ss_expr (he : SE X Y W e f) (hs : swapsWith e none pos.line X.env = pure false := by rfl) : SS X Y W (.Expr e pos) (sExpr f) := by
  refine PS.imp (ps_expr he hs) fun D σ H h => ?_
  refine tS.go (k := fun env _ S1 => .nx env S1) h fun ρ env v x H1 S1 he hs rx hp => ?_
  exact hp σ ρ H1 (Pre.refl _) (Ext.refl _) he hs
def sRet (f : En → Store → Out Val) : En → Store → Res := fun env S => (f env S).toS env fun x S1 => .rt x S1
theorem ss_ret (he : SE X Y W e f) : SS X Y W (.Return (some e) pos) (sRet f) := by
  refine PS.imp (ps_ret he) fun D σ H h => ?_
  refine tS.go (k := fun env x S1 => .rt x S1) h fun ρ env v x H1 S1 he hs rx hp => ?_
  exact hp v ρ H1 (Pre.refl _) (Ext.refl _) hs rx
def sRetN : En → Store → Res := fun _ S => .rt .non S
theorem ss_retN : SS X Y W (.Return none pos) sRetN := by
  refine PS.imp ps_retN fun D σ H h => ?_
  obtain ⟨ρ, env, S, he, hs, h⟩ := h
  exact h _ ρ H (Pre.refl _) (Ext.refl _) hs .non
def sIf (c : En → Store → Out Bool) (g h : En → Store → Res) : En → Store → Res := fun env S => (c env S).toS env fun b S1 => if b = true then g env S1 else h env S1
theorem ss_if {c : Expr} {a b : List Stmt} {fc : En → Store → Out Bool} (hc : ST X Y W c fc) (ha : SSs X Y W a g) (hb : SSs X Y W b h) : SS X Y W (.If c a b pos) (sIf fc g h) := by
  refine PS.imp (ps_if hc ha hb) fun D σ H hh => ?_
  refine tS.go (k := fun env b S1 => if b = true then g env S1 else h env S1) hh fun ρ env v x H1 S1 he hs rx hp => ?_
  subst rx
  cases v with
  | true => exact ⟨ρ, env, S1, he, hs, hp⟩
  | false => exact ⟨ρ, env, S1, he, hs, hp⟩

/-! ### targets -/
abbrev Tgt := Val → En → Option En
abbrev Tgts := List Val → En → Option En
/-- only the slots of L may be another -/
def SameBut (L : List Nat) (σ σ' : L2.St) : Prop := σ'.length = σ.length ∧ ∀ i, i ∉ L → σ'[i]? = σ[i]?
def tTg (K : PySem.W.Frag) (Y : Sy) (L : List Nat) (t : Tgt) : TG := fun v σ H Q => ∃ ρ env x env', ERep K Y ρ H σ env ∧ Rep K ρ H v x ∧ t x env = some env' ∧ ∀ σ', ERep K Y ρ H σ' env' → SameBut L σ σ' → Q σ' H
def tTgs (K : PySem.W.Frag) (Y : Sy) (L : List Nat) (t : Tgts) : TGs := fun v σ H Q => ∃ ρ env x env', ERep K Y ρ H σ env ∧ Reps K ρ H v x ∧ t x env = some env' ∧ ∀ σ', ERep K Y ρ H σ' env' → SameBut L σ σ' → Q σ' H
def SG (X : Cx) (Y : Sy) (tg : Expr) (L : List Nat) (t : Tgt) : Prop := PG X tg (tTg X.K Y L t)
def SGs (X : Cx) (Y : Sy) (tg : List Expr) (L : List Nat) (t : Tgts) : Prop := PGs X tg (tTgs X.K Y L t)
theorem PG.imp {X : Cx} {e : Expr} {t t' : TG} (h : PG X e t) (k : ∀ v σ H Q, t' v σ H Q → t v σ H Q) : PG X e t' := ⟨fun pins s σ H v u Q I r q => h.run pins s σ H v u Q I r (k v σ H Q q)⟩
theorem PGs.imp {X : Cx} {e : List Expr} {t t' : TGs} (h : PGs X e t) (k : ∀ v σ H Q, t' v σ H Q → t v σ H Q) : PGs X e t' := ⟨fun pins s σ H v u Q I r q => h.run pins s σ H v u Q I r (k v σ H Q q)⟩
def gN (i : Nat) : Tgt := fun x env => some (env.set i (some x))
theorem sg_name {i : Nat} {x : Str} (hy : Y.xi = none) (hN : X.N.Nodup) (hi : X.N[i]? = some x) (hx : Loc X.env.scope x) (hf : X.fn x = true ∨ X.env.scope.names.lookup x = some .local := by first | exact .inl rfl | exact .inr rfl | assumption) : SG X Y (.Name x pos) [i] (gN i) := by
  refine PG.imp (pg_name hN hi hx hf) fun v σ H Q h => ?_
  obtain ⟨ρ, env, x, env', he, hr, e, q⟩ := h
  cases e
  refine q _ (he.set hr hy) ⟨by simp, fun j hj => ?_⟩
  simp at hj
  exact List.getElem?_set_ne (Ne.symm hj)
def gNo : Tgts := fun xs env => match xs with
  | [] => some env
  | _ => none
def gCo (t : Tgt) (u : Tgts) : Tgts := fun xs env => match xs with
  | x :: r => (t x env).bind fun e => u r e
  | [] => none
theorem sgs_nil : SGs X Y [] [] gNo := by
  refine PGs.imp pgs_nil fun v σ H Q h => ?_
  obtain ⟨ρ, env, x, env', he, hr, e, q⟩ := h
  cases hr with
  | nil => cases e; exact ⟨rfl, q σ he ⟨rfl, fun _ _ => rfl⟩⟩
  | cons a b => cases e
theorem sgs_cons {es : List Expr} {L L' : List Nat} {t : Tgt} {u : Tgts} (h1 : SG X Y e L t) (h2 : SGs X Y es L' u)
    (hs : (assignEach (e :: es) X.env).map (·.2) = assign e X.env :: (assignEach es X.env).map (·.2) := by rfl) : SGs X Y (e :: es) (L ++ L') (gCo t u) := by
  refine PGs.imp (pgs_cons h1 h2 hs) fun v σ H Q h => ?_
  obtain ⟨ρ, env, x, env', he, hr, e, q⟩ := h
  cases hr with
  | nil => cases e
  | @cons v vs x xs a b =>
    obtain ⟨e1, q1, q2⟩ := Option.bind_eq_some_iff.mp (show (t x env).bind (fun e => u xs e) = some env' from e)
    refine ⟨v, vs, rfl, ρ, env, x, e1, he, a, q1, fun σ1 he1 s1 => ?_⟩
    exact ⟨ρ, e1, xs, env', he1, b, q2, fun σ2 he2 s2 => q σ2 he2 ⟨s2.1.trans s1.1, fun i hi => by
      rw [List.mem_append] at hi
      rw [s2.2 i fun z => hi (.inr z), s1.2 i fun z => hi (.inl z)]⟩⟩
def gT (n : Nat) (u : Tgts) : Tgt := fun x env => match x with
  | .tup xs => if xs.length = n then u xs env else none
  | _ => none
theorem sg_tup {es : List Expr} {k : Nat} {L : List Nat} {u : Tgts} {n : Nat} (hc : X.calm = true) (h : SGs X Y es L u)
    (hn : (assignEach es X.env).length = n := by rfl) (hst : (assignEach es X.env).findIdx? (·.1) = none := by rfl) : SG X Y (.Tuple es k pos) L (gT n u) := by
  refine PG.imp (pg_tup hc h hn hst) fun v σ H Q h => ?_
  obtain ⟨ρ, env, x, env', he, hr, e, q⟩ := h
  cases hr <;> try (simp [gT] at e; done)
  rename_i a vs xs e1 r
  simp only [gT] at e
  split at e
  · rename_i hl
    exact ⟨a, vs, rfl, SqT.of e1, r.length.trans hl, ρ, env, xs, env', he, r, e, q⟩
  · cases e
def sAsg (f : En → Store → Out Val) (t : Tgt) : En → Store → Res := fun env S => (f env S).toS env fun x S1 => match t x env with
  | some e => .nx e S1
  | none => .bad
theorem asg_of {L : List Nat} {t : Tgt} {D : Ends} {σ : L2.St} {H : Hp} (h : tS X.K Y W (sAsg f t) D σ H) : tAsg (tG X.K Y W (RV X.K) f) (tTg X.K Y L t) D σ H := by
  refine tS.go (k := fun env x S1 => match t x env with | some e => .nx e S1 | none => .bad) h fun ρ env v x H1 S1 he hs rx hp => ?_
  split at hp
  · rename_i e' q
    exact ⟨ρ, env, x, e', he, rx, q, fun σ' he' _ => hp σ' ρ H1 (Pre.refl _) (Ext.refl _) he' hs⟩
  · exact hp.elim
theorem ss_asg {tg : Expr} {L : List Nat} {t : Tgt} (he : SE X Y W e f) (hg : SG X Y tg L t) (hs : swapsWithSole [tg] e pos.line X.env = pure false := by rfl) (hw : swappedStores [tg] e X.env = pure none := by rfl)
    (h1 : (assignEach [tg] X.env).map (·.2) = [assign tg X.env] := by rfl) : SS X Y W (.Assign [tg] e pos) (sAsg f t) :=
  PS.imp (ps_asg he hg hs hw h1) fun _ _ _ h => asg_of h
abbrev sSet (i : Nat) (f : En → Store → Out Val) : En → Store → Res := sAsg f (gN i)
theorem ss_set {i : Nat} {x : Str} {pos' : Pos} (hy : Y.xi = none) (hN : X.N.Nodup) (hi : X.N[i]? = some x) (hx : Loc X.env.scope x) (he : SE X Y W e f) (hs : swapsWith e (some (.Name x pos')) pos.line X.env = pure false := by rfl) (hf : X.fn x = true ∨ X.env.scope.names.lookup x = some .local := by first | exact .inl rfl | exact .inr rfl | assumption) :
    SS X Y W (.Assign [.Name x pos'] e pos) (sSet i f) := by
  refine PS.imp (ps_set hN hi hx he hs hf) fun D σ H h => ?_
  refine tS.go (k := fun env x S1 => match gN i x env with | some e => .nx e S1 | none => .bad) h fun ρ env v x H1 S1 he hs rx hp => ?_
  exact hp _ ρ H1 (Pre.refl _) (Ext.refl _) (he.set rx hy) hs
/-- a, b = e1, e2: two local names -/
def kPar (i j : Nat) (env : En) (xs : List Val) (S1 : Store) : Res := match xs with
  | [x, y] => .nx ((env.set i (some x)).set j (some y)) S1
  | _ => .bad
def sPar (i j : Nat) (r : En → Store → Out (List Val)) : En → Store → Res := fun env S => (r env S).toS env (kPar i j env)
theorem ss_par {i j : Nat} {x y : Str} {a b : Expr} {ra : En → Store → Out (List Val)} {px py pt : Pos} {kt k2 pt2} (hh : Y.xi = none) (hc : X.calm = true) (hN : X.N.Nodup) (hi : X.N[i]? = some x) (hj : X.N[j]? = some y) (hij : i ≠ j)
    (hx : X.env.scope.names.lookup x = some .local) (hy : X.env.scope.names.lookup y = some .local) (ha : SA X Y W [a, b] ra)
    (hw : swappedStores [.Tuple [.Name x px, .Name y py] kt pt] (.Tuple [a, b] k2 pt2) X.env = pure (some [x, y]))
    (hs : swapsWithSole [.Tuple [.Name x px, .Name y py] kt pt] (.Tuple [a, b] k2 pt2) pos.line X.env = pure false := by rfl) :
    SS X Y W (.Assign [.Tuple [.Name x px, .Name y py] kt pt] (.Tuple [a, b] k2 pt2) pos) (sPar i j ra) := by
  refine PS.imp (ps_par hc hN hi hj hij hx hy ha hw hs) fun D σ H h => ?_
  refine tS.go (k := kPar i j) h fun ρ env vs xs H1 S1 he hs rx hp => ?_
  unfold kPar at hp
  split at hp
  · rename_i x y
    obtain ⟨v, w, rfl, r1, r2⟩ := reps2 rx
    exact ⟨v, w, rfl, hp _ ρ H1 (Pre.refl _) (Ext.refl _) ((he.set r1 hh).set r2 hh) hs⟩
  · exact hp.elim
end

/-! ### what is walked -/
abbrev Itm := List Val × (Store → Prop)
structure JRep (K : PySem.W.Frag) (Y : Sy) (ρ0 : List Addr) (H0 : Hp) (J : It) (p : Itm) : Prop where
  go : ∀ i ρ H S, Pre ρ0 ρ → Ext H0 H → Sim K Y ρ H S → p.2 S → i < p.1.length → J.go i H
  st : ∀ i ρ H S, Pre ρ0 ρ → Ext H0 H → Sim K Y ρ H S → p.2 S → p.1.length ≤ i → J.stop i H
  yl : ∀ i ρ H S v H', Pre ρ0 ρ → Ext H0 H → Sim K Y ρ H S → p.2 S → i < p.1.length → J.yld i H v H' → ∃ x, p.1[i]? = some x ∧ Ext H H' ∧ Sim K Y ρ H' S ∧ Rep K ρ H' v x
abbrev RJ (K : PySem.W.Frag) (Y : Sy) : RR It Itm := fun ρ H J p => JRep K Y ρ H J p
def SI (X : Cx) (Y : Sy) (W : WX) (tg iter : Expr) (f : En → Store → Out Itm) : Prop := PI X tg iter (tG X.K Y W (RJ X.K Y) f)
theorem PI.imp {X : Cx} {tg e : Expr} {t t' : TI} (h : PI X tg e t) (k : ∀ σ H Q, t' σ H Q → t σ H Q) : PI X tg e t' := ⟨fun pins s σ H R I q => h.run pins s σ H R I (k σ H R q)⟩
section
variable {K : PySem.W.Frag} {Y : Sy} {ρ : List Addr} {H : Hp}
theorem JRep.tup {a : Addr} {vs : List V} {xs : List Val} (e : H a = some (.tup vs)) (r : Reps K ρ H vs xs) : JRep K Y ρ H (Itt K a) (xs, fun _ => True) := by
  have key : ∀ ρ' H', Pre ρ ρ' → Ext H H' → SqT K H' a vs ∧ Reps K ρ' H' vs xs := fun ρ' H' p q => ⟨SqT.of (q _ _ trivial e), r.up p q⟩
  refine ⟨fun i ρ' H' S p q s _ hi => ?_, fun i ρ' H' S p q s _ hi => ?_, fun i ρ' H' S v H2 p q s _ hi hy => ?_⟩
  · obtain ⟨h1, h2⟩ := key ρ' H' p q
    have hl : i < vs.length := by rw [h2.length]; exact hi
    exact ⟨vs, vs[i], h1, List.getElem?_eq_getElem hl⟩
  · obtain ⟨h1, h2⟩ := key ρ' H' p q
    exact ⟨vs, h1, by rw [h2.length]; exact hi⟩
  · obtain ⟨h1, h2⟩ := key ρ' H' p q
    obtain ⟨rfl, hv⟩ := hy
    obtain ⟨x, e1, r1⟩ := h2.getV (hv vs h1)
    exact ⟨x, e1, Ext.refl _, s, r1⟩
theorem JRep.frz {a : Addr} {vs : List V} {xs : List Val} (e : Fzl K H a vs) (r : Reps K ρ H vs xs) : JRep K Y ρ H (Itl K a) (xs, fun _ => True) := by
  have key : ∀ ρ' H', Pre ρ ρ' → Ext H H' → SqL K H' a vs ∧ Reps K ρ' H' vs xs := fun ρ' H' p q => ⟨(e.up q).sq, r.up p q⟩
  refine ⟨fun i ρ' H' S p q s _ hi => ?_, fun i ρ' H' S p q s _ hi => ?_, fun i ρ' H' S v H2 p q s _ hi hy => ?_⟩
  · obtain ⟨h1, h2⟩ := key ρ' H' p q
    have hl : i < vs.length := by rw [h2.length]; exact hi
    exact ⟨vs, vs[i], h1, List.getElem?_eq_getElem hl⟩
  · obtain ⟨h1, h2⟩ := key ρ' H' p q
    exact ⟨vs, h1, by rw [h2.length]; exact hi⟩
  · obtain ⟨h1, h2⟩ := key ρ' H' p q
    obtain ⟨rfl, hv⟩ := hy
    obtain ⟨x, e1, r1⟩ := h2.getV (hv vs h1)
    exact ⟨x, e1, Ext.refl _, s, r1⟩
theorem JRep.lst {a : Addr} {n : Nat} {xs : List Val} (hn : ρ[n]? = some a) : JRep K Y ρ H (Itl K a) (xs, fun S => S[n]? = some (.lst xs)) := by
  have key : ∀ ρ' H' S, Pre ρ ρ' → Sim K Y ρ' H' S → S[n]? = some (.lst xs) → ∃ vs, SqL K H' a vs ∧ Reps K ρ' H' vs xs := fun ρ' H' S p s c => by
    obtain ⟨vs, e, r⟩ := s.lst (p _ _ hn) c
    exact ⟨vs, SqL.of e, r⟩
  refine ⟨fun i ρ' H' S p q s c hi => ?_, fun i ρ' H' S p q s c hi => ?_, fun i ρ' H' S v H2 p q s c hi hy => ?_⟩
  · obtain ⟨vs, h1, h2⟩ := key ρ' H' S p s c
    have hl : i < vs.length := by rw [h2.length]; exact hi
    exact ⟨vs, vs[i], h1, List.getElem?_eq_getElem hl⟩
  · obtain ⟨vs, h1, h2⟩ := key ρ' H' S p s c
    exact ⟨vs, h1, by rw [h2.length]; exact hi⟩
  · obtain ⟨vs, h1, h2⟩ := key ρ' H' S p s c
    obtain ⟨rfl, hv⟩ := hy
    obtain ⟨x, e1, r1⟩ := h2.getV (hv vs h1)
    exact ⟨x, e1, Ext.refl _, s, r1⟩
end
/-- the items of a list or a tuple; a list must stay as it is while it is walked -/
def walkOf (S : Store) : Val → Option Itm
  | .tup xs => some (xs, fun _ => True)
  | .frz xs => some (xs, fun _ => True)
  | .ref n => match S[n]? with
    | some (.lst xs) => some (xs, fun S' => S'[n]? = some (.lst xs))
    | _ => none
  | _ => none
def iSeq (f : En → Store → Out Val) : En → Store → Out Itm := fun env S => (f env S).bind fun x S1 => match walkOf S1 x with
  | some p => .ok p S1
  | none => .bad
theorem walkOf_rep {K : PySem.W.Frag} {Y : Sy} {ρ : List Addr} {H : Hp} {S : Store} {v : V} {x : Val} {p : Itm} (hs : Sim K Y ρ H S) (r : Rep K ρ H v x) (h : walkOf S x = some p) :
    ∃ a, v = .ref a ∧ (((∃ vs, SqL K H a vs) ∧ JRep K Y ρ H (Itl K a) p) ∨ ((∃ vs, SqT K H a vs) ∧ JRep K Y ρ H (Itt K a) p)) := by
  cases r <;> try (simp [walkOf] at h; done)
  case tup a vs xs e r => cases h; exact ⟨a, rfl, .inr ⟨⟨vs, SqT.of e⟩, JRep.tup e r⟩⟩
  case frz a vs xs e r => cases h; exact ⟨a, rfl, .inl ⟨⟨vs, e.sq⟩, JRep.frz e r⟩⟩
  case ref a i hi =>
    simp only [walkOf] at h
    split at h
    · rename_i xs e
      cases h
      obtain ⟨vs, e2, r2⟩ := hs.lst hi e
      exact ⟨a, rfl, .inl ⟨⟨vs, SqL.of e2⟩, JRep.lst hi⟩⟩
    · cases h
def iLT (K : PySem.W.Frag) (tl : TE) : TI := fun σ H R => tl σ H fun x H1 => ∃ a, x = .ref a ∧ (((∃ xs, SqL K H1 a xs) ∧ R (Itl K a) H1) ∨ ((∃ xs, SqT K H1 a xs) ∧ R (Itt K a) H1))
section
variable {X : Cx} {Y : Sy} {W : WX} {tg e : Expr} {f : En → Store → Out Val}
/-- both ways at once: by what the value turns out to be -/
theorem pi_lt {te : TE} (he : PE X e te) : PI X tg e (iLT X.K te) := by
  refine ⟨fun pins s σ H R I h => ?_⟩
  refine thn (he.run pins s σ H _ I h) fun v s1 ⟨x, H1, I1, r1, q1⟩ => ?_
  obtain ⟨a, e, q⟩ := q1
  subst e
  cases r1
  have fre : ∀ b ∈ [s1.heap.objs.size], FpOk X pins H1 b := fun b hb => by
    have e : b = s1.heap.objs.size := by simpa using hb
    subst e
    exact I1.fpOk (Nat.le_refl _) (I1.hok.fresh (Nat.le_refl _))
  rcases q with ⟨⟨xs, hq⟩, q⟩ | ⟨⟨xs, hq⟩, q⟩
  · obtain ⟨its, rv, p, hz⟩ := I1.list hq
    refine wpAny_pyIter_list p.isList ?_
    exact ⟨s1.heap.objs.size, [s1.heap.objs.size], _, _, H1, rfl, I1.kept (t' := s1.toks) fun b o e => Heap.get?_push_of_some _ e, turn_list a _, ⟨_, Heap.get?_push_size _ rfl, rfl, rfl⟩, fre, q⟩
  · obtain ⟨its, rv, p, hz⟩ := I1.tuple hq
    refine wpAny_pyIter_tuple (show s1.heap.IsTuple a its.toArray from p) ?_
    exact ⟨s1.heap.objs.size, [s1.heap.objs.size], _, _, H1, rfl, I1.kept (t' := s1.toks) fun b o e => Heap.get?_push_of_some _ e, turn_tuple a _, ⟨_, Heap.get?_push_size _ rfl, rfl, rfl⟩, fre, q⟩
theorem si_seq (he : SE X Y W e f) : SI X Y W tg e (iSeq f) := by
  refine PI.imp (pi_lt he) fun σ H R h => ?_
  refine tG.bind (k := fun env x S1 => match walkOf S1 x with | some p => Out.ok p S1 | none => Out.bad) h fun ρ env v x H1 S1 he hs rx hp => ?_
  split at hp
  · rename_i p ep
    obtain ⟨a, e1, hh⟩ := walkOf_rep hs rx ep
    refine ⟨a, e1, ?_⟩
    rcases hh with ⟨h1, h2⟩ | ⟨h1, h2⟩
    · exact .inl ⟨h1, hp _ ρ H1 (Pre.refl _) (Ext.refl _) hs h2⟩
    · exact .inr ⟨h1, hp _ ρ H1 (Pre.refl _) (Ext.refl _) hs h2⟩
  · exact hp.elim
/-- lo, lo + 1, .. -/
def upL (lo : Int) (n : Nat) : List Val := (List.range n).map fun (k : Nat) => Val.int (lo + k)
theorem JRep.rng {K : PySem.W.Frag} {ρ : List Addr} {H : Hp} {lo : Int} {n : Nat} : JRep K Y ρ H (Itr lo n) (upL lo n, fun _ => True) := by
  refine ⟨fun i ρ' H' S p q s _ hi => ?_, fun i ρ' H' S p q s _ hi => ?_, fun i ρ' H' S v H2 p q s _ hi hy => ?_⟩
  · show i < n
    simpa [upL] using hi
  · show n ≤ i
    simpa [upL] using hi
  · obtain ⟨rfl, rfl⟩ := hy
    have hi' : i < n := by simpa [upL] using hi
    exact ⟨.int (lo + i), by simp [upL, hi'], Ext.refl _, s, .int _⟩
def RNG : Int := 2 ^ 60
def all1 : Store → Prop := fun _ => True
noncomputable def k1R (xs : List Val) (S1 : Store) : Out Itm := match xs with
  | [.int j] => @ite _ (-RNG ≤ j ∧ j < RNG) (Classical.propDecidable _) (.ok (upL 0 j.toNat, fun _ => True) S1) .bad
  | _ => .bad
noncomputable def k2R (xs : List Val) (S1 : Store) : Out Itm := match xs with
  | [.int i, .int j] => @ite _ ((-RNG ≤ i ∧ i < RNG) ∧ -RNG ≤ j ∧ j < RNG) (Classical.propDecidable _) (.ok (upL i (j - i).toNat, fun _ => True) S1) .bad
  | _ => .bad
noncomputable def iR1 (fa : En → Store → Out (List Val)) : En → Store → Out Itm := fun env S => (fa env S).bind k1R
noncomputable def iR2 (fa : En → Store → Out (List Val)) : En → Store → Out Itm := fun env S => (fa env S).bind k2R
theorem si_r1 {a : Expr} {fa : En → Store → Out (List Val)} {p pos : Pos} (hg : Gl X "range") (hm : X.mg "range" = none) (ha : SA X Y W [a] fa) (hs : starEach [a] X.env = [(false, eval a X.env)] := by rfl) : SI X Y W tg (.Call (.Name "range" p) [a] [] pos) (iR1 fa) := by
  refine PI.imp (pi_range1 hg hm ha hs) fun σ H R h => ?_
  refine tG.bind (k := fun _ => k1R) h fun ρ env vs xs H1 S1 he hs rx hp => ?_
  unfold k1R at hp
  split at hp
  · rename_i j
    split at hp
    · rename_i hj
      obtain ⟨v, rfl, r⟩ := reps1 rx
      cases r
      have h1 : (RNG : Int) = 2 ^ 60 := rfl
      exact ⟨j, rfl, by omega, by omega, hp _ ρ H1 (Pre.refl _) (Ext.refl _) hs JRep.rng⟩
    · exact hp.elim
  · exact hp.elim
theorem si_r2 {a b : Expr} {fa : En → Store → Out (List Val)} {p pos : Pos} (hg : Gl X "range") (hm : X.mg "range" = none) (ha : SA X Y W [a, b] fa) (hs : starEach [a, b] X.env = [(false, eval a X.env), (false, eval b X.env)] := by rfl) (hs2 : starEach [b] X.env = [(false, eval b X.env)] := by rfl) : SI X Y W tg (.Call (.Name "range" p) [a, b] [] pos) (iR2 fa) := by
  refine PI.imp (pi_range2 hg hm ha hs hs2) fun σ H R h => ?_
  refine tG.bind (k := fun _ => k2R) h fun ρ env vs xs H1 S1 he hs rx hp => ?_
  unfold k2R at hp
  split at hp
  · rename_i i j
    split at hp
    · rename_i hj
      obtain ⟨v, w, rfl, r1, r2⟩ := reps2 rx
      cases r1; cases r2
      have h1 : (RNG : Int) = 2 ^ 60 := rfl
      exact ⟨i, j, rfl, by omega, hp _ ρ H1 (Pre.refl _) (Ext.refl _) hs JRep.rng⟩
    · exact hp.elim
  · exact hp.elim
end

/-! ### for -/
open Classical in
noncomputable def forX (ck : Store → Prop) (t : Tgt) (g : En → Store → Res) : List Val → En → Store → Res
  | [], env, S => if ck S then .nx env S else .bad
  | x :: r, env, S => if ck S then (match t x env with
    | none => .bad
    | some e => match g e S with
      | .nx e1 S1 => forX ck t g r e1 S1
      | .ct e1 S1 => forX ck t g r e1 S1
      | .bk e1 S1 => .nx e1 S1
      | .rt v S1 => .rt v S1
      | .er c fs e1 S1 => .er c fs e1 S1
      | .bad => .bad) else .bad
noncomputable def sFor (fi : En → Store → Out Itm) (t : Tgt) (g : En → Store → Res) : En → Store → Res := fun env S => (fi env S).toS env fun p S1 => forX p.2 t g p.1 env S1
section
variable {X : Cx} {Y : Sy} {W : WX} {tg iter : Expr} {body : List Stmt} {fi : En → Store → Out Itm} {L : List Nat} {t : Tgt} {g : En → Store → Res} {pos : Pos}
theorem ss_for (hp : PassesOwn (model X.prog X.w) X.A X.env X.xe) (hc : X.calm = true) (hi : SI X Y W tg iter fi) (hg : SG X Y tg L t) (hb : SSs X Y W body g)
    (hs : ∀ x, foldedSetIterable iter X.env x = pure x := by intro _; rfl) : SS X Y W (.For tg iter body [] pos) (sFor fi t g) := by
  refine PS.imp (ps_for hp hc hi hg hb hs) fun D σ0 H0 h => ?_
  refine tS.go (k := fun env (p : Itm) S1 => forX p.2 t g p.1 env S1) h fun ρ0 env0 J p H1 S0 he0 hs0 rj hp0 => ?_
  refine ⟨fun i m σ H => ∃ ρ env S, m = p.1.length - i ∧ i ≤ p.1.length ∧ Pre ρ0 ρ ∧ Ext H1 H ∧ ERep X.K Y ρ H σ env ∧ Sim X.K Y ρ H S ∧ PostS X.K Y W ρ H D (forX p.2 t g (p.1.drop i) env S),
    ⟨_, ρ0, env0, S0, rfl, Nat.zero_le _, Pre.refl _, Ext.refl _, he0, hs0, hp0⟩, fun i m σ H hw => ?_⟩
  obtain ⟨ρ, env, S, rfl, hi, pr, ex, he, hs, hp⟩ := hw
  by_cases hlt : i < p.1.length
  · have ed : p.1.drop i = p.1[i] :: p.1.drop (i + 1) := List.drop_eq_getElem_cons hlt
    rw [ed] at hp
    simp only [forX] at hp
    split at hp
    · rename_i hck
      refine .inr ⟨rj.go i ρ H S pr ex hs hck hlt, fun σ' H' => ∃ ρ env S, Pre ρ0 ρ ∧ Ext H1 H' ∧ ERep X.K Y ρ H' σ' env ∧ Sim X.K Y ρ H' S ∧ PostS X.K Y W ρ H' D (forX p.2 t g (p.1.drop (i + 1)) env S), fun σ' H' hn => ?_, fun v H' hy => ?_⟩
      · obtain ⟨ρ', env', S', a1, a2, a3, a4, a5⟩ := hn
        exact ⟨p.1.length - (i + 1), by omega, ρ', env', S', rfl, by omega, a1, a2, a3, a4, a5⟩
      · obtain ⟨x, ex1, ex2, hs2, rx⟩ := rj.yl i ρ H S v H' pr ex hs hck hlt hy
        have exx : p.1[i] = x := by
          rw [List.getElem?_eq_getElem hlt] at ex1
          exact Option.some.inj ex1
        rw [exx] at hp
        split at hp
        · exact hp.elim
        · rename_i e1 te
          refine ⟨ρ, env, x, e1, he.up (Pre.refl _) ex2, rx, te, fun σ2 he2 _ => ?_⟩
          refine ⟨ρ, e1, S, he2, hs2, ?_⟩
          have ex3 : Ext H1 H' := ex.trans ex2
          generalize hgr : g e1 S = r at hp
          cases r with
          | nx e2 S2 => exact fun σ3 ρ3 H3 p3 q3 r3 s3 => ⟨ρ3, e2, S2, pr.trans p3, ex3.trans q3, r3, s3, PostS.up p3 (ex2.trans q3) hp⟩
          | ct e2 S2 => exact fun σ3 ρ3 H3 p3 q3 r3 s3 => ⟨ρ3, e2, S2, pr.trans p3, ex3.trans q3, r3, s3, PostS.up p3 (ex2.trans q3) hp⟩
          | bk e2 S2 => exact fun σ3 ρ3 H3 p3 q3 r3 s3 => hp σ3 ρ3 H3 p3 (ex2.trans q3) r3 s3
          | rt v S2 => exact fun v ρ3 H3 p3 q3 r3 s3 => hp v ρ3 H3 p3 (ex2.trans q3) r3 s3
          | er c fs e2 S2 => exact fun c d σ3 ρ3 H3 p3 q3 r3 s3 => hp c d σ3 ρ3 H3 p3 (ex2.trans q3) r3 s3
          | bad => exact hp
    · exact hp.elim
  · have ed : p.1.drop i = [] := List.drop_eq_nil_of_le (by omega)
    rw [ed] at hp
    simp only [forX] at hp
    split at hp
    · rename_i hck
      exact .inl ⟨rj.st i ρ H S pr ex hs hck (by omega), hp σ ρ H (Pre.refl _) (Ext.refl _) he hs⟩
    · exact hp.elim
end
end Mp

set_option Elab.async false
set_option linter.all false
set_option maxRecDepth 100000
/-! Own defs, comprehensions, methods of lists, stores. -/
namespace Mp
open PySem PySem.Spec PyProof.Rows L2

/-! ### the context of a body -/
structure Cc (X : Cx) (Y : Sy) (W : WX) (k : Nat) : Prop where
  calm : X.calm = true
  nd : X.N.Nodup
  xi : Y.xi = none
  hp : PassesOwn (model X.prog X.w) X.A X.env X.xe
  tk : Takes X W
  room : Room k X.A
theorem Cc.u0 {X : Cx} {Y : Sy} {W : WX} {k : Nat} (c : Cc X Y W k) : X.A.units < cLine := c.room.units0
theorem Cc.u1 {X : Cx} {Y : Sy} {W : WX} {k : Nat} (c : Cc X Y W k) : X.A.units + 1 < cLine := by have := c.room.units; omega
theorem Cc.u64 {X : Cx} {Y : Sy} {W : WX} {k : Nat} (c : Cc X Y W k) : X.A.units + 64 < cLine := c.room.units
theorem Cc.u65 {X : Cx} {Y : Sy} {W : WX} {k : Nat} (c : Cc X Y W k) : X.A.units + 65 < cLine := by have := c.room.un; omega
abbrev W0 : WX := fun _ _ _ _ => False
theorem Cc.blk {X : Cx} {Y : Sy} {W : WX} {k : Nat} (c : Cc X Y W k) (s : Shared) (H : Hp) (scope : Scope) (cenv : Env) (fp : List Addr) : Cc (X.blk s H scope cenv fp) Y W0 k :=
  ⟨c.calm, c.nd, c.xi, PassesOwn.never, takes0, c.room⟩

/-! ### defs of the text -/
def spOf (K : PySem.W.Frag) (Y : Sy) (n : Nat) (g : Fn) : Sp := fun vs H Q E => vs.length = n ∧ ∃ ρ xs S, Reps K ρ H vs xs ∧ Sim K Y ρ H S ∧ Post K Y (fun cls d H' => E cls d H') ρ H (RV K) Q (g xs S)
def fnB (N n : Nat) (g : En → Store → Res) : Fn := fun xs S => if xs.length = n then (match g (xs.map some ++ List.replicate (N - n) none) S with
  | .nx _ S1 => .ok .non S1
  | .rt v S1 => .ok v S1
  | .er c fs _ S1 => .err c fs S1
  | _ => .bad) else .bad
def Arity (n : Nat) (g : Fn) : Prop := ∀ xs S, xs.length ≠ n → g xs S = .bad
theorem arity_fnB {N n : Nat} {g : En → Store → Res} : Arity n (fnB N n g) := fun xs S h => by unfold fnB; rw [if_neg h]
theorem fn_ok {P : Program} {w : World} {K : PySem.W.Frag} {mg : Str → Option Value} {base : Heap} {Y : Sy} {x qual : Str} {st : Stmt} {f : Addr} {fd : FuncData} {N ps : List Str} {k : Nat} {g : En → Store → Res} (F : Fun K x qual st f fd) (S : FnScope N ps (defScope st)) (hy : Y.xi = none)
    (hb : ∀ cdv A outer s H E, Cc (cxOf (L2.CX P w) P w K mg base N qual (defScope st) f cdv A outer s H E) Y (fun cls d _ H' => E cls d H') k →
      SSs (cxOf (L2.CX P w) P w K mg base N qual (defScope st) f cdv A outer s H E) Y (fun cls d _ H' => E cls d H') (defBody st) g) :
    FnOk P w K mg base (L2.CX P w) (k + 1) f fd ps (spOf K Y ps.length (fnB N.length ps.length g)) := by
  refine F.okX S (fun vs H Q E h => h.1) fun cdv A outer s H vs Q E hr h => ?_
  refine ⟨_, hb cdv A outer s H E ⟨rfl, S.nd, hy, passes_of rfl, takes_of rfl rfl rfl rfl, hr⟩, ?_⟩
  obtain ⟨hl, ρ, xs, S0, rx, hs, hp⟩ := h
  have hl2 : xs.length = ps.length := rx.length.symm.trans hl
  unfold fnB at hp
  rw [if_pos hl2] at hp
  refine ⟨ρ, xs.map some ++ List.replicate (N.length - ps.length) none, S0, ⟨?_, fun i x hi => ?_, fun n a cv d fs q => by rw [hy] at q; cases q⟩, hs, ?_⟩
  · unfold L2.start
    simp [rx.length, hl2]
  · unfold L2.start
    by_cases hi2 : i < xs.length
    · rw [List.getElem?_append_left (by simpa using hi2), List.getElem?_map] at hi
      have hx : xs[i]? = some x := by
        rw [List.getElem?_eq_getElem hi2] at hi ⊢
        simpa using hi
      obtain ⟨v, h1, h2⟩ := rx.get hx
      refine ⟨v, ?_, h2⟩
      rw [List.getElem?_append_left (by simpa [rx.length] using hi2), List.getElem?_map, h1]
      rfl
    · rw [List.getElem?_append_right (by simpa using Nat.le_of_not_lt hi2)] at hi
      have := List.mem_of_getElem? hi
      simp [List.mem_replicate] at this
  · show PostS K Y _ ρ H _ (g _ S0)
    generalize hgr : g (xs.map some ++ List.replicate (N.length - ps.length) none) S0 = r at hp
    cases r with
    | nx e1 S1 => exact fun σ' ρ' H' p e q s => hp _ ρ' H' p e s .non
    | rt v S1 => exact fun v ρ' H' p e s r => hp v ρ' H' p e s r
    | bk e1 S1 => exact (show False from hp).elim
    | ct e1 S1 => exact (show False from hp).elim
    | er c fs e1 S1 => exact fun cls d σ' ρ' H' p e q s r => hp cls d ρ' H' p e s r
    | bad => exact hp
section
variable {X : Cx} {Y : Sy} {W : WX} {k kc : Nat} {e : Expr} {es : List Expr} {ga : En → Store → Out (List Val)} {p pos : Pos} {x : Str} {g : Fn} {f : Addr} {fd : FuncData} {ps : List Str} {n : Nat}
theorem se_call (c : Cc X Y W kc) (F : FnOk X.prog X.w X.K X.mg X.base (L2.CX X.prog X.w) k f fd ps (spOf X.K Y n g)) (har : Arity n g) (hk : k ≤ kc) (hg : Gl X x) (hm : X.mg x = some (.ref f)) (kp : PySem.W.keepIn X.K (.ref f) = true) (hb : Binds X.K fd ps []) (ha : SA X Y W (e :: es) ga)
    (hdb : (x == ("__debug__" : Str)) = false := by decide) (he : starEach (e :: es) X.env = (false, eval e X.env) :: starEach es X.env := by rfl) (hpl : (backTo pos (starEach es X.env)).any (·.1) = false := by rfl) : SE X Y W (.Call (.Name x p) (e :: es) [] pos) (eCall g ga) := by
  refine PE.imp (pe_callS (F.mono hk) c.room hg hm kp hb (fun σ => passAt c.tk σ) ha hdb he hpl) fun σ H Q h => ?_
  refine tG.bind (k := fun _ => g) h fun ρ env vs xs H1 S1 he hs rx hp => ?_
  refine ⟨?_, ρ, xs, S1, rx, hs, hp⟩
  by_cases hl : xs.length = n
  · rw [rx.length]; exact hl
  · rw [har xs S1 hl] at hp
    exact hp.elim
end

/-! ### comprehensions -/
def wipeE (env : En) : List Nat → En
  | [] => env
  | v :: vs => (wipeE env vs).set v none
theorem wipeE_length (env : En) : ∀ vs : List Nat, (wipeE env vs).length = env.length
  | [] => rfl
  | v :: vs => by unfold wipeE; rw [List.length_set, wipeE_length env vs]
theorem ERep.wipe {K : PySem.W.Frag} {Y : Sy} {ρ : List Addr} {H : Hp} {σ : L2.St} {env : En} (hx : Y.xi = none) (h : ERep K Y ρ H σ env) : ∀ vs : List Nat, ERep K Y ρ H (L2.wipe σ vs) (wipeE env vs)
  | [] => h
  | v :: vs => by
    have ih := ERep.wipe hx h vs
    refine ⟨by unfold L2.wipe wipeE; simp [ih.len], fun i x q => ?_, fun n a cv d fs q => by rw [hx] at q; cases q⟩
    unfold wipeE at q
    unfold L2.wipe
    by_cases hi : v = i
    · subst hi
      by_cases hv : v < (wipeE env vs).length
      · rw [List.getElem?_set_self hv] at q; cases q
      · rw [List.getElem?_eq_none (by simpa using hv)] at q; cases q
    · rw [List.getElem?_set_ne hi] at q ⊢
      exact ih.at_ i x q
theorem wipe_get {σ : L2.St} (i : Nat) : ∀ vs : List Nat, (L2.wipe σ vs)[i]? = if i ∈ vs ∧ i < σ.length then some none else σ[i]?
  | [] => by simp [L2.wipe]
  | v :: vs => by
    unfold L2.wipe
    by_cases hi : v = i
    · subst hi
      by_cases hv : v < σ.length
      · rw [List.getElem?_set_self (by rw [L2.wipe_length]; exact hv), if_pos ⟨by simp, hv⟩]
      · rw [List.getElem?_eq_none (by simp [L2.wipe_length]; omega), if_neg (fun z => hv z.2), List.getElem?_eq_none (by omega)]
    · rw [List.getElem?_set_ne hi, wipe_get i vs]
      have : (i ∈ v :: vs) ↔ i ∈ vs := by simp [Ne.symm hi]
      simp only [this]
theorem wipe_same {L vs : List Nat} {σ σ' : L2.St} (s : SameBut L (L2.wipe σ vs) σ') (h : ∀ i ∈ L, i ∈ vs) : L2.wipe σ' vs = L2.wipe σ vs := by
  have hl : σ'.length = σ.length := by rw [s.1, L2.wipe_length]
  refine List.ext_getElem? fun i => ?_
  rw [wipe_get, wipe_get, hl]
  by_cases hi : i ∈ vs ∧ i < σ.length
  · rw [if_pos hi, if_pos hi]
  · rw [if_neg hi, if_neg hi]
    by_cases hv : i ∈ vs
    · have : ¬ i < σ.length := fun z => hi ⟨hv, z⟩
      rw [List.getElem?_eq_none (by omega), List.getElem?_eq_none (by omega)]
    · rw [s.2 i fun z => hv (h i z), wipe_get, if_neg fun z => hv z.1]
def Out.tie {α β : Type} : Out α → (α → Store → Out β) → Out β
  | .ok x S, k => k x S
  | _, _ => .bad
open Classical in
noncomputable def lcX (ck : Store → Prop) (t : Tgt) (tst : En → Store → Out Bool) (el : En → Store → Out Val) (n : Nat) (env : En) : List Val → List Val → Store → Out Val
  | [], _, S => if ck S then .ok (.ref n) S else .bad
  | x :: r, acc, S => if ck S then (match t x env with
    | none => .bad
    | some e => (tst e S).tie fun b S1 => if b = true then (el e S1).tie fun y S2 => if S2[n]? = some (.lst acc) ∧ acc.length < LIM then lcX ck t tst el n env r (acc ++ [y]) (S2.set n (.lst (acc ++ [y]))) else .bad
      else lcX ck t tst el n env r acc S1) else .bad
noncomputable def eLc (fi : En → Store → Out Itm) (t : Tgt) (tst : En → Store → Out Bool) (el : En → Store → Out Val) (vs : List Nat) : En → Store → Out Val := fun env S =>
  (fi env S).bind fun p S1 => lcX p.2 t tst el S1.length (wipeE env vs) p.1 [] (S1 ++ [.lst []])
def SPt (X : Cx) (Y : Sy) (ifs : List Expr) (f : En → Store → Out Bool) : Prop := PTs X ifs (tG X.K Y W0 RB f)
theorem PTs.imp {X : Cx} {e : List Expr} {t t' : TT} (h : PTs X e t) (k : ∀ σ H Q, t' σ H Q → t σ H Q) : PTs X e t' := ⟨fun pins s σ H Q I q => h.run pins s σ H Q I (k σ H Q q)⟩
def bYes : En → Store → Out Bool := fun _ S => .ok true S
section
variable {X : Cx} {Y : Sy} {W : WX} {k : Nat}
theorem sp_nil : SPt X Y [] bYes := by
  refine PTs.imp pts_nil fun σ H Q h => ?_
  obtain ⟨ρ, env, S, he, hs, h⟩ := h
  exact h true ρ H (Pre.refl _) (Ext.refl _) hs rfl
theorem sp_one {c : Expr} {f : En → Store → Out Bool} (h : ST X Y W0 c f) : SPt X Y [c] f := pts_one h
theorem tLc_of {fi : En → Store → Out Itm} {t : Tgt} {tst : En → Store → Out Bool} {el : En → Store → Out Val} {vs L : List Nat} {σ : L2.St} {H : Hp} {Q : VK} (hx : Y.xi = none) (hL : ∀ i ∈ L, i ∈ vs)
    (h : tG X.K Y W (RV X.K) (eLc fi t tst el vs) σ H Q) : tLc (tG X.K Y W (RJ X.K Y) fi) (tTg X.K Y L t) (tG X.K Y W0 RB tst) (tG X.K Y W0 (RV X.K) el) vs σ H Q := by
  refine tG.bind (k := fun env (p : Itm) S1 => lcX p.2 t tst el S1.length (wipeE env vs) p.1 [] (S1 ++ [.lst []])) h fun ρ0 env J p H1 S0 he0 hs0 rj hp0 => ?_
  intro D hD
  have hs1 : Sim X.K Y (ρ0 ++ [D]) (upd H1 D (.lst [])) (S0 ++ [.lst []]) := hs0.new hD ⟨[], upd_same, .nil⟩
  have hDn : (ρ0 ++ [D])[S0.length]? = some D := by rw [← hs0.len]; simp
  refine ⟨fun i m H' => ∃ ρ acc S, m = p.1.length - i ∧ i ≤ p.1.length ∧ Pre (ρ0 ++ [D]) ρ ∧ Ext (upd H1 D (.lst [])) H' ∧ Sim X.K Y ρ H' S ∧ Post X.K Y (fun cls d H' => W cls d σ H') ρ H' (RV X.K) Q (lcX p.2 t tst el S0.length (wipeE env vs) (p.1.drop i) acc S),
    ⟨_, ρ0 ++ [D], [], _, rfl, Nat.zero_le _, Pre.refl _, Ext.refl _, hs1, Post.up (Pre.snoc _ _) (Ext.new hD) hp0⟩, fun i m H2 hw => ?_⟩
  obtain ⟨ρ, acc, S, rfl, hi, pr, ex, hs, hp⟩ := hw
  have pr0 : Pre ρ0 ρ := (Pre.snoc _ _).trans pr
  have ex0 : Ext H1 H2 := (Ext.new hD).trans ex
  by_cases hlt : i < p.1.length
  · have ed : p.1.drop i = p.1[i] :: p.1.drop (i + 1) := List.drop_eq_getElem_cons hlt
    rw [ed] at hp
    simp only [lcX] at hp
    split at hp
    · rename_i hck
      refine .inr ⟨rj.go i ρ H2 S pr0 ex0 hs hck hlt, fun H' => ∃ ρ acc S, Pre (ρ0 ++ [D]) ρ ∧ Ext (upd H1 D (.lst [])) H' ∧ Sim X.K Y ρ H' S ∧ Post X.K Y (fun cls d H' => W cls d σ H') ρ H' (RV X.K) Q (lcX p.2 t tst el S0.length (wipeE env vs) (p.1.drop (i + 1)) acc S), fun H' hn => ?_, fun v H' hy => ?_⟩
      · obtain ⟨ρ', acc', S', a1, a2, a3, a4⟩ := hn
        exact ⟨p.1.length - (i + 1), by omega, ρ', acc', S', rfl, by omega, a1, a2, a3, a4⟩
      · obtain ⟨x, ex1, ex2, hs2, rx⟩ := rj.yl i ρ H2 S v H' pr0 ex0 hs hck hlt hy
        have exx : p.1[i] = x := by
          rw [List.getElem?_eq_getElem hlt] at ex1
          exact Option.some.inj ex1
        rw [exx] at hp
        split at hp
        · exact hp.elim
        · rename_i e1 te
          have he' : ERep X.K Y ρ H' (L2.wipe σ vs) (wipeE env vs) := ((he0.up pr0 (ex0.trans ex2)).wipe hx vs)
          refine ⟨ρ, wipeE env vs, x, e1, he', rx, te, fun σ2 he2 sb => ⟨wipe_same sb hL, ?_⟩⟩
          refine ⟨ρ, e1, S, he2, hs2, ?_⟩
          have exD : Ext (upd H1 D (.lst [])) H' := ex.trans ex2
          generalize hgt : tst e1 S = ot at hp
          cases ot with
          | bad => exact hp.elim
          | err c fs S1 => exact hp.elim
          | ok b S1 =>
            intro b' ρ3 H3 p3 q3 s3 rb
            obtain rfl : b' = b := rb
            simp only [Out.tie] at hp
            cases b' with
            | false => exact iteF ⟨ρ3, acc, S1, pr.trans p3, exD.trans q3, s3, Post.up p3 (ex2.trans q3) hp⟩
            | true =>
              refine iteT ?_
              rw [if_pos rfl] at hp
              refine ⟨ρ3, e1, S1, he2.up p3 q3, s3, ?_⟩
              generalize hge : el e1 S1 = oe at hp
              cases oe with
              | bad => exact hp.elim
              | err c fs S2 => exact hp.elim
              | ok y S2 =>
                intro v4 ρ4 H4 p4 q4 s4 r4
                simp only [] at hp
                split at hp
                · rename_i hc
                  have hDi : ρ4[S0.length]? = some D := p4 _ _ (p3 _ _ (pr _ _ hDn))
                  obtain ⟨ws, e5, r5⟩ := s4.lst hDi hc.1
                  refine ⟨ws, e5, by rw [r5.length]; exact lim_lt hc.2, ?_⟩
                  have nf : ¬ Fx (HO.lst ws) := fun z => z
                  have e6 : Ext H4 (upd H4 D (.lst (ws ++ [v4]))) := Ext.mut e5 nf
                  obtain ⟨_, s6⟩ := s4.put (u := .lst (ws ++ [v4])) (o := .lst (acc ++ [y])) hDi ⟨_, upd_same, ((r5.append (.cons r4 .nil)).up (Pre.refl _) e6)⟩
                  exact ⟨ρ4, acc ++ [y], _, pr.trans (p3.trans p4), exD.trans ((q3.trans q4).trans e6), s6, Post.up (p3.trans p4) ((ex2.trans (q3.trans q4)).trans e6) hp⟩
                · exact hp.elim
    · exact hp.elim
  · have ed : p.1.drop i = [] := List.drop_eq_nil_of_le (by omega)
    rw [ed] at hp
    simp only [lcX] at hp
    split at hp
    · rename_i hck
      exact .inl ⟨rj.st i ρ H2 S pr0 ex0 hs hck (by omega), hp _ ρ H2 (Pre.refl _) (Ext.refl _) hs (.ref (pr _ _ hDn))⟩
    · exact hp.elim
theorem se_lc {elt tg iter : Expr} {ifs : List Expr} {scope : Scope} {own : List (Str × Nat)} {pos : Pos} {fi : En → Store → Out Itm} {t : Tgt} {tst : En → Store → Out Bool} {el : En → Store → Out Val} {L : List Nat} (c : Cc X Y W k) (hi : SI X Y W tg iter fi) (ok : BlkOk X.N X.env.scope scope own) (hL : ∀ i ∈ L, i ∈ own.map (·.2))
    (hg : ∀ (s : Shared) (H : Hp) (C : Addr) (cl : List (Str × Addr)) (fp : List Addr), Cc (X.blk s H scope (compEnvC scope cl C X.env) fp) Y W0 k → SG (X.blk s H scope (compEnvC scope cl C X.env) fp) Y tg L t)
    (ht : ∀ (s : Shared) (H : Hp) (C : Addr) (cl : List (Str × Addr)) (fp : List Addr), Cc (X.blk s H scope (compEnvC scope cl C X.env) fp) Y W0 k → SPt (X.blk s H scope (compEnvC scope cl C X.env) fp) Y ifs tst)
    (he : ∀ (s : Shared) (H : Hp) (C : Addr) (cl : List (Str × Addr)) (fp : List Addr), Cc (X.blk s H scope (compEnvC scope cl C X.env) fp) Y W0 k → SE (X.blk s H scope (compEnvC scope cl C X.env) fp) Y W0 elt el)
    (hs : ∀ x, foldedSetIterable iter X.env x = pure x := by intro _; rfl) : SE X Y W (.ListComp elt [⟨tg, iter, ifs, 0⟩] scope pos) (eLc fi t tst el (own.map (·.2))) :=
  PE.imp (pe_lc (g := tTg X.K Y L t) (tt := tG X.K Y W0 RB tst) (te := tG X.K Y W0 (RV X.K) el) c.calm c.nd hi ok (fun s H C cl fp => hg s H C cl fp (c.blk ..)) (fun s H C cl fp => ht s H C cl fp (c.blk ..)) (fun s H C cl fp => he s H C cl fp (c.blk ..)) hs) fun _ _ _ h => tLc_of c.xi hL h
theorem ss_setLc {i : Nat} {y : Str} {py : Pos} {elt tg iter : Expr} {ifs : List Expr} {scope : Scope} {own : List (Str × Nat)} {pos spos : Pos} {fi : En → Store → Out Itm} {t : Tgt} {tst : En → Store → Out Bool} {el : En → Store → Out Val} {L : List Nat} (c : Cc X Y W k) (hy : X.N[i]? = some y) (hyl : X.env.scope.names.lookup y = some .local)
    (hsw : swapsWith (.ListComp elt [⟨tg, iter, ifs, 0⟩] scope pos) (some (.Name y py)) spos.line X.env = pure true) (hi : SI X Y W tg iter fi) (ok : BlkOk X.N X.env.scope scope own) (hL : ∀ i ∈ L, i ∈ own.map (·.2))
    (hg : ∀ (s : Shared) (H : Hp) (C : Addr) (cl : List (Str × Addr)) (fp : List Addr), Cc (X.blk s H scope (compEnvC scope cl C X.env) fp) Y W0 k → SG (X.blk s H scope (compEnvC scope cl C X.env) fp) Y tg L t)
    (ht : ∀ (s : Shared) (H : Hp) (C : Addr) (cl : List (Str × Addr)) (fp : List Addr), Cc (X.blk s H scope (compEnvC scope cl C X.env) fp) Y W0 k → SPt (X.blk s H scope (compEnvC scope cl C X.env) fp) Y ifs tst)
    (he : ∀ (s : Shared) (H : Hp) (C : Addr) (cl : List (Str × Addr)) (fp : List Addr), Cc (X.blk s H scope (compEnvC scope cl C X.env) fp) Y W0 k → SE (X.blk s H scope (compEnvC scope cl C X.env) fp) Y W0 elt el)
    (hs : ∀ x, foldedSetIterable iter X.env x = pure x := by intro _; rfl) : SS X Y W (.Assign [.Name y py] (.ListComp elt [⟨tg, iter, ifs, 0⟩] scope pos) spos) (sSet i (eLc fi t tst el (own.map (·.2)))) := by
  refine PS.imp (ps_setLc (g := tTg X.K Y L t) (tt := tG X.K Y W0 RB tst) (te := tG X.K Y W0 (RV X.K) el) c.calm c.nd hy hyl hsw hi ok (fun s H C cl fp => hg s H C cl fp (c.blk ..)) (fun s H C cl fp => ht s H C cl fp (c.blk ..)) (fun s H C cl fp => he s H C cl fp (c.blk ..)) hs) fun D σ H h => ?_
  have h2 : tG X.K Y W (RV X.K) (eLc fi t tst el (own.map (·.2))) σ H (fun x H1 => gName i x σ H1 D.nx) := by
    refine tS.go (k := fun env x S1 => match gN i x env with | some e => .nx e S1 | none => .bad) h fun ρ env v x H1 S1 he hs rx hp => ?_
    exact hp _ ρ H1 (Pre.refl _) (Ext.refl _) (he.set rx c.xi) hs
  exact tLc_of c.xi hL h2
end
end Mp

set_option Elab.async false
set_option linter.all false
set_option maxRecDepth 100000
/-! Methods of lists, stores, zip, enumerate, sorted, constants. -/
namespace Mp
open PySem PySem.Spec PyProof.Rows L2

section
variable {X : Cx} {Y : Sy} {W : WX} {k : Nat} {o e a b : Expr} {es : List Expr} {f fa fb fo : En → Store → Out Val} {ga : En → Store → Out (List Val)} {p pos cpos apos : Pos} {x : Str}

/-! ### methods of lists: the place, what stands there, the arguments -/
abbrev Lm := Nat → List Val → List Val → Store → Out Val
def lmK (g : Lm) (i : Nat) (vs : List Val) (S2 : Store) : Out Val := match S2[i]? with
  | some (.lst xs) => g i xs vs S2
  | _ => .bad
def lmA (g : Lm) (ga : En → Store → Out (List Val)) (env : En) (x : Val) (S1 : Store) : Out Val := match x with
  | .ref i => match S1[i]? with
    | some (.lst _) => (ga env S1).bind (lmK g i)
    | _ => .bad
  | _ => .bad
def eLm (g : Lm) (fo : En → Store → Out Val) (ga : En → Store → Out (List Val)) : En → Store → Out Val := fun env S => (fo env S).bind (lmA g ga env)
/-- what a list's method does to the list at a -/
def LmS (X : Cx) (Y : Sy) (r : V → List V → Hp → VK → Prop) (g : Lm) : Prop := ∀ (W' : Value → Option Addr → Hp → Prop) (ρ : List Addr) (H : Hp) (S : Store) (a : Addr) (i : Nat) (ws vs : List V) (xs ys : List Val) (Q : VK), Sim X.K Y ρ H S →
  ρ[i]? = some a → S[i]? = some (.lst xs) → H a = some (.lst ws) → Reps X.K ρ H ws xs → Reps X.K ρ H vs ys → Post X.K Y W' ρ H (RV X.K) Q (g i xs ys S) → r (.ref a) vs H Q
theorem tBM_of {r : V → List V → Hp → VK → Prop} {g : Lm} (ok : LmS X Y r g) {σ : L2.St} {H : Hp} {Q : VK} (h : tG X.K Y W (RV X.K) (eLm g fo ga) σ H Q) : tBM X.K "list" r (tG X.K Y W (RV X.K) fo) (tG X.K Y W (RL X.K) ga) σ H Q := by
  refine tG.bind (k := lmA g ga) h fun ρ env v x H1 S1 he hs rx hp => ?_
  unfold lmA at hp
  split at hp
  · rename_i i
    cases rx with
    | @ref a _ hi =>
    split at hp
    · rename_i zs ez
      obtain ⟨us, eu, _⟩ := hs.lst hi ez
      refine ⟨.inl ⟨rfl, us, SqL.of eu⟩, ?_⟩
      refine tG.go he hs hp fun ρ2 vs ys H2 S2 p2 e2 he2 hs2 ry hp2 => ?_
      unfold lmK at hp2
      split at hp2
      · rename_i xs ex
        obtain ⟨ws, ew, rw'⟩ := hs2.lst (p2 _ _ hi) ex
        exact ok _ ρ2 H2 S2 a i ws vs xs ys Q hs2 (p2 _ _ hi) ex ew rw' ry hp2
      · exact hp2.elim
    · exact hp.elim
  · exact hp.elim
theorem put_lst {K : PySem.W.Frag} {ρ : List Addr} {H : Hp} {S : Store} {a : Addr} {i : Nat} {ws : List V} {xs : List Val} (hs : Sim K Y ρ H S) (hi : ρ[i]? = some a) {us : List V} (e : H a = some (.lst us)) (r : Reps K ρ H ws xs) :
    Ext H (upd H a (.lst ws)) ∧ Sim K Y ρ (upd H a (.lst ws)) (S.set i (.lst xs)) := by
  have e1 : Ext H (upd H a (.lst ws)) := Ext.mut e (fun z => z)
  exact hs.put hi ⟨ws, upd_same, r.up (Pre.refl _) e1⟩
def lAppend : Lm := fun i xs ys S => match ys with
  | [y] => if xs.length < LIM then .ok .non (S.set i (.lst (xs ++ [y]))) else .bad
  | _ => .bad
theorem lAppend_ok : LmS X Y rAppend lAppend := by
  intro W' ρ H S a i ws vs xs ys Q hs hi ex ew rw' ry hp
  unfold lAppend at hp
  split at hp
  · rename_i y
    split at hp
    · rename_i hl
      obtain ⟨v, rfl, rv⟩ := reps1 ry
      refine ⟨a, ws, v, rfl, rfl, ew, by rw [rw'.length]; exact lim_lt hl, ?_⟩
      obtain ⟨q1, q2⟩ := put_lst hs hi ew (rw'.append (.cons rv .nil))
      exact hp _ ρ _ (Pre.refl _) q1 q2 .non
    · exact hp.elim
  · exact hp.elim
theorem se_append (ho : SE X Y W o fo) (ha : SA X Y W [e] ga) (hbase : attributeBase o "append" X.env (eval o X.env) = eval o X.env := by rfl)
    (hfew : ((backTo cpos (starEach [e] X.env)).all (fun x => !x.1) && (backToKw cpos (keywordEach [] X.env)).all (fun x => x.1.isSome)
      && decide ([e].length + ([] : List Keyword).length + (if ([] : List Keyword).isEmpty then 0 else 1) < 30)) = true := by rfl)
    (hline : (apos.endLine == cpos.line) = true := by rfl) (hs : starEach [e] X.env = (false, eval e X.env) :: starEach [] X.env := by rfl) : SE X Y W (.Call (.Attribute o "append" apos) [e] [] cpos) (eLm lAppend fo ga) :=
  PE.imp (pe_bm PySem.F.plainAttrs_list PySem.F.slot_list_append PySem.F.type_list_append mt_append ho ha hbase hfew hline hs) fun _ _ _ h => tBM_of lAppend_ok h
noncomputable def lPopAt : Lm := fun i xs ys S => match ys with
  | [.int j] => @ite _ (-(2 ^ 63) ≤ j ∧ j < 2 ^ 63) (Classical.propDecidable _) (match seqIndex? j xs.length with
    | some k => match xs[k]? with
      | some y => .ok y (S.set i (.lst (xs.eraseIdx k)))
      | none => .bad
    | none => .bad) .bad
  | _ => .bad
theorem lPopAt_ok : LmS X Y rPopAt lPopAt := by
  intro W' ρ H S a i ws vs xs ys Q hs hi ex ew rw' ry hp
  unfold lPopAt at hp
  split at hp
  · rename_i j
    split at hp
    · rename_i hl
      split at hp
      · rename_i k ek
        split at hp
        · rename_i y ey
          obtain ⟨v, rfl, rv⟩ := reps1 ry
          cases rv
          obtain ⟨u, eu, ru⟩ := rw'.get ey
          obtain ⟨q1, q2⟩ := put_lst hs hi ew (rw'.eraseIdx k)
          refine ⟨a, ws, j, k, u, rfl, rfl, ew, hl.1, hl.2, by rw [rw'.length]; exact ek, eu, ?_⟩
          exact hp _ ρ _ (Pre.refl _) q1 q2 (ru.up (Pre.refl _) q1)
        · exact hp.elim
      · exact hp.elim
    · exact hp.elim
  · exact hp.elim
theorem se_popAt (ho : SE X Y W o fo) (ha : SA X Y W [e] ga) (hbase : attributeBase o "pop" X.env (eval o X.env) = eval o X.env := by rfl)
    (hfew : ((backTo cpos (starEach [e] X.env)).all (fun x => !x.1) && (backToKw cpos (keywordEach [] X.env)).all (fun x => x.1.isSome)
      && decide ([e].length + ([] : List Keyword).length + (if ([] : List Keyword).isEmpty then 0 else 1) < 30)) = true := by rfl)
    (hline : (apos.endLine == cpos.line) = true := by rfl) (hs : starEach [e] X.env = (false, eval e X.env) :: starEach [] X.env := by rfl) : SE X Y W (.Call (.Attribute o "pop" apos) [e] [] cpos) (eLm lPopAt fo ga) :=
  PE.imp (pe_bm PySem.F.plainAttrs_list PySem.F.slot_list_pop PySem.F.type_list_pop mt_popAt ho ha hbase hfew hline hs) fun _ _ _ h => tBM_of lPopAt_ok h

/-! ### o[i] = v -/
def putIx (d i v : Val) (S : Store) : Option Store := match d with
  | .ref n => match S[n]? with
    | some (.lst xs) => match i with
      | .int j => (ixN xs.length j).map fun m => S.set n (.lst (xs.set m v))
      | _ => none
    | some (.dk kvs) => (keyOf i).bind fun k => if kvs.length < LIM then some (S.set n (.dk (putD kvs k v))) else none
    | some (.dt kvs) => (tkeyOf i).bind fun k => if kvs.length < LIM then some (S.set n (.dt (putD kvs k v))) else none
    | _ => none
  | _ => none
def rSetU : TSet := fun o i v H Q => rSetL o i v H Q ∨ ∃ a H', o = .ref a ∧ DPut H a i v H' ∧ Q H'
theorem set_u (hu : X.A.units + 1 < cLine) : PSet X rSetU := by
  intro pins s σ H o i v ov iv u Q I ro ri rv h
  rcases h with h | ⟨a, H', rfl, g, q⟩
  · exact set_list pins s σ H o i v ov iv u Q I ro ri rv h
  · cases ro
    exact d_setItem hu I g ri rv fun s' I' => ⟨H', I', q⟩
theorem putIx_ok {K : PySem.W.Frag} {ρ : List Addr} {H : Hp} {S S' : Store} {o i v : V} {d j y : Val} {Q : Hp → Prop} (hs : Sim K Y ρ H S) (ro : Rep K ρ H o d) (ri : Rep K ρ H i j) (rv : Rep K ρ H v y) (h : putIx d j y S = some S')
    (q : ∀ H', Ext H H' → Sim K Y ρ H' S' → Q H') : rSetU o i v H Q := by
  unfold putIx at h
  split at h
  · rename_i n
    cases ro with
    | @ref a _ hi =>
    split at h
    · rename_i xs ex
      split at h
      · rename_i m
        cases ri
        obtain ⟨z, ez, rfl⟩ := Option.map_eq_some_iff.mp h
        obtain ⟨ws, ew, r⟩ := hs.lst hi ex
        obtain ⟨q1, q2⟩ := put_lst hs hi ew (r.set rv z)
        exact .inl ⟨a, ws, m, z, rfl, rfl, ew, by rw [r.length]; exact ez, q _ q1 q2⟩
      · cases h
    · rename_i kvs ex
      obtain ⟨k, ek, h⟩ := Option.bind_eq_some_iff.mp h
      split at h
      · rename_i hl
        cases h
        obtain ⟨ws, ew, r⟩ := hs.dk hi ex
        have e2 := keyOf_rep ri ek
        subst e2
        have e1 : Ext H (upd H a (.dK (putK ws k v))) := Ext.mut ew (fun z => z)
        obtain ⟨q1, q2⟩ := hs.put (u := .dK (putK ws k v)) (o := .dk (putD kvs k y)) hi ⟨_, upd_same, (r.put k rv).up (Pre.refl _) e1⟩
        exact .inr ⟨a, _, rfl, DPut.k ew (by rw [r.length]; exact lim_lt hl), q _ q1 q2⟩
      · cases h
    · rename_i kvs ex
      obtain ⟨k, ek, h⟩ := Option.bind_eq_some_iff.mp h
      split at h
      · rename_i hl
        cases h
        obtain ⟨ws, ew, r⟩ := hs.dt hi ex
        obtain ⟨b, rfl, eb⟩ := tkeyOf_rep ri ek
        have e1 : Ext H (upd H a (.dT (putK ws k v))) := Ext.mut ew (fun z => z)
        obtain ⟨q1, q2⟩ := hs.put (u := .dT (putK ws k v)) (o := .dt (putD kvs k y)) hi ⟨_, upd_same, (r.put k rv).up (Pre.refl _) e1⟩
        exact .inr ⟨a, _, rfl, DPut.t ew eb (by rw [r.length]; exact lim_lt hl), q _ q1 q2⟩
      · cases h
    · cases h
  · cases h
def kPutIx (d i v : Val) (env : En) (S : Store) : Res := match putIx d i v S with
  | some S' => .nx env S'
  | none => .bad
def sPutIx (f fo fi : En → Store → Out Val) : En → Store → Res := fun env S => (f env S).toS env fun v S1 => (fo env S1).toS env fun d S2 => (fi env S2).toS env fun i S3 => kPutIx d i v env S3
/-- an outcome inside a statement, once the slots stand -/
theorem tS.in {α β : Type} {K : PySem.W.Frag} {R : RR β α} {f : En → Store → Out α} {k' : α → Store → Res} {D : Ends} {σ : L2.St} {H : Hp} {ρ : List Addr} {env : En} {S : Store} {Q' : β → Hp → Prop} (he : ERep K Y ρ H σ env) (hs : Sim K Y ρ H S)
    (h : PostS K Y W ρ H D ((f env S).toS env k'))
    (q : ∀ ρ1 v x H1 S1, Pre ρ ρ1 → Ext H H1 → ERep K Y ρ1 H1 σ env → Sim K Y ρ1 H1 S1 → R ρ1 H1 v x → PostS K Y W ρ1 H1 D (k' x S1) → Q' v H1) : tG K Y W R f σ H Q' := by
  refine ⟨ρ, env, S, he, hs, ?_⟩
  generalize f env S = o at h
  cases o with
  | ok x S1 =>
    intro v ρ1 H1 p e s r
    exact q ρ1 v x H1 S1 p e (he.up p e) s r (PostS.up p e h)
  | err c fs S1 =>
    intro cls d ρ1 H1 p e s r
    exact h cls d σ ρ1 H1 p e (he.up p e) s r
  | bad => exact h
theorem ss_putIx {i : Expr} {fi : En → Store → Out Val} {pos' : Pos} (hu : X.A.units + 1 < cLine) (he : SE X Y W e f) (ho : SE X Y W o fo) (hi : SE X Y W i fi)
    (ha : ∀ v, assign (.Subscript o i pos') X.env v = (do
      let ov ← holding [v] (eval o X.env)
      let iv ← holding [v, ov] (eval i X.env)
      standAt pos'
      holding [v, ov, iv] (setItem ov iv v)
      release [v, ov, iv] []) := by first | rfl | (intro _; rfl))
    (hs : swapsWithSole [.Subscript o i pos'] e pos.line X.env = pure false := by rfl) (hw : swappedStores [.Subscript o i pos'] e X.env = pure none := by rfl)
    (h1 : (assignEach [.Subscript o i pos'] X.env).map (·.2) = [assign (.Subscript o i pos') X.env] := by rfl) : SS X Y W (.Assign [.Subscript o i pos'] e pos) (sPutIx f fo fi) := by
  refine PS.imp (ps_asg he (pg_sub ho hi (set_u hu) ha) hs hw h1) fun D σ H h => ?_
  refine tS.go (k := fun env v S1 => (fo env S1).toS env fun d S2 => (fi env S2).toS env fun i S3 => kPutIx d i v env S3) h fun ρ env v y H1 S1 he hs ry hp => ?_
  refine tS.in he hs hp fun ρ2 d dd H2 S2 p2 e2 he2 hs2 rd hp2 => ?_
  refine tS.in he2 hs2 hp2 fun ρ3 j jj H3 S3 p3 e3 he3 hs3 rj hp3 => ?_
  unfold kPutIx at hp3
  split at hp3
  · rename_i S' es
    refine putIx_ok hs3 (rd.up p3 e3) rj (ry.up (p2.trans p3) (e2.trans e3)) es fun H' q1 q2 => ?_
    exact hp3 σ ρ3 H' (Pre.refl _) q1 (he3.up (Pre.refl _) q1) q2
  · exact hp3.elim

/-! ### constants of the module -/
theorem se_glob {v : V} {u : Value} {y : Val} (hg : Gl X x) (hm : X.mg x = some u) (r : RelV v u) (rep : ∀ ρ H, Rep X.K ρ H v y) (hd : (x == ("__debug__" : Str)) = false := by decide) : SE X Y W (.Name x pos) (eC y) := se_c (pe_glob hg hm r hd) rep

/-! ### zip -/
def zipL : List Val → List Val → List Val
  | x :: xs, y :: ys => .tup [x, y] :: zipL xs ys
  | _, _ => []
theorem zipL_get : ∀ (xs ys : List Val) (i : Nat), (zipL xs ys)[i]? = (xs[i]?).bind fun x => (ys[i]?).map fun y => Val.tup [x, y]
  | [], _, _ => by simp [zipL]
  | _ :: _, [], i => by cases i <;> simp [zipL]
  | x :: xs, y :: ys, 0 => by simp [zipL]
  | x :: xs, y :: ys, i + 1 => by simp [zipL, zipL_get xs ys i]
theorem zipL_length : ∀ xs ys : List Val, (zipL xs ys).length = min xs.length ys.length
  | [], _ => by simp [zipL]
  | _ :: _, [] => by simp [zipL]
  | x :: xs, y :: ys => by simp [zipL, zipL_length xs ys]
theorem JRep.zipT {K : PySem.W.Frag} {ρ : List Addr} {H : Hp} {a b : Addr} {vs ws : List V} {xs ys : List Val} (ea : H a = some (.tup vs)) (eb : H b = some (.tup ws)) (r1 : Reps K ρ H vs xs) (r2 : Reps K ρ H ws ys) : JRep K Y ρ H (RZ.ItzT K a b) (zipL xs ys, fun _ => True) := by
  refine ⟨fun i ρ' H' S p q s _ hi => ?_, fun i ρ' H' S p q s _ hi => ?_, fun i ρ' H' S v H2 p q s _ hi hy => ?_⟩
  · rw [zipL_length] at hi
    have l1 : i < vs.length := by rw [r1.length]; omega
    have l2 : i < ws.length := by rw [r2.length]; omega
    exact ⟨vs, ws, vs[i], ws[i], SqT.of (q _ _ trivial ea), SqT.of (q _ _ trivial eb), List.getElem?_eq_getElem l1, List.getElem?_eq_getElem l2⟩
  · rw [zipL_length] at hi
    exact ⟨vs, ws, SqT.of (q _ _ trivial ea), SqT.of (q _ _ trivial eb), by rw [r1.length, r2.length]; omega⟩
  · obtain ⟨T, x, y, rfl, hT, rfl, h1, h2⟩ := hy
    obtain ⟨x', e1, q1⟩ := (r1.up p q).getV (h1 vs (SqT.of (q _ _ trivial ea)))
    obtain ⟨y', e2, q2⟩ := (r2.up p q).getV (h2 ws (SqT.of (q _ _ trivial eb)))
    have e3 := Ext.new (o := .tup [x, y]) hT
    exact ⟨.tup [x', y'], by rw [zipL_get]; simp [e1, e2], e3, s.other hT, .tup upd_same (.cons (q1.up (Pre.refl _) e3) (.cons (q2.up (Pre.refl _) e3) .nil))⟩
theorem JRep.zipL {K : PySem.W.Frag} {ρ : List Addr} {H : Hp} {a b : Addr} {n m : Nat} {xs ys : List Val} (ha : ρ[n]? = some a) (hb : ρ[m]? = some b) : JRep K Y ρ H (Itz K a b) (Mp.zipL xs ys, fun S => S[n]? = some (.lst xs) ∧ S[m]? = some (.lst ys)) := by
  have key : ∀ ρ' H' S, Pre ρ ρ' → Sim K Y ρ' H' S → (S[n]? = some (.lst xs) ∧ S[m]? = some (.lst ys)) → ∃ vs ws, SqL K H' a vs ∧ SqL K H' b ws ∧ Reps K ρ' H' vs xs ∧ Reps K ρ' H' ws ys := fun ρ' H' S p s c => by
    obtain ⟨vs, e, r⟩ := s.lst (p _ _ ha) c.1
    obtain ⟨ws, e2, r2⟩ := s.lst (p _ _ hb) c.2
    exact ⟨vs, ws, SqL.of e, SqL.of e2, r, r2⟩
  refine ⟨fun i ρ' H' S p q s c hi => ?_, fun i ρ' H' S p q s c hi => ?_, fun i ρ' H' S v H2 p q s c hi hy => ?_⟩
  · obtain ⟨vs, ws, q1, q2, r1, r2⟩ := key ρ' H' S p s c
    rw [zipL_length] at hi
    have l1 : i < vs.length := by rw [r1.length]; omega
    have l2 : i < ws.length := by rw [r2.length]; omega
    exact ⟨vs, ws, vs[i], ws[i], q1, q2, List.getElem?_eq_getElem l1, List.getElem?_eq_getElem l2⟩
  · obtain ⟨vs, ws, q1, q2, r1, r2⟩ := key ρ' H' S p s c
    rw [zipL_length] at hi
    exact ⟨vs, ws, q1, q2, by rw [r1.length, r2.length]; omega⟩
  · obtain ⟨vs, ws, q1, q2, r1, r2⟩ := key ρ' H' S p s c
    obtain ⟨T, x, y, rfl, hT, rfl, h1, h2⟩ := hy
    obtain ⟨x', e1, w1⟩ := r1.getV (h1 vs q1)
    obtain ⟨y', e2, w2⟩ := r2.getV (h2 ws q2)
    have e3 := Ext.new (o := .tup [x, y]) hT
    exact ⟨.tup [x', y'], by rw [zipL_get]; simp [e1, e2], e3, s.other hT, .tup upd_same (.cons (w1.up (Pre.refl _) e3) (.cons (w2.up (Pre.refl _) e3) .nil))⟩
def kZip (vs : List Val) (S1 : Store) : Out Itm := match vs with
  | [.tup xs, .tup ys] => .ok (zipL xs ys, fun _ => True) S1
  | [.ref n, .ref m] => match S1[n]?, S1[m]? with
    | some (.lst xs), some (.lst ys) => .ok (zipL xs ys, fun S => S[n]? = some (.lst xs) ∧ S[m]? = some (.lst ys)) S1
    | _, _ => .bad
  | _ => .bad
def iZip2 (fa : En → Store → Out (List Val)) : En → Store → Out Itm := fun env S => (fa env S).bind kZip
theorem si_zip {tpos : Pos} {elts : List Expr} {kk : Nat} (hg : Gl X "zip") (hm : X.mg "zip" = none) (ha : SA X Y W [a, b] ga)
    (hs : starEach [a, b] X.env = (false, eval a X.env) :: starEach [b] X.env := by rfl) (hpl : (backTo pos (starEach [b] X.env)).any (·.1) = false := by rfl) : SI X Y W (.Tuple elts kk tpos) (.Call (.Name "zip" p) [a, b] [] pos) (iZip2 ga) := by
  refine PI.imp (RZ.pi_zipA hg hm ha hs hpl) fun σ H R h => ?_
  refine tG.bind (k := fun _ => kZip) h fun ρ env vs xs H1 S1 he hs rx hp => ?_
  unfold kZip at hp
  split at hp
  · obtain ⟨v, w, rfl, r1, r2⟩ := reps2 rx
    cases r1 with | @tup c ws _ e1 r1 => cases r2 with | @tup d us _ e2 r2 =>
    exact ⟨c, d, ws, us, rfl, .inr ⟨SqT.of e1, SqT.of e2, hp _ ρ H1 (Pre.refl _) (Ext.refl _) hs (JRep.zipT e1 e2 r1 r2)⟩⟩
  · obtain ⟨v, w, rfl, r1, r2⟩ := reps2 rx
    cases r1 with | @ref c n hn => cases r2 with | @ref d m hm =>
    split at hp
    · rename_i ys zs ey ez
      obtain ⟨ws, q1, _⟩ := hs.lst hn ey
      obtain ⟨us, q2, _⟩ := hs.lst hm ez
      exact ⟨c, d, ws, us, rfl, .inl ⟨SqL.of q1, SqL.of q2, hp _ ρ H1 (Pre.refl _) (Ext.refl _) hs (JRep.zipL hn hm)⟩⟩
    · exact hp.elim
  · exact hp.elim

/-! ### sorted -/
def dOf (x : Val) : PyData := (toD x).getD .none
def leV (x y : Val) : Bool := PySem.W.dataLe false dOf x y
open Classical in
noncomputable def fSorted : Fn := fun vs S => match vs with
  | [x] => match getL S x with
    | some xs => if (∃ ds, toDs xs = some ds ∧ PySem.W.AllAlike ds ∧ PySem.W.Sortable ds ∧ ∀ d ∈ ds, d.depth ≤ 64) ∧ xs.length ≤ LIM then .ok (.ref S.length) (S ++ [.lst (xs.mergeSort leV)]) else .bad
    | none => .bad
  | _ => .bad

theorem dOf_of {x : Val} {d : PyData} (h : toD x = some d) : dOf x = d := by unfold dOf; rw [h]; rfl
theorem toDs_map : ∀ {xs : List Val} {ds : List PyData}, toDs xs = some ds → xs.map dOf = ds
  | [], _, h => by simp only [toDs, Option.some.injEq] at h; subst h; rfl
  | x :: xs, _, h => by
    simp only [toDs, Option.bind_eq_some_iff, Option.map_eq_some_iff] at h
    obtain ⟨d, e1, ds, e2, rfl⟩ := h
    rw [List.map_cons, dOf_of e1, toDs_map e2]
theorem toDs_all : ∀ {xs : List Val} {ds : List PyData}, toDs xs = some ds → ∀ x ∈ xs, ∃ d, toD x = some d ∧ d ∈ ds
  | [], _, _, _, h => by simp at h
  | x :: xs, _, h, y, hy => by
    simp only [toDs, Option.bind_eq_some_iff, Option.map_eq_some_iff] at h
    obtain ⟨d, e1, ds, e2, rfl⟩ := h
    rcases List.mem_cons.mp hy with rfl | hy
    · exact ⟨d, e1, by simp⟩
    · obtain ⟨d', h1, h2⟩ := toDs_all e2 y hy
      exact ⟨d', h1, by simp [h2]⟩
/-- sorted of a list of data, by the values -/
def rSortD (K : PySem.W.Frag) : List V → Hp → VK → Prop := fun vs H Q => ∃ (a : Addr) (bs : List (V × PyData)), vs = [V.ref a] ∧ SqL K H a (bs.map (·.1)) ∧ (∀ p ∈ bs, Dp K H p.1 p.2) ∧ PySem.W.AllAlike (bs.map (·.2)) ∧ PySem.W.Sortable (bs.map (·.2)) ∧
  (∀ p ∈ bs, p.2.depth ≤ 64) ∧ bs.length ≤ sizeLine ∧ ∀ p, H p = none → Q (.ref p) (upd H p (.lst ((bs.mergeSort (PySem.W.dataLe false (·.2))).map (·.1))))
theorem each_of {α β : Type} {R : α → β → Prop} : ∀ {as : List α} {bs : List β}, as.length = bs.length → (∀ (i : Nat) (a : α) (b : β), as[i]? = some a → bs[i]? = some b → R a b) → PySem.W.EachIs R as bs
  | [], [], _, _ => .nil
  | a :: as, b :: bs, hl, h => .cons (h 0 a b rfl rfl) (each_of (by simpa using hl) fun i x y h1 h2 => h (i + 1) x y (by simpa using h1) (by simpa using h2))
  | [], _ :: _, hl, _ => by simp at hl
  | _ :: _, [], hl, _ => by simp at hl
theorem vals_each {bs : List (V × PyData)} {us : List Value} : PySem.W.EachIs (fun (v : Value) (b : V × PyData) => RelV b.1 v) us bs → Vals (bs.map (·.1)) us := by
  intro h
  induction h with
  | nil => exact .nil
  | cons a _ ih => exact .cons a ih
theorem cr_sortD (hu : X.A.units + 66 < cLine) : CallR X (.builtin "sorted") (rSortD X.K) := by
  intro pins s σ H vs us Q I r h
  obtain ⟨a, bs, rfl, hs, hd, hal, hk, hdp, hl, q⟩ := h
  obtain ⟨its, rv, hL, _⟩ := I.list hs
  rw [Vals.ref1 r]
  have hlen : its.length = bs.length := by rw [← rv.length, List.length_map]
  have e1 : PySem.W.EachIs (fun (v : Value) (b : V × PyData) => RelV b.1 v) its bs := each_of hlen fun i v b h1 h2 => by
    obtain ⟨u, h3, h4⟩ := rv.get (i := i) (x := b.1) (by rw [List.getElem?_map, h2]; rfl)
    rw [h1] at h3
    cases h3
    exact h4
  have e2 : PySem.W.EachIs (fun (v : Value) (b : V × PyData) => ∃ as, Reads s.heap v b.2 as) its bs := each_of hlen fun i v b h1 h2 => by
    obtain ⟨u, h3, h4⟩ := rv.get (i := i) (x := b.1) (by rw [List.getElem?_map, h2]; rfl)
    rw [h1] at h3
    cases h3
    exact Dp.reads I b.2 b.1 v (hd b (List.mem_of_getElem? h2)) h4
  refine PySem.W.sorted_data (enc := fun b : V × PyData => b.2) hL.isList e1 e2 hal hk hl (fun b hb => by have := hdp b hb; show X.A.units + 2 + b.2.depth < cLine; omega) fun out h1 h2 => ?_
  obtain ⟨ep, he'⟩ := PyProof.Rows.sortedAll_at s.heap its out.toArray
  have hlen2 : ((bs.mergeSort (PySem.W.dataLe false (·.2))).map (·.1)).length ≤ sizeLine := by rw [List.length_map, List.length_mergeSort]; exact hl
  refine ⟨.ref _, upd H (s.heap.objs.size + 1) (.lst _), I.laid (t' := s.toks) (fun _ _ => PyProof.Rows.sortedAll_old) (Nat.le_succ _) ⟨hlen2, out, ep, vals_each h2, ?_⟩, rfl, q _ (I.hok.fresh (Nat.le_succ _))⟩
  simpa using he'
theorem se_sorted (hu : X.A.units + 66 < cLine) (hg : Gl X "sorted") (hm : X.mg "sorted" = none) (ha : SA X Y W [e] ga) (he : starEach [e] X.env = [(false, eval e X.env)] := by rfl) : SE X Y W (.Call (.Name "sorted" p) [e] [] pos) (eCall fSorted ga) := by
  refine se_b (cr_sortD hu) (fun W' ρ H S vs xs Q hs rx h => ?_) hg hm (by decide +kernel) ha (he := he)
  unfold fSorted at h
  split at h
  · split at h
    · rename_i ys ey
      split at h
      · rename_i hc
        obtain ⟨⟨ds, e1, e2, e3, e4⟩, hl⟩ := hc
        obtain ⟨v, rfl, rv⟩ := reps1 rx
        obtain ⟨a, ws, rfl, hq, r⟩ := getL_rep hs rv ey
        have hz : (ws.zip ys).map (·.1) = ws := by rw [List.map_fst_zip]; rw [r.length]; exact Nat.le_refl _
        have hz2 : (ws.zip ys).map (·.2) = ys := by rw [List.map_snd_zip]; rw [r.length]; exact Nat.le_refl _
        let cs : List (V × Val) := ws.zip ys
        let bs : List (V × PyData) := cs.map fun p => (p.1, dOf p.2)
        have hb1 : bs.map (·.1) = ws := by
          show (cs.map _).map _ = _
          rw [List.map_map]
          exact hz
        have hb2 : bs.map (·.2) = ds := by
          show (cs.map _).map _ = _
          rw [List.map_map]
          have : cs.map ((fun (x : V × PyData) => x.2) ∘ fun (p : V × Val) => (p.1, dOf p.2)) = (cs.map (·.2)).map dOf := by rw [List.map_map]; rfl
          rw [this, show cs.map (·.2) = ys from hz2, toDs_map e1]
        have hrep : ∀ p ∈ cs, Rep X.K ρ H p.1 p.2 := fun p hp => by
          obtain ⟨i, hi⟩ := List.mem_iff_getElem?.mp hp
          have h1 : (cs.map (·.1))[i]? = some p.1 := by rw [List.getElem?_map, hi]; rfl
          have h2 : (cs.map (·.2))[i]? = some p.2 := by rw [List.getElem?_map, hi]; rfl
          rw [show cs.map (·.1) = ws from hz] at h1
          rw [show cs.map (·.2) = ys from hz2] at h2
          obtain ⟨v, h3, h4⟩ := r.get h2
          rw [h1] at h3
          cases h3
          exact h4
        have hsort : (bs.mergeSort (PySem.W.dataLe false (·.2))) = (cs.mergeSort (fun p q => leV p.2 q.2)).map fun p => (p.1, dOf p.2) :=
          (PySem.W.sort_maps (fun p : V × Val => (p.1, dOf p.2)) (l := cs) (r := fun p q => leV p.2 q.2) (s := PySem.W.dataLe false (·.2)) fun _ _ _ _ => rfl).symm
        have hsy : (cs.mergeSort (fun p q => leV p.2 q.2)).map (·.2) = ys.mergeSort leV := by
          rw [← hz2]
          exact PySem.W.sort_maps (fun p : V × Val => p.2) (l := cs) (r := fun p q => leV p.2 q.2) (s := leV) fun _ _ _ _ => rfl
        refine ⟨a, bs, rfl, by rw [hb1]; exact hq, fun p hp => ?_, by rw [hb2]; exact e2, by rw [hb2]; exact e3, fun p hp => ?_, ?_, fun p hn => ?_⟩
        · obtain ⟨c, hc, rfl⟩ := List.mem_map.mp hp
          have hy : c.2 ∈ ys := by rw [← hz2]; exact List.mem_map.mpr ⟨c, hc, rfl⟩
          obtain ⟨d, h1, _⟩ := toDs_all e1 c.2 hy
          exact toD_dp (hrep c hc) (by rw [dOf_of h1]; exact h1)
        · exact e4 p.2 (by rw [← hb2]; exact List.mem_map.mpr ⟨p, hp, rfl⟩)
        · have : bs.length = ys.length := by
            have h9 := congrArg List.length hb1
            rw [List.length_map] at h9
            exact h9.trans r.length
          rw [this]
          exact lim_le hl
        · have en := Ext.new (o := .lst ((bs.mergeSort (PySem.W.dataLe false (·.2))).map (·.1))) hn
          refine h _ (ρ ++ [p]) _ (Pre.snoc _ _) en (hs.new hn ⟨_, upd_same, ?_⟩) (rep_new hs.len.symm)
          rw [hsort, List.map_map]
          have hr : ∀ l : List (V × Val), (∀ p ∈ l, Rep X.K ρ H p.1 p.2) → Reps X.K ρ H (l.map ((fun (x : V × PyData) => x.1) ∘ fun (p : V × Val) => (p.1, dOf p.2))) (l.map (·.2)) := by
            intro l
            induction l with
            | nil => intro _; exact .nil
            | cons q l ih => intro hl; exact .cons (hl q (by simp)) (ih fun p hp => hl p (by simp [hp]))
          rw [← hsy]
          rw [hsort, List.map_map] at en
          exact (hr _ fun p hp => hrep p ((List.mergeSort_perm _ _).mem_iff.mp hp)).up (Pre.snoc _ _) en
      · exact h.elim
    · exact h.elim
  · exact h.elim
end
end Mp

set_option Elab.async false
set_option linter.all false
set_option maxRecDepth 100000
set_option maxHeartbeats 1000000
/-! Own errors: made, raised, caught. -/
namespace Mp
open PySem PySem.Spec PyProof.Rows L2

/-! ### an error without fields: C(), its __init__ does nothing -/
section
variable {X : Cx} {Y : Sy} {W : WX} {k : Nat}
theorem end_bare {pins : List (Addr × Obj)} {σ : L2.St} {J1 J2 : Hp} {u1 u2 u3 : Heap} {gs gs' : Array GenState} {dr dr' : Drawn} {tk tk' : Nat} {q q' : OsState} {n C : Addr} (I0 : Inv X pins σ J1 ⟨u1, gs, dr, tk, q⟩)
    (hn : u1.objs.size ≤ n) (kp : ∀ b o, u1.get? b = some o → u2.get? b = some o) (un : Un (frs X.stack) [] (upd J1 n (exo n C none)) J2 u2 u3) (held : HOk X.prog X.w J2 u3) (eq' : q' = q) (bare : AllBare gs')
    (en : J2 n = some (exo n C none)) :
    ∃ (t0 : Addr) (G : Heap), Inv X pins σ (del J2 n) ⟨G, gs', dr', tk', q'⟩ ∧ (∀ b o, G.get? b = some o → u3.get? b = some o) ∧ G.get? n = none ∧
      u3.get? n = some ({ cls := .ref C, dict := none, data := .fields #[.ref t0, .none, .none, .none, .bool false, .none] } : Obj) := by
  obtain ⟨t0, there⟩ := exo_at held en
  have free1 : J1 n = none := I0.hok.fresh hn
  obtain ⟨G, in1, in2⟩ := restrict u3 fun b => decide (b ≠ n)
  have same : ∀ b, b ≠ n → G.get? b = u3.get? b := fun b hb => in1 b (decide_eq_true hb)
  have gone : G.get? n = none := in2 n (by simp)
  have older : ∀ {b : Addr} {o : Obj}, u1.get? b = some o → b ≠ n := fun {b o} z => Nat.ne_of_lt (Nat.lt_of_lt_of_le (Heap.lt_size z) hn)
  have up1 : ∀ {b : Addr}, b ≠ n → J1 b = none → upd J1 n (exo n C none) b = none := fun {b} hb z => (upd_ne hb).trans z
  have U : Un (frs X.stack) [] J1 (del J2 n) u1 G := {
    keep := fun b o z m hf hx => (same b (older z)).trans (un.keep b o (kp b o z) (up1 (older z) m) hf hx)
    slot := fun b o z m hf hx => by
      obtain ⟨sl, e⟩ := un.slot b o (kp b o z) (up1 (older z) m) hf hx
      exact ⟨sl, (same b (older z)).trans e⟩
    free := fun b o z m hx => (del_ne (older z)).trans (un.free b o (kp b o z) (up1 (older z) m) hx)
    there := fun b o z hx => by
      obtain ⟨o', e⟩ := un.there b o (kp b o z) hx
      exact ⟨o', (same b (older z)).trans e⟩
    tups := fun b xs z => (del_ne (ne_of_none z free1)).trans (un.tups b xs ((upd_ne (ne_of_none z free1)).trans z))
    frzs := fun b o v z => (del_ne (ne_of_none z free1)).trans (un.frzs b o v ((upd_ne (ne_of_none z free1)).trans z))
    tbls := fun b ps z => by
      obtain ⟨more, e⟩ := un.tbls b ps ((upd_ne (ne_of_none z free1)).trans z)
      exact ⟨more, (del_ne (ne_of_none z free1)).trans e⟩ }
  have held2 : HOk X.prog X.w (del J2 n) G := fun b o z => by
    have hb : b ≠ n := fun e => by rw [e, del_same] at z; cases z
    rw [del_ne hb] at z
    have noown : ∀ {c : Addr}, J2 c = some (.own b) → c ≠ n := fun {c} hc => at_ne en hc exo_own
    refine (held b o z).stay (fun c v hc y => ?_) (fun c hc => (del_ne (noown hc)).trans hc) (fun c xs hc => (del_ne (at_ne en hc exo_tup)).trans hc)
    have hcn : c ≠ n := hc.elim (fun e => e ▸ hb) noown
    exact (same c hcn).trans y
  refine ⟨t0, G, I0.call' (ch := []) eq' U held2 bare (fun b z => absurd z (by simp)), fun b o z => ?_, gone, there⟩
  by_cases hb : b = n
  · rw [hb, gone] at z; cases z
  · exact (same b hb).symm.trans z
/-- C() -/
def tMk0 (C : Addr) (sp : Sp) : L2.St → Hp → XK → Prop := fun σ H Q => ∀ a, H a = none → sp [.ref a] (upd H a (exo a C none)) (fun v H2 => v = .non ∧ H2 a = some (exo a C none) ∧ Q (.ref C) none (del H2 a)) (fun _ _ _ => False)
theorem pmk0 {CXt : CXT} {x : Str} {C fI : Addr} {fd : FuncData} {ps : List Str} {sp : Sp} {p pos : Pos} (T : OexC X.K C) (iC : PySem.W.findIn X.K (.ref C) "__init__" = some (some (.ref fI))) (tI : PySem.W.typeIn X.K (.ref fI) = some (.type "function"))
    (F1 : FnOk X.prog X.w X.K X.mg X.base CXt k fI fd ps sp) (hr : Room (k + 1) X.A) (hb : Binds X.K fd ps []) (hx : Passes CXt X (fun _ _ _ => False)) (hg : Gl X x) (hm : X.mg x = some (.ref C)) (hdb : (x == ("__debug__" : Str)) = false := by decide) :
    PMk X (.Call (.Name x p) [] [] pos) (tMk0 C sp) := by
  intro pins s σ H Q I h
  obtain ⟨nm, qn, N, bs, bm, sn, sub, ab, col, dd, k0, k1, k2, k3, k5, isC, isVE⟩ := T.cls
  refine wpAny_Call_Name_kw (ld_glob I hg hm ?_ hdb)
  refine PySem.W.callWith_K0 I.kIn T.kC ?_
  show wpAny _ _ (call (.ref C) []) _ _ _
  obtain ⟨u1, gs, dr, tk, q⟩ := s
  have le1 : u1.objs.size ≤ u1.objs.size + 1 := Nat.le_succ _
  have fr1 : H (u1.objs.size + 1) = none := I.hok.fresh le1
  have want := h (u1.objs.size + 1) fr1
  have kp : ∀ b o, u1.get? b = some o → ((u1.push (PySem.W.kdv_tup [])).push (PySem.HandSPX.excO C u1.objs.size)).get? b = some o := fun b o e => Heap.get?_push_of_some _ (Heap.get?_push_of_some _ e)
  have stands : ((u1.push (PySem.W.kdv_tup [])).push (PySem.HandSPX.excO C u1.objs.size)).get? (u1.objs.size + 1) = some (PySem.HandSPX.excO C u1.objs.size) := by heap_get
  have I2 : Inv X pins σ (upd H (u1.objs.size + 1) (exo (u1.objs.size + 1) C none)) ⟨(u1.push (PySem.W.kdv_tup [])).push (PySem.HandSPX.excO C u1.objs.size), gs, dr, tk, q⟩ :=
    I.laid (t' := tk) (a := u1.objs.size + 1) (o := exo (u1.objs.size + 1) C none) (h' := (u1.push (PySem.W.kdv_tup [])).push (PySem.HandSPX.excO C u1.objs.size)) kp le1 (exo_ok stands)
  have one : Vals [V.ref (u1.objs.size + 1)] [Value.ref (u1.objs.size + 1)] := .cons rfl .nil
  have len1 : [Value.ref (u1.objs.size + 1)].length = ps.length := by
    have e := F1.len _ _ _ _ want
    simpa using e
  have bnd := hb _ [Value.ref (u1.objs.size + 1)] I2.kIn (by rw [List.append_nil]; exact len1)
  rw [List.append_nil] at bnd
  refine wpAny_call (PySem.HandSPX.call_own F.excBase_ValueError (fun Z => PySem.HandSPX.refsVE_contains Z bm isVE) (I.kIn _ _ isC) (PySem.W.looks_findIn I.kIn iC) (fun self => PySem.W.bind_fn I.kIn self tI) (Nat.zero_le _)
    (codeAny_mono (F1.run _ X.stack _ _ ⟨[Value.ref (u1.objs.size + 1)], []⟩ [Value.ref (u1.objs.size + 1)] _ _ (fun _ _ _ => False) (hr.make C [] []) (I2.env0.make C [] []) bnd one want) fun r s' hq' => ?_))
  cases r with
  | error er => exact hx pins σ _ _ er s' I2 hq'
  | ok fl =>
    cases fl with
    | ret u =>
      obtain ⟨v, H2, os2, bare2, un2, hok2, rv, ev, en, q2⟩ := hq'
      subst ev
      obtain ⟨u3, gs', dr', tk', qq⟩ := s'
      obtain ⟨t0, G, J, kG, gone, there⟩ := end_bare (dr' := dr') (tk' := tk') I le1 kp un2 hok2 os2 bare2 en
      exact ⟨rv, _, _, _, ⟨G, gs', dr', tk', qq⟩, _, .ref C, none, rfl, J, kG, gone, there, ⟨rfl, rfl⟩, rfl, rfl, del_same, rfl, bare2, raises_own T.exC T.tyC, q2⟩
    | next => exact False.elim hq'
    | brk => exact False.elim hq'
    | cont => exact False.elim hq'
/-- what __init__(self): pass keeps -/
def spI0 : Sp := fun vs H Q _ => vs.length = 1 ∧ Q .non H
theorem ok_init0 {P : Program} {w : World} {K : PySem.W.Frag} {mg : Str → Option Value} {base : Heap} {qual : Str} {st : Stmt} {f : Addr} {fd : FuncData} {pp : Pos} (F : Fun K "__init__" qual st f fd) (S : FnScope ["self"] ["self"] (defScope st)) (hb : defBody st = [.Pass pp]) :
    FnOk P w K mg base (L2.CX P w) 1 f fd ["self"] spI0 := by
  refine F.okX S (fun vs H Q E h => h.1) fun cdv A outer s H vs Q E hr h => ?_
  rw [hb]
  exact ⟨_, pss_one ps_pass, h.2⟩
/-- what __init__(self, f): self.f = f keeps -/
def spI1 (C : Addr) (f : Str) : Sp := fun vs H Q _ => vs.length = 2 ∧ ∃ a y, vs = [.ref a, y] ∧ H a = some (exo a C none) ∧ ∀ dx, H dx = none → dx ≠ a → Q .non (upd (upd H dx (exd dx [(f, y)])) a (exo a C (some dx)))
theorem ok_init1 {P : Program} {w : World} {K : PySem.W.Frag} {mg : Str → Option Value} {base : Heap} {qual : Str} {st : Stmt} {f C : Addr} {fd : FuncData} {n : Str} {p1 p2 p3 p4 : Pos} (T : OexC K C) (hno : PySem.W.findIn K (.ref C) n = some none) (F : Fun K "__init__" qual st f fd) (S : FnScope ["self", n] ["self", n] (defScope st))
    (hb : defBody st = [.Assign [.Attribute (.Name "self" p1) n p2] (.Name n p3) p4]) (l1 : (defScope st).names.lookup ("self" : Str) = some NameKind.local) (l2 : (defScope st).names.lookup n = some NameKind.local) (hd : (n == ("__debug__" : Str)) = false := by decide) (hcd : (n == ("__classdict__" : Str)) = false := by decide) :
    FnOk P w K mg base (L2.CX P w) 1 f fd ["self", n] (spI1 C n) := by
  refine F.okX S (fun vs H Q E h => h.1) fun cdv A outer s H vs Q E hr h => ?_
  rw [hb]
  refine ⟨_, pss_one (ps_ost (pe_var (i := 0) rfl (.inl l1)) (pe_var (i := 1) rfl (.inl l2) hd hcd)), ?_⟩
  obtain ⟨_, a, y, rfl, ha, q⟩ := h
  exact ⟨y, rfl, .ref a, rfl, a, C, rfl, T, hno, .inl ⟨ha, fun dx h1 h2 => q dx h1 h2⟩⟩

/-! ### raise -/
def sRaise0 (c : Str) : En → Store → Res := fun env S => .er c [] env S
def sRaise1 (c n : Str) (f : En → Store → Out Val) : En → Store → Res := fun env S => (f env S).toS env fun x S1 => .er c [(n, x)] env S1
theorem ss_raise0 {c : Str} {C fI : Addr} {fd : FuncData} {kc : Nat} {p pos pos2 : Pos} (cc : Cc X Y W kc) (h2 : 2 ≤ kc) (hc : Y.er c = some (.ref C)) (T : OexC X.K C) (iC : PySem.W.findIn X.K (.ref C) "__init__" = some (some (.ref fI))) (tI : PySem.W.typeIn X.K (.ref fI) = some (.type "function"))
    (F1 : FnOk X.prog X.w X.K X.mg X.base (L2.CX X.prog X.w) 1 fI fd ["self"] spI0) (hb : Binds X.K fd ["self"] []) (hg : Gl X c) (hm : X.mg c = some (.ref C)) (hdb : (c == ("__debug__" : Str)) = false := by decide) :
    SS X Y W (.Raise (some (.Call (.Name c p) [] [] pos)) none pos2) (sRaise0 c) := by
  refine PS.imp (ps_raise cc.calm cc.tk (pmk0 T iC tI F1 (cc.room.mono h2) hb passL hg hm hdb)) fun D σ H h => ?_
  obtain ⟨ρ, env, S, he, hs, h⟩ := h
  intro a ha
  refine ⟨rfl, rfl, upd_same, ?_⟩
  have e1 : Ext H (del (upd H a (exo a C none)) a) := fun b o f e => by
    have : b ≠ a := ne_of_none e ha
    rw [del_ne this, upd_ne this]; exact e
  have e2 : del (upd H a (exo a C none)) a = H := by
    funext b
    by_cases hb : b = a
    · rw [hb, del_same, ha]
    · rw [del_ne hb, upd_ne hb]
  rw [e2]
  exact h _ none σ ρ H (Pre.refl _) (Ext.refl _) he hs ⟨hc, .inl ⟨rfl, rfl⟩⟩
theorem ss_raise1 {c n : Str} {C fI : Addr} {fd : FuncData} {kc : Nat} {p pos pos2 : Pos} {e : Expr} {f : En → Store → Out Val} (cc : Cc X Y W kc) (h2 : 2 ≤ kc) (hc : Y.er c = some (.ref C)) (T : OexC X.K C) (iC : PySem.W.findIn X.K (.ref C) "__init__" = some (some (.ref fI))) (tI : PySem.W.typeIn X.K (.ref fI) = some (.type "function"))
    (F1 : FnOk X.prog X.w X.K X.mg X.base (L2.CX X.prog X.w) 1 fI fd ["self", n] (spI1 C n)) (hb : Binds X.K fd ["self", n] []) (hg : Gl X c) (hm : X.mg c = some (.ref C)) (he : SE X Y W e f) (hdb : (c == ("__debug__" : Str)) = false := by decide)
    (hs : starEach [e] X.env = (false, eval e X.env) :: starEach [] X.env := by rfl) :
    SS X Y W (.Raise (some (.Call (.Name c p) [e] [] pos)) none pos2) (sRaise1 c n f) := by
  refine PS.imp (ps_raise cc.calm cc.tk (pmk_oex (dvs := []) T iC tI F1 (cc.room.mono h2) hb .nil passL hg hm (pa_cons he pa_nil hs) hdb hs rfl)) fun D σ H h => ?_
  refine tS.go (k := fun env x S1 => .er c [(n, x)] env S1) h fun ρ env v x H1 S1 he hs rx hp => ?_
  refine ⟨by show 1 ≤ 1000; decide, fun a ha => ⟨rfl, a, v, rfl, upd_same, fun dx hd hne => ?_⟩⟩
  have hd1 : H1 dx = none := by rw [upd_ne hne] at hd; exact hd
  refine ⟨rfl, dx, _, upd_same, by rw [upd_ne hne, upd_same], hd1, ?_⟩
  have e2 : upd (del (upd (upd (upd H1 a (exo a C none)) dx (exd dx [(n, v)])) a (exo a C (some dx))) a) dx (.xd [(n, v)]) = upd H1 dx (.xd [(n, v)]) := by
    funext b
    by_cases h1 : b = dx
    · subst h1; rw [upd_same, upd_same]
    · rw [upd_ne h1, upd_ne h1]
      by_cases h2 : b = a
      · subst h2; rw [del_same, ha]
      · rw [del_ne h2, upd_ne h2, upd_ne h1, upd_ne h2]
  rw [e2]
  have en := Ext.new (o := .xd [(n, v)]) hd1
  exact hp _ (some dx) σ ρ _ (Pre.refl _) en (he.up (Pre.refl _) en) (hs.other hd1) ⟨hc, .inr ⟨dx, [(n, v)], rfl, upd_same, .cons ⟨rfl, rx.up (Pre.refl _) en⟩ .nil⟩⟩
end
end Mp

set_option Elab.async false
set_option linter.all false
set_option maxRecDepth 100000
set_option maxHeartbeats 1000000
/-! try, except. -/
namespace Mp
open PySem PySem.Spec PyProof.Rows L2

/-! ### one clause with a name -/
/-- what a suite comes to, slot i let go of -/
def Res.let (i : Nat) : Res → Res
  | .nx e S => .nx (e.set i none) S
  | .rt v S => .rt v S
  | .bk e S => .bk (e.set i none) S
  | .ct e S => .ct (e.set i none) S
  | _ => .bad
def sTryAs (m : Str → Bool) (i : Nat) (gb : En → Store → Res) (g : Str → List (Str × Val) → En → Store → Res) : En → Store → Res := fun env S => match gb env S with
  | .er c fs e S1 => if m c = true then (if i < e.length then (g c fs (e.set i none) S1).let i else .bad) else .er c fs e S1
  | r => r
/-- the suites: no calls, no raising -/
structure Cs (X : Cx) : Prop where
  nd : X.N.Nodup
  un : X.A.units + 200 < cLine
theorem Cs.u0 {X : Cx} (c : Cs X) : X.A.units < cLine := by have := c.un; omega
theorem Cs.u1 {X : Cx} (c : Cs X) : X.A.units + 1 < cLine := by have := c.un; omega
theorem Cs.u64 {X : Cx} (c : Cs X) : X.A.units + 64 < cLine := by have := c.un; omega
theorem Cs.u65 {X : Cx} (c : Cs X) : X.A.units + 65 < cLine := by have := c.un; omega
theorem Cc.un {X : Cx} {Y : Sy} {W : WX} {k : Nat} (c : Cc X Y W k) : X.A.units + 200 < cLine := by have := c.room.un; omega
theorem ERep.unset {K : PySem.W.Frag} {Y : Sy} {ρ : List Addr} {H : Hp} {σ : L2.St} {env : En} (h : ERep K Y ρ H σ env) (i : Nat) (Y' : Sy) (hy : Y'.xi = none) : ERep K Y' ρ H (σ.set i none) (env.set i none) := by
  refine ⟨by simp [h.len], fun j y q => ?_, fun n a cv d fs q => by rw [hy] at q; cases q⟩
  by_cases hj : j = i
  · subst hj
    by_cases hl : j < env.length
    · rw [List.getElem?_set_self hl] at q; cases q
    · rw [List.getElem?_eq_none (by simpa using hl)] at q; cases q
  · rw [List.getElem?_set_ne (Ne.symm hj)] at q ⊢
    exact h.at_ j y q
theorem Sim.y {K : PySem.W.Frag} {Y Y' : Sy} {ρ : List Addr} {H : Hp} {S : Store} (s : Sim K Y ρ H S) (h : Y'.cl = Y.cl) (her : Y'.er = Y.er := by rfl) : Sim K Y' ρ H S :=
  ⟨s.len, s.nd, fun i a o h1 h2 => by
    have := s.ob i a o h1 h2
    cases o <;> first | exact this | (unfold ObRep at this ⊢; rw [h]; exact this) | (unfold ObRep at this ⊢; dsimp only at this ⊢; rw [her]; exact this)⟩
section
variable {X : Cx} {Y : Sy} {W : WX} {kc : Nat} {x n : Str} {hv : Value} {i : Nat} {body suite : List Stmt} {b₀ : Stmt} {np pos pos' : Pos} {m : Str → Bool} {gb : En → Store → Res} {g : Str → List (Str × Val) → En → Store → Res}
def tsAs (K : PySem.W.Frag) (Y : Sy) (m : Str → Bool) (i : Nat) (g : Str → List (Str × Val) → En → Store → Res) : Addr → Value → Option Addr → TS := fun a cls d D σ H =>
  ∃ c fs, Y.er c = some cls ∧ m c = true ∧ tS K { Y with xi := some (i, a, cls, d, fs) } W0 (g c fs) D σ H
theorem ss_try_as (c : Cc X Y W kc) (hi : X.N[i]? = some n) (hln : X.env.kindOf n = some .local) (hc : Names X x hv) (hm : ∀ q cls, Y.er q = some cls → PySem.W.exmOne X.K cls hv = some (m q))
    (hb : ∀ pn xe W', Cc (X.tr pn xe) Y W' kc → SSs (X.tr pn xe) Y W' body gb)
    (hsu : ∀ (a : Addr) (oe : Obj) (q : Str) (cls : Value) (d : Option Addr) (pn : List (Addr × Obj)) (fs : List (Str × Val)), Y.er q = some cls → m q = true → Zc cls d oe → (∃ vs, oe.data = .fields vs) → Cs (X.suite a ((a, oe) :: pn)) →
      SSs (X.suite a ((a, oe) :: pn)) { Y with xi := some (i, a, cls, d, fs) } W0 (b₀ :: suite) (g q fs))
    (hs : X.stack = X.env :: X.outer := by rfl) (hf : X.env.frame = some X.env.locals := by rfl) :
    SS X Y W (.Try body [.ExceptHandler (some (.Name x np)) (some n) (b₀ :: suite) pos'] [] [] pos) (sTryAs m i gb g) := by
  refine PS.imp (ps_try_as (tb := fun W' => tS X.K Y W' gb) (ts := tsAs X.K Y m i g) hs hf c.nd hi hln hc c.tk (fun W' pn xe tk po => hb pn xe W' ⟨c.calm, c.nd, c.xi, po, tk, c.room⟩) fun a oe cls d pn hz hd => ?_) fun D σ H h => ?_
  · refine ⟨fun pins s σ H D I hh => ?_⟩
    obtain ⟨q, fs, e1, e2, hh⟩ := hh
    exact (hsu a oe q cls d pn fs e1 e2 hz hd ⟨c.nd, c.un⟩).run pins s σ H D I hh
  · obtain ⟨ρ, env, S, he, hs, h⟩ := h
    refine ⟨ρ, env, S, he, hs, ?_⟩
    unfold sTryAs at h
    generalize hgr : gb env S = r at h
    cases r with
    | nx e1 S1 => exact h
    | rt v S1 => exact h
    | bk e1 S1 => exact h
    | ct e1 S1 => exact h
    | bad => exact h
    | er q fs e1 S1 =>
      intro cls d σ1 ρ1 H1 p1 x1 he1 hs1 her
      refine ⟨m q, hm q cls her.1, fun hq a ha => ?_, fun hq => ?_⟩
      · simp only [hq, if_true] at h
        by_cases hl : i < e1.length
        · rw [if_pos hl] at h
          refine ⟨q, fs, her.1, hq, ρ1, e1.set i none, S1, ⟨?_, fun j y z => ?_, fun n' a' cv' d' fs' z => ?_⟩, hs1.y rfl, ?_⟩
          · simp [he1.len]
          · by_cases hj : j = i
            · subst hj
              rw [List.getElem?_set_self hl] at z; cases z
            · rw [List.getElem?_set_ne (Ne.symm hj)] at z ⊢
              exact he1.at_ j y z
          · cases z
            exact ⟨List.getElem?_set_self (by rw [he1.len]; exact hl), her.2⟩
          · generalize g q fs (e1.set i none) S1 = r2 at h
            have hup := PostS.up p1 x1 h
            cases r2 with
            | nx e2 S2 => exact fun σ2 ρ2 H2 p2 x2 he2 hs2 => hup (σ2.set i none) ρ2 H2 p2 x2 (he2.unset i Y c.xi) (hs2.y rfl)
            | rt v S2 => exact fun v2 ρ2 H2 p2 x2 hs2 r2 => hup v2 ρ2 H2 p2 x2 (hs2.y rfl) r2
            | bk e2 S2 => exact fun σ2 ρ2 H2 p2 x2 he2 hs2 => hup (σ2.set i none) ρ2 H2 p2 x2 (he2.unset i Y c.xi) (hs2.y rfl)
            | ct e2 S2 => exact fun σ2 ρ2 H2 p2 x2 he2 hs2 => hup (σ2.set i none) ρ2 H2 p2 x2 (he2.unset i Y c.xi) (hs2.y rfl)
            | er c2 fs2 e2 S2 => exact h.elim
            | bad => exact h.elim
        · rw [if_neg hl] at h; exact h.elim
      · simp only [hq] at h
        exact h cls d σ1 ρ1 H1 p1 x1 he1 hs1 her
/-- error.f in the suite -/
def eXf (fs : List (Str × Val)) (f : Str) : En → Store → Out Val := fun _ S => match fs.lookup f with
  | some v => .ok v S
  | none => .bad
theorem RepK.xlook {κ : Type} [BEq κ] [LawfulBEq κ] {K : PySem.W.Frag} {ρ : List Addr} {H : Hp} {f : κ} {y : Val} : ∀ {gs : List (κ × V)} {fs : List (κ × Val)}, RepK K ρ H gs fs → fs.lookup f = some y → ∃ v, gs.lookup f = some v ∧ Rep K ρ H v y
  | _, _, .nil, h => by cases h
  | (a, v) :: gs, (b, z) :: fs, .cons h r, e => by
    obtain ⟨h1, h2⟩ := h
    obtain rfl : a = b := h1
    simp only [List.lookup] at e ⊢
    cases hq : (f == a) with
    | true => rw [hq] at e; cases e; exact ⟨v, rfl, h2⟩
    | false => rw [hq] at e; exact RepK.xlook r e
theorem se_xf {a C : Addr} {oe : Obj} {d : Option Addr} {pn : List (Addr × Obj)} {p pos : Pos} {f : Str} {fs : List (Str × Val)} (T : XfC X.K C) (hno : PySem.W.findIn X.K (.ref C) f = some none) (hz : Zc (.ref C) d oe) (hf : ∃ vs, oe.data = .fields vs)
    (hN : X.N[i]? = some n) (hv : X.env.scope.names.lookup n = some .local) (hd : (n == ("__debug__" : Str)) = false := by decide) (hcd : (n == ("__classdict__" : Str)) = false := by decide) :
    SE (X.suite a ((a, oe) :: pn)) { Y with xi := some (i, a, .ref C, d, fs) } W (.Attribute (.Name n p) f pos) (eXf fs f) := by
  refine PE.imp (pe_xf (X := X) (te := tVar i) T hno hz hf (pe_var (i := i) hN (.inl hv) hd hcd)) fun σ H Q h => ?_
  obtain ⟨ρ, env, S, he, hs, h⟩ := h
  obtain ⟨h1, h2⟩ := he.xi i a (.ref C) d fs rfl
  refine ⟨.ref a, h1, rfl, rfl, ?_⟩
  unfold eXf at h
  split at h
  · rename_i y hy
    rcases h2 with ⟨rfl, _⟩ | ⟨dd, gs, rfl, e1, r1⟩
    · cases hy
    · obtain ⟨v, l1, r2⟩ := r1.xlook hy
      exact ⟨dd, gs, v, rfl, e1, l1, h v ρ H (Pre.refl _) (Ext.refl _) hs r2⟩
  · exact h.elim
end

/-! ### several clauses without names -/
abbrev Hd := (Str → Bool) × (En → Store → Res)
def tryHd (c : Str) (fs : List (Str × Val)) (e : En) (S : Store) : List Hd → Res
  | [] => .er c fs e S
  | (m, g) :: r => if m c = true then (match g e S with
    | .er _ _ _ _ => .bad
    | u => u) else tryHd c fs e S r
def sTry (gb : En → Store → Res) (l : List Hd) : En → Store → Res := fun env S => match gb env S with
  | .er c fs e S1 => tryHd c fs e S1 l
  | r => r
/-- the clauses hold what l says -/
inductive Hds (X : Cx) (Y : Sy) : List ExceptHandler → List (Value × (Addr → Value → Option Addr → TS)) → List Hd → Prop
  | nil : Hds X Y [] [] []
  | cons {x : Str} {hv : Value} {m : Str → Bool} {g : En → Store → Res} {b₀ : Stmt} {suite : List Stmt} {np pos' : Pos} {hds : List ExceptHandler} {l' : List (Value × (Addr → Value → Option Addr → TS))} {l : List Hd} (hc : Names X x hv)
      (hm : ∀ q cls, Y.er q = some cls → PySem.W.exmOne X.K cls hv = some (m q)) (hsu : ∀ (a : Addr) (pn : List (Addr × Obj)), Cs (X.suite a pn) → SSs (X.suite a pn) Y W0 (b₀ :: suite) g) (r : Hds X Y hds l' l) :
      Hds X Y (.ExceptHandler (some (.Name x np)) none (b₀ :: suite) pos' :: hds) ((hv, fun _ _ _ => tS X.K Y W0 g) :: l') ((m, g) :: l)
theorem Hds.ok {X : Cx} {Y : Sy} (cs : ∀ a pn, Cs (X.suite a pn)) {hds : List ExceptHandler} {l' : List (Value × (Addr → Value → Option Addr → TS))} {l : List Hd} (h : Hds X Y hds l' l) : HdsOk X hds l' := by
  induction h with
  | nil => exact .nil
  | cons hc hm hsu r ih => exact .cons hc (fun a oe cls d pn _ _ => hsu a ((a, oe) :: pn) (cs _ _)) ih
theorem Hds.post {X : Cx} {Y : Sy} {W : WX} {D : Ends} {c : Str} {fs : List (Str × Val)} {e : En} {S : Store} {cls : Value} {d : Option Addr} {σ : L2.St} {ρ : List Addr} {H : Hp} (he : ERep X.K Y ρ H σ e) (hs : Sim X.K Y ρ H S) (her : ErrRep X.K Y ρ H cls d c fs)
    {hds : List ExceptHandler} {l' : List (Value × (Addr → Value → Option Addr → TS))} {l : List Hd} (h : Hds X Y hds l' l) (hp : PostS X.K Y W ρ H D (tryHd c fs e S l)) : wMany X.K W D l' cls d σ H := by
  induction h with
  | nil => exact hp cls d σ ρ H (Pre.refl _) (Ext.refl _) he hs her
  | @cons x hv m g b₀ suite np pos' hds l' l hc hm hsu r ih =>
    refine ⟨m c, hm c cls her.1, fun hq a ha => ?_, fun hq => ?_⟩
    · simp only [tryHd, hq, if_true] at hp
      refine ⟨ρ, e, S, he, hs, ?_⟩
      generalize g e S = u at hp
      cases u with
      | er a b c d => exact hp.elim
      | _ => exact hp
    · simp only [tryHd, hq] at hp
      exact ih hp
theorem ss_try {X : Cx} {Y : Sy} {W : WX} {kc : Nat} {body : List Stmt} {pos : Pos} {gb : En → Store → Res} {h₀ : ExceptHandler} {hds : List ExceptHandler} {l' : List (Value × (Addr → Value → Option Addr → TS))} {l : List Hd} (c : Cc X Y W kc)
    (hb : ∀ pn xe W', Cc (X.tr pn xe) Y W' kc → SSs (X.tr pn xe) Y W' body gb) (hh : Hds X Y (h₀ :: hds) l' l)
    (hs : X.stack = X.env :: X.outer := by rfl) (hf : X.env.frame = some X.env.locals := by rfl) : SS X Y W (.Try body (h₀ :: hds) [] [] pos) (sTry gb l) := by
  refine PS.imp (ps_try_many (tb := fun W' => tS X.K Y W' gb) hs hf c.tk (fun W' pn xe tk po => hb pn xe W' ⟨c.calm, c.nd, c.xi, po, tk, c.room⟩) (hh.ok fun a pn => ⟨c.nd, c.un⟩)) fun D σ H h => ?_
  obtain ⟨ρ, env, S, he, hs, h⟩ := h
  refine ⟨ρ, env, S, he, hs, ?_⟩
  unfold sTry at h
  generalize hgr : gb env S = r at h
  cases r with
  | nx e1 S1 => exact h
  | rt v S1 => exact h
  | bk e1 S1 => exact h
  | ct e1 S1 => exact h
  | bad => exact h
  | er q fs e1 S1 => exact fun cls d σ1 ρ1 H1 p1 x1 he1 hs1 her => hh.post he1 hs1 her (PostS.up p1 x1 h)
end Mp

set_option Elab.async false
set_option linter.all false
set_option maxRecDepth 100000
set_option maxHeartbeats 1000000
/-! Own classes: fields, making, isinstance, an own ==. -/
namespace Mp
open PySem PySem.Spec PyProof.Rows L2

/-- what the text says of a class -/
structure Kl (K : PySem.W.Frag) (C : Addr) : Prop where
  cls : Cls K C
  ca : PySem.W.findIn K (.ref C) "__class__" = some (some (.builtin "object.__class__"))
  gt : PySem.W.specialIn K (.builtin "object.__class__") "__get__" = some (some (.builtin "getset_descriptor.__get__"))
  tk : PySem.W.takesIn K (.builtin "object.__class__") = some true
  mo : PySem.W.mroIn K C (.type "object") = some true
/-- the classes that stand around -/
def Kls (K : PySem.W.Frag) (Y : Sy) : Prop := ∀ c C, Y.cl c = some C → Kl K C
def NoF (K : PySem.W.Frag) (Y : Sy) (cs : List Str) (f : Str) : Prop := ∀ c C, c ∈ cs → Y.cl c = some C → NoAttr K C f

/-! ### fields -/
def putS (f : Str) (v : Val) : List (Str × Val) → List (Str × Val)
  | [] => [(f, v)]
  | (g, x) :: r => if g = f then (g, v) :: r else (g, x) :: putS f v r
theorem RepK.putS {K : PySem.W.Frag} {ρ : List Addr} {H : Hp} {f : Str} {v : V} {x : Val} (h : Rep K ρ H v x) : ∀ {gs : List (Str × V)} {fs : List (Str × Val)}, RepK K ρ H gs fs → RepK K ρ H (putF f v gs) (Mp.putS f x fs)
  | _, _, .nil => .cons ⟨rfl, h⟩ .nil
  | (a, u) :: gs, (b, z) :: fs, .cons q r => by
    obtain ⟨q1, q2⟩ := q
    obtain rfl : a = b := q1
    unfold putF Mp.putS
    by_cases e : a = f
    · rw [if_pos e, if_pos e]; exact .cons ⟨rfl, h⟩ r
    · rw [if_neg e, if_neg e]; exact .cons ⟨rfl, q2⟩ (RepK.putS h r)
def insOf (S : Store) : Val → Option (Str × List (Str × Val))
  | .ref i => match S[i]? with
    | some (.ins c fs) => some (c, fs)
    | _ => none
  | _ => none
theorem insOf_rep {K : PySem.W.Frag} {Y : Sy} {ρ : List Addr} {H : Hp} {S : Store} {v : V} {x : Val} {c : Str} {fs : List (Str × Val)} (hs : Sim K Y ρ H S) (r : Rep K ρ H v x) (h : insOf S x = some (c, fs)) :
    ∃ i a C dx gs, x = .ref i ∧ S[i]? = some (.ins c fs) ∧ v = .ref a ∧ ρ[i]? = some a ∧ Y.cl c = some C ∧ H a = some (.ins C dx gs) ∧ RepK K ρ H gs fs := by
  cases r <;> try (simp [insOf] at h; done)
  rename_i a i hi
  simp only [insOf] at h
  split at h
  · rename_i c' fs' e
    cases h
    obtain ⟨C, dx, gs, h1, h2, h3⟩ := (hs.ob i a _ hi e : ObRep K Y ρ H a (.ins c fs))
    exact ⟨i, a, C, dx, gs, rfl, e, rfl, hi, h1, h2, h3⟩
  · cases h
def eFld (cs : List Str) (f : Str) (g : En → Store → Out Val) : En → Store → Out Val := fun env S => (g env S).bind fun x S1 => match insOf S1 x with
  | some (c, fs) => if c ∈ cs then (match fs.lookup f with
    | some v => .ok v S1
    | none => .bad) else .bad
  | none => .bad
section
variable {X : Cx} {Y : Sy} {W : WX} {e o : Expr} {f : Str} {pos pos' : Pos} {g go : En → Store → Out Val} {cs : List Str}
theorem se_fld (hK : Kls X.K Y) (hn : NoF X.K Y cs f) (he : SE X Y W e g) (hb : attributeBase e f X.env (eval e X.env) = eval e X.env := by rfl) : SE X Y W (.Attribute e f pos) (eFld cs f g) := by
  refine PE.imp (pe_fld he hb) fun σ H Q h => ?_
  refine tG.bind (k := fun _ x S1 => match insOf S1 x with | some (c, fs) => if c ∈ cs then (match fs.lookup f with | some v => Out.ok v S1 | none => Out.bad) else Out.bad | none => Out.bad) h fun ρ env v x H1 S1 he hs rx hp => ?_
  split at hp
  · rename_i c fs e1
    split at hp
    · rename_i hc
      split at hp
      · rename_i y ey
        obtain ⟨i, a, C, dx, gs, rfl, e2, rfl, hi, hC, ea, rk⟩ := insOf_rep hs rx e1
        obtain ⟨u, l, ru⟩ := rk.xlook ey
        exact ⟨a, C, dx, gs, u, rfl, ea, (hK c C hC).cls, hn c C hc hC, l, hp u ρ H1 (Pre.refl _) (Ext.refl _) hs ru⟩
      · exact hp.elim
    · exact hp.elim
  · exact hp.elim
/-- o.f = value -/
def kFld (cs : List Str) (f : Str) (y : Val) (env : En) (x : Val) (S2 : Store) : Res := match x with
  | .ref i => (match S2[i]? with
    | some (.ins c fs) => if c ∈ cs ∧ fs.length < 1000 then .nx env (S2.set i (.ins c (putS f y fs))) else .bad
    | _ => .bad)
  | _ => .bad
def sFldS (cs : List Str) (f : Str) (gv go : En → Store → Out Val) : En → Store → Res := fun env S => (gv env S).toS env fun y S1 => (go env S1).toS env (kFld cs f y env)
theorem ss_fld {gv : En → Store → Out Val} {value : Expr} (hK : Kls X.K Y) (hn : NoF X.K Y cs f) (ho : SE X Y W o go) (hv : SE X Y W value gv) (hs : swapsWith value (some (.Attribute o f pos')) pos.line X.env = pure false := by rfl) :
    SS X Y W (.Assign [.Attribute o f pos'] value pos) (sFldS cs f gv go) := by
  refine PS.imp (ps_fld ho hv hs) fun D σ H h => ?_
  refine tS.go (k := fun env y S1 => (go env S1).toS env (kFld cs f y env)) h fun ρ env v y H1 S1 he1 hs1 ry hp => ?_
  refine ⟨ρ, env, S1, he1, hs1, ?_⟩
  generalize go env S1 = oo at hp
  cases oo with
  | bad => exact hp
  | err c fs S2 => exact fun cls d ρ2 H2 p2 e2 s2 r2 => hp cls d σ ρ2 H2 p2 e2 (he1.up p2 e2) s2 r2
  | ok x S2 =>
    intro w ρ2 H2 p2 e2 s2 rx
    simp only [Out.toS, kFld] at hp
    cases rx <;> try (exact hp.elim)
    rename_i a i hi
    dsimp only at hp
    split at hp
    · rename_i c fs e4
      split at hp
      · rename_i hc
        obtain ⟨C, dx, gs, h1, h2, h3⟩ := (s2.ob i a _ hi e4 : ObRep X.K Y ρ2 H2 a (.ins c fs))
        refine ⟨a, C, dx, gs, rfl, h2, (hK c C h1).cls, hn c C hc.1 h1, by rw [h3.length]; exact hc.2, ?_⟩
        obtain ⟨e5, s5⟩ := s2.put (u := .ins C dx (putF f v gs)) (o := .ins c (putS f y fs)) hi ⟨C, dx, _, h1, upd_same, ((RepK.putS (ry.up p2 e2) h3).up (Pre.refl _) (Ext.mut h2 fun z => z))⟩
        exact hp σ ρ2 _ p2 (e2.trans e5) (he1.up p2 (e2.trans e5)) s5
      · exact hp.elim
    · exact hp.elim
end

/-! ### C(..) -/
section
variable {X : Cx} {Y : Sy} {W : WX} {kc k : Nat} {C f : Addr} {fd : FuncData} {ps : List Str} {c x : Str} {g : Fn} {n : Nat} {e : Expr} {es : List Expr} {ga : En → Store → Out (List Val)} {p pos : Pos}
theorem made_run {CXt : CXT} {E : L2.St → XK} {sp : Sp} {pins : List (Addr × Obj)} {σ : L2.St} {J : Hp} {s0 : Shared} {Q : VK} {us : List Value} {vs : List V} (mk : Mk X.K C f) (fo : FnOk X.prog X.w X.K X.mg X.base CXt k f fd ps sp) (rm : Room (k + 1) X.A) (bi : Binds X.K fd ps [])
    (pa : PassesAt CXt X σ (E σ)) (iv : Inv X pins σ J s0) (rv : Vals vs us)
    (want : ∀ a dx, J a = none → J dx = none → dx ≠ a → sp (.ref a :: vs) (upd (upd J dx (.own a)) a (.ins C dx [])) (fun v J2 => v = .non ∧ Q (.ref a) J2) (E σ)) :
    wpAny (model X.prog X.w) X.A (call (.ref C) us) (EP X pins σ Q) X.xe s0 := by
  let n := s0.heap.objs.size
  have wq := want (n + 1) n (iv.hok.fresh (Nat.le_succ _)) (iv.hok.fresh (Nat.le_refl _)) (Nat.ne_of_lt (Nat.lt_succ_self _))
  have iv2 := Inv.made (C := C) iv
  have rv2 : Vals (V.ref (n + 1) :: vs) (Value.ref (n + 1) :: us) := .cons rfl rv
  have ln : (Value.ref (n + 1) :: us).length = ps.length := by rw [← rv2.length]; exact fo.len _ _ _ _ wq
  have bd := bi _ (Value.ref (n + 1) :: us) iv2.kIn (by rw [List.append_nil]; exact ln)
  rw [List.append_nil] at bd
  have run := fo.run _ X.stack _ _ ⟨Value.ref (n + 1) :: us, []⟩ (Value.ref (n + 1) :: us) _ _ (E σ) (rm.make C us []) (iv2.env0.make C us []) bd rv2 wq
  refine wpAny_call (make_map (f := f) iv.kIn mk.makes mk.init (beq_iff_eq.mp mk.fn) (codeAny_mono run fun out s2 ho => ?_))
  rcases out with er | fl
  · exact pa pins _ _ er s2 iv2 ho
  · cases fl <;> first | exact ho.elim | skip
    obtain ⟨v, J2, iv3, rx, ez, q3⟩ := iv2.after ho
    subst ez
    exact ⟨rx, ⟨V.ref (n + 1), J2, iv3, rfl, q3⟩⟩
def kMake (n : Nat) : Val → Store → Out Val := fun r S2 => match r with
  | .non => .ok (.ref n) S2
  | _ => .bad
def fMake (c : Str) (g : Fn) : Fn := fun xs S1 => (g (.ref S1.length :: xs) (S1 ++ [.ins c []])).bind (kMake S1.length)
theorem se_make (cc : Cc X Y W kc) (mk : Mk X.K C f) (fo : FnOk X.prog X.w X.K X.mg X.base (L2.CX X.prog X.w) k f fd ps (spOf X.K Y n g)) (har : Arity n g) (hk : k + 1 ≤ kc) (hc : Y.cl c = some C) (hg : Gl X x) (hm : X.mg x = some (.ref C)) (hb : Binds X.K fd ps []) (ha : SA X Y W (e :: es) ga)
    (hdb : (x == ("__debug__" : Str)) = false := by decide) (he : starEach (e :: es) X.env = (false, eval e X.env) :: starEach es X.env := by rfl) (hpl : (backTo pos (starEach es X.env)).any (·.1) = false := by rfl) :
    SE X Y W (.Call (.Name x p) (e :: es) [] pos) (eCall (fMake c g) ga) := by
  refine ⟨fun pins s σ H Q I h => ?_⟩
  refine wpAny_Call_Name_kw (ld_glob I hg hm ?_ hdb)
  let M : List V → Hp → Prop := fun vs J => ∀ a dx, J a = none → J dx = none → dx ≠ a → spOf X.K Y n g (.ref a :: vs) (upd (upd J dx (.own a)) a (.ins C dx [])) (fun v J2 => v = .non ∧ Q (.ref a) J2) (WE W σ)
  have h2 : tG X.K Y W (RL X.K) ga σ H M := by
    refine tG.bind (k := fun _ => fMake c g) h fun ρ env vs xs H1 S1 he hs rx hp => ?_
    intro a dx fa fd ne
    have fa2 : upd H1 dx (.own a) a = none := by rw [upd_ne (Ne.symm ne)]; exact fa
    have e1 : Ext H1 (upd H1 dx (.own a)) := Ext.new fd
    have s1 := hs.other (o := .own a) fd
    have s2 : Sim X.K Y (ρ ++ [a]) (upd (upd H1 dx (.own a)) a (.ins C dx [])) (S1 ++ [.ins c []]) := s1.new fa2 ⟨C, dx, [], hc, upd_same, .nil⟩
    have e2 : Ext H1 (upd (upd H1 dx (.own a)) a (.ins C dx [])) := e1.trans (Ext.new fa2)
    have rs : Reps X.K (ρ ++ [a]) (upd (upd H1 dx (.own a)) a (.ins C dx [])) (.ref a :: vs) (.ref S1.length :: xs) := .cons (rep_new hs.len.symm) (rx.up (Pre.snoc _ _) e2)
    unfold fMake at hp
    refine ⟨?_, ρ ++ [a], _, _, rs, s2, ?_⟩
    · by_cases hl : (Val.ref S1.length :: xs).length = n
      · rw [rs.length]; exact hl
      · rw [har _ _ hl] at hp
        exact hp.elim
    · generalize g (.ref S1.length :: xs) (S1 ++ [.ins c []]) = oo at hp
      cases oo with
      | bad => exact hp
      | err c2 fs S2 => exact Post.up (R := RV X.K) (o := .err c2 fs S2) (Pre.snoc _ _) e2 hp
      | ok r S2 =>
        intro v ρ2 H2 p2 x2 s3 r3
        cases r3 <;> try (exact hp.elim)
        exact ⟨rfl, hp _ ρ2 H2 ((Pre.snoc _ _).trans p2) (e2.trans x2) s3 (.ref (p2 _ _ (by rw [← hs.len]; simp)))⟩
  refine PySem.W.callWith_K (h₀ := X.base) I.ok.mod.kin mk.kp (thn (ha.run pos pins s σ H _ I h2) fun us s1 ⟨vs, H1, I1, r, q⟩ => ⟨I1.kIn, ?_⟩) he hpl
  exact made_run (E := WE W) mk fo (cc.room.mono hk) hb (passAt cc.tk σ) I1 r q
end

/-! ### isinstance(x, C) -/
/-- the classes by name, as isinstance tells them apart: cs, the built-in ones -/
structure IsO (K : PySem.W.Frag) (Y : Sy) (C : Addr) (m : Str → Bool) : Prop where
  ty : ∀ t ∈ tyNames, PySem.W.kitOne K (.type t) (.ref C) = some false
  own : ∀ q D, Y.cl q = some D → PySem.W.kitOne K (.ref D) (.ref C) = some (m q)
def kIsO (m : Str → Bool) : Val → Store → Out Val := fun x S1 => match insOf S1 x with
  | some (c, _) => .ok (.bl (m c)) S1
  | none => match tyOf S1 x with
    | some t => if t ∈ tyNames then .ok (.bl false) S1 else .bad
    | none => .bad
def eIsO (m : Str → Bool) (f : En → Store → Out Val) : En → Store → Out Val := fun env S => (f env S).bind (kIsO m)
theorem pe_glob {X : Cx} {cn : Str} {C : Addr} {p : Pos} (hg : Gl X cn) (hm : X.mg cn = some (.ref C)) (hdb : (cn == ("__debug__" : Str)) = false := by decide) : PE X (.Name cn p) (tC (.ref C)) := ⟨fun pins s σ H Q I h => ld_glob I hg hm ⟨.ref C, H, I, rfl, h⟩ hdb⟩
theorem se_isO {X : Cx} {Y : Sy} {W : WX} {m : Str → Bool} {C : Addr} {cn : Str} {p p2 pos : Pos} {e : Expr} {f : En → Store → Out Val} (hK : Kls X.K Y) (hI : IsO X.K Y C m) (hg : Gl X "isinstance") (hm : X.mg "isinstance" = none) (hg2 : Gl X cn) (hm2 : X.mg cn = some (.ref C)) (ha : SE X Y W e f)
    (hdb : (cn == ("__debug__" : Str)) = false := by decide)
    (he : starEach [e, .Name cn p2] X.env = (false, eval e X.env) :: starEach [.Name cn p2] X.env := by rfl) (hpl : (backTo pos (starEach [.Name cn p2] X.env)).any (·.1) = false := by rfl) (h2 : starEach [.Name cn p2] X.env = (false, eval (.Name cn p2) X.env) :: starEach [] X.env := by rfl) :
    SE X Y W (.Call (.Name "isinstance" p) [e, .Name cn p2] [] pos) (eIsO m f) := by
  refine PE.imp (pe_callB (call_isi (X := X)) hg hm (by decide +kernel) (pa_cons ha (pa_cons (pe_glob hg2 hm2 hdb) pa_nil h2) he) (he := he) (hpl := hpl)) fun σ H Q h => ?_
  refine tG.bind (k := fun _ => kIsO m) h fun ρ env v x H1 S1 he hs rx hp => ?_
  unfold kIsO at hp
  split at hp
  · rename_i c fs e1
    obtain ⟨i, a, D, dx, gs, rfl, e2, rfl, hi, hC, ea, rk⟩ := insOf_rep hs rx e1
    have kl := hK c D hC
    exact ⟨.ref a, .ref C, .ref D, .ref C, m c, rfl, .own C, .base (.ins ea kl.cls kl.ca kl.gt kl.tk kl.mo), hI.own c D hC, hp _ ρ H1 (Pre.refl _) (Ext.refl _) hs (.bl _)⟩
  · split at hp
    · rename_i t et
      split at hp
      · rename_i ht
        exact ⟨v, .ref C, .type t, .ref C, false, rfl, .own C, tyOf_rep hs rx et, hI.ty t ht, hp _ ρ H1 (Pre.refl _) (Ext.refl _) hs (.bl _)⟩
      · exact hp.elim
    · exact hp.elim
end Mp

set_option Elab.async false
set_option linter.all false
set_option maxRecDepth 100000
set_option maxHeartbeats 1000000
/-! An own ==. -/
namespace Mp
open PySem PySem.Spec PyProof.Rows L2

structure EqO (K : PySem.W.Frag) (Y : Sy) (C f : Addr) : Prop where
  at_ : PySem.W.findIn K (.ref C) "__eq__" = some (some (.ref f))
  fn : PySem.W.isFn K (.ref f) = true
  ty : ∀ t ∈ tyNames, PySem.W.notFirst K C (.type t) = true
  own : ∀ q D, Y.cl q = some D → PySem.W.notFirst K C (.ref D) = true
def rEqO (K : PySem.W.Frag) (C : Addr) (sp : Sp) : R2 := fun x y H Q => ∃ a dx fs t, x = .ref a ∧ H a = some (.ins C dx fs) ∧ TyX K H y t ∧ PySem.W.notFirst K C t = true ∧ sp [x, y] H Q E0
theorem op_eqO {X : Cx} {Y : Sy} {C f : Addr} {fd : FuncData} {ps : List Str} {k : Nat} {sp : Sp} (eo : EqO X.K Y C f) (fo : FnOk X.prog X.w X.K X.mg X.base (L2.CX X.prog X.w) k f fd ps sp) (rm : Room k X.A) (bi : Binds X.K fd ps []) : OpR X (compareOp .Eq) (rEqO X.K C sp) := by
  intro pins s0 σ J x y u v Q iv rx ry hq
  obtain ⟨a, dx, fs, t, rfl, ea, ty, nf, want⟩ := hq
  cases rx
  obtain ⟨mA, ob, _⟩ := ins_get iv.hok ea
  obtain ⟨od, lk, _⟩ := ob.look
  obtain ⟨m, fr⟩ := iv.fr
  obtain ⟨P, kx, hp, _⟩ := kit_of iv ry ty
  have ll := fo.len _ _ _ _ want
  have rv : Vals [V.ref a, y] [Value.ref a, v] := .cons rfl (.cons ry .nil)
  have bd := bi s0 [Value.ref a, v] iv.kIn (by simpa using ll)
  rw [List.append_nil] at bd
  show wpAny (model X.prog X.w) X.A (richCompare .Eq (Value.ref a) v) (EP X pins σ Q) X.xe s0
  refine PySem.W.cmp_K (op := .Eq) (tb := t) rm.units0 fr iv.ok.mod.kin lk (kx.ty _ _ iv.kIn hp) nf eo.at_ eo.fn ?_
  refine wpAny_call (codeAny_mono (fo.run X.A X.stack s0 J ⟨[.ref a, v], []⟩ [.ref a, v] _ _ E0 rm iv.env0 bd rv want) fun out s2 ho => ?_)
  rcases out with er | fl
  · exact passL pins σ J s0 er s2 iv ho
  · cases fl <;> first | exact ho.elim | skip
    rename_i w
    obtain ⟨z, J2, iv2, rz, qz⟩ := iv.after ho
    have back : EP X pins σ Q w s2 := ⟨z, J2, iv2, rz, qz⟩
    cases w <;> first | exact back | skip
    exfalso
    cases z <;> first | (cases rz; done) | (obtain ⟨_, hh⟩ := rz; cases hh)
def ownEq (g : Fn) (x y : Val) (S : Store) : Out Val := match g [x, y] S with
  | .ok (.bl b) S1 => .ok (.bl b) S1
  | _ => .bad
/-- == where the left may be an instance of cn -/
def vEqO (cn : Str) (g : Fn) : BOp := fun x y S => match insOf S x with
  | some (c, _) => if c = cn then (match insOf S y with
    | some _ => ownEq g x y S
    | none => match tyOf S y with
      | some t => if t ∈ tyNames then ownEq g x y S else .bad
      | none => .bad) else .bad
  | none => vEq x y S
theorem ownEq_post {K : PySem.W.Frag} {Y : Sy} {g : Fn} {n : Nat} (har : Arity n g) {x y : Val} {S : Store} {v w : V} {ρ : List Addr} {H : Hp} {W' : Value → Option Addr → Hp → Prop} {Q : VK} (hs : Sim K Y ρ H S) (rx : Rep K ρ H v x) (ry : Rep K ρ H w y) (h : Post K Y W' ρ H (RV K) Q (ownEq g x y S)) : spOf K Y n g [v, w] H Q E0 := by
  unfold ownEq at h
  refine ⟨?_, ρ, [x, y], S, .cons rx (.cons ry .nil), hs, ?_⟩
  · by_cases hl : ([x, y] : List Val).length = n
    · exact hl
    · rw [har _ _ hl] at h; exact h.elim
  · split at h
    · rename_i b S1 e1
      rw [e1]; exact h
    · exact h.elim
theorem vEqO_ok {X : Cx} {Y : Sy} {C f : Addr} {cn : Str} {g : Fn} {n : Nat} (hK : Kls X.K Y) (har : Arity n g) (eo : EqO X.K Y C f) (hc : Y.cl cn = some C) : OpS X Y (rOr (rEqO X.K C (spOf X.K Y n g)) (rEqD X.K)) (vEqO cn g) := by
  intro W' ρ H S v w x y Q hs rx ry h
  unfold vEqO at h
  split at h
  · rename_i c fs e1
    split at h
    · rename_i hcn
      subst hcn
      obtain ⟨i, a, D, dx, gs, rfl, e2, rfl, hi, hC, ea, rk⟩ := insOf_rep hs rx e1
      rw [hc] at hC
      obtain rfl : C = D := Option.some.inj hC
      split at h
      · rename_i p ep
        obtain ⟨c2, fs2⟩ := p
        obtain ⟨i2, a2, D2, dx2, gs2, rfl, e22, rfl, hi2, hC2, ea2, rk2⟩ := insOf_rep hs ry ep
        have kl := hK c2 D2 hC2
        exact .inl ⟨a, dx, gs, .ref D2, rfl, ea, .base (.ins ea2 kl.cls kl.ca kl.gt kl.tk kl.mo), eo.own c2 D2 hC2, ownEq_post har hs rx ry h⟩
      · split at h
        · rename_i t et
          split at h
          · rename_i ht
            exact .inl ⟨a, dx, gs, .type t, rfl, ea, tyOf_rep hs ry et, eo.ty t ht, ownEq_post har hs rx ry h⟩
          · exact h.elim
        · exact h.elim
    · exact h.elim
  · exact .inr (vEq_ok W' ρ H S v w x y Q hs rx ry h)
section
variable {X : Cx} {Y : Sy} {W : WX} {C f : Addr} {cn : Str} {g : Fn} {n k kc : Nat} {fd : FuncData} {ps : List Str} {a b : Expr} {fa fb : En → Store → Out Val} {pos : Pos}
theorem se_eqO (cc : Cc X Y W kc) (hK : Kls X.K Y) (eo : EqO X.K Y C f) (hc : Y.cl cn = some C) (fo : FnOk X.prog X.w X.K X.mg X.base (L2.CX X.prog X.w) k f fd ps (spOf X.K Y n g)) (har : Arity n g) (hk : k ≤ kc) (bi : Binds X.K fd ps []) (ha : SE X Y W a fa) (hb : SE X Y W b fb) : SE X Y W (.Compare a [.Eq] [b] pos) (eB2 (vEqO cn g) fa fb) :=
  se_cmp (OpR.or2 (op_eqO eo fo (cc.room.mono hk) bi) (op_eqD cc.u64)) (vEqO_ok hK har eo hc) ha hb (nomark _)
theorem st_eqO (cc : Cc X Y W kc) (hK : Kls X.K Y) (eo : EqO X.K Y C f) (hc : Y.cl cn = some C) (fo : FnOk X.prog X.w X.K X.mg X.base (L2.CX X.prog X.w) k f fd ps (spOf X.K Y n g)) (har : Arity n g) (hk : k ≤ kc) (bi : Binds X.K fd ps []) (ha : SE X Y W a fa) (hb : SE X Y W b fb) : ST X Y W (.Compare a [.Eq] [b] pos) (bV (eB2 (vEqO cn g) fa fb)) :=
  st_cmp (OpR.or2 (op_eqO eo fo (cc.room.mono hk) bi) (op_eqD cc.u64)) (vEqO_ok hK har eo hc) ha hb (nomark _)
end
end Mp

set_option Elab.async false
set_option linter.all false
set_option maxRecDepth 100000
set_option maxHeartbeats 1000000
/-! enumerate over tuples and lists. -/
namespace Mp
open PySem PySem.Spec PyProof.Rows L2

theorem enum_new1 {v : Value} {o : Obj} {G : Heap → Prop} (B : Begins v o G) :
    Meets (Builtin.«enumerate.__new__» ⟨[.type "enumerate", v], []⟩) (fun _ R s => G s.heap ∧
      R (.ok (.ret (.ref (s.heap.push o).objs.size))) { s with heap := (s.heap.push o).push { cls := .type "enumerate", data := .fields #[.none, .bool false, .ref s.heap.objs.size, rawInt 0, .none, .none] } }) := by
  refine .of_wp fun prog w A R s h => ?_
  obtain ⟨u, gs, dr, tk, os⟩ := s
  obtain ⟨g1, h⟩ := h
  have sub := sub_enumerate
  have it1 : ∀ {A' : Around} {E : Value → Shared → Prop} {Q : Value → Shared → Prop}, Q (.ref u.objs.size) ⟨u.push o, gs, dr, tk, os⟩ → wpAny (model prog w) A' (pyIter v) Q E ⟨u, gs, dr, tk, os⟩ :=
    fun q => B.iter prog w _ _ ⟨u, gs, dr, tk, os⟩ _ g1 q
  wp_walk using it1
  refine wpAny_stack_any fun st => wpAny_pure ?_
  split
  · rename_i c _ _ _ _ _
    cases (c == Value.type "enumerate") <;> (wp_walk using it1; exact ⟨_, rfl, h⟩)
  · wp_walk using it1
    exact ⟨_, rfl, h⟩
theorem enum_call1 {prog : Program} {w : World} {A : Around} {E : Value → Shared → Prop} {s : Shared} {v : Value} {o : Obj} {G : Heap → Prop} {Q : Value → Shared → Prop} (B : Begins v o G) (g1 : G s.heap)
    (h : ∀ h', IsEnum h' (s.heap.objs.size + 1) s.heap.objs.size 0 .none → h'.get? s.heap.objs.size = some o → (∀ b o, s.heap.get? b = some o → h'.get? b = some o) → Q (.ref (s.heap.objs.size + 1)) { s with heap := h' }) :
    wpAny (model prog w) A (call (.type "enumerate") [v]) Q E s := by
  refine callType_new F.called_enumerate (by decide) (F.typeCall_enumerate_1 _) (F.newCall_enumerate_1 _) (fun obj => F.args_object_init_2 obj _) F.entry_enumerate_new (enum_new1 B) ⟨g1, ?_⟩
  have sz : (s.heap.push o).objs.size = s.heap.objs.size + 1 := Heap.size_push ..
  show _ ∧ _
  rw [sz]
  have en := Heap.get?_push_size (s.heap.push o) (o := { cls := .type "enumerate", data := .fields #[.none, .bool false, .ref s.heap.objs.size, rawInt 0, .none, .none] }) rfl
  rw [sz] at en
  exact ⟨⟨_, en, rfl⟩, h _ en (Heap.get?_push_of_some _ (Heap.get?_push_size _ B.free)) fun b o x => Heap.get?_push_of_some _ (Heap.get?_push_of_some _ x)⟩

/-- the tuple at a, each item in a new pair with its place -/
def ItE (K : PySem.W.Frag) (a : Addr) : It where
  go := fun i H => ∃ (xs : List V) (x : V), SqT K H a xs ∧ xs[i]? = some x
  yld := fun i H v H' => ∃ T x, v = .ref T ∧ H T = none ∧ H' = upd H T (.tup [.int (i : Nat), x]) ∧ ∀ xs, SqT K H a xs → xs[i]? = some x
  stop := fun i H => ∃ xs : List V, SqT K H a xs ∧ xs.length ≤ i
theorem turnE {P : Program} {w : World} {K : PySem.W.Frag} {elts : List Expr} {kk : Nat} {tpos : Pos} (a e it : Addr) :
    Turn P w K (.Tuple elts kk tpos) (ItE K a) [e, it] e (fun i h => (∃ old, IsEnum h e it ((i : Nat) : Int) old) ∧ h.IsTupleIter it a i ∧ e ≠ it) where
  mem := List.mem_cons_self
  obj := by
    rintro i h ⟨⟨old, he⟩, ⟨o, ho, hc, hd⟩, _⟩ b hb
    rcases List.mem_cons.mp hb with rfl | hb
    · exact ⟨_, he, fun v q => nomatch q⟩
    · obtain rfl := List.mem_singleton.mp hb
      exact ⟨o, ho, fun v q => by rw [hd] at q; cases q⟩
  keep := by
    rintro i h h' ⟨⟨old, he⟩, hi, hne⟩ k
    exact ⟨⟨old, k e (by simp) _ he⟩, hi.at fun o q => k it (by simp) o q, hne⟩
  item := by
    rintro X rfl rfl rfl hc i pins s σ H E I hf ⟨⟨old, he⟩, hit, hne⟩ ⟨xs, x, hq, hx⟩
    obtain ⟨its, rv, p, hz⟩ := I.tuple hq
    obtain ⟨u, hu, ru⟩ := rv.get hx
    have pt : s.heap.IsTuple a its.toArray := p
    have hit0 := hit
    have nae : e ≠ a := by
      rintro rfl
      obtain ⟨o, ho, hc', _⟩ := pt
      rw [he] at ho; cases ho; injection hc' with z; exact absurd z (by decide)
    have nai : a ≠ it := by
      rintro rfl
      obtain ⟨o, ho, hc', _⟩ := pt
      obtain ⟨o2, ho2, hc2, _⟩ := hit0
      rw [ho2] at ho; cases ho; rw [hc2] at hc'; injection hc' with z; exact absurd z (by decide)
    have hel : e < s.heap.objs.size := Heap.lt_size he
    have hil : it < s.heap.objs.size := by obtain ⟨_, q, _⟩ := hit; exact Heap.lt_size q
    have hil2 : i < its.toArray.size := by
      have := (List.getElem?_eq_some_iff.mp hu).1
      simpa using this
    refine wpAny_pyNext_enum_itemD (Draws.tuple (A := X.A.in1) (I.ok.hd hc) it a nai its.toArray) he ⟨hit, pt⟩ hil2 hne (by simp [hne, nae]) fun y h' tk hy ho st' hT hsz hk => ?_
    obtain rfl : y = u := by
      rw [show its.toArray[i]? = its[i]? from by simp] at hy
      rw [hu] at hy
      exact (Option.some.inj hy).symm
    refine ⟨_, rfl, wpAny_letOwnedTupleGo_enum (s := { s with heap := h', toks := tk + 1 }) ho fun h2 he2 sb => ?_⟩
    have at2 : h2.get? s.heap.objs.size = some { cls := .type "tuple", data := .seq #[.int i tk, y] } := (sb.2 _ (Nat.ne_of_gt hel)).trans hT
    have new : ObjOk X.prog X.w (upd H s.heap.objs.size (.tup [.int (i : Nat), x])) h2 s.heap.objs.size (.tup [.int (i : Nat), x]) :=
      ⟨by show 2 ≤ sizeLine; decide, [.int i tk, y], .cons ⟨_, rfl⟩ (.cons ru .nil), ⟨_, at2, rfl, _, rfl⟩⟩
    have I1 : Inv X pins σ (upd H s.heap.objs.size (.tup [.int (i : Nat), x])) { s with heap := h2, toks := tk + 1 } :=
      I.turnedNew (t' := tk + 1) (ch := [e, it]) (fun b ob hb q => (sb.2 b (fun z => hb (by simp [z]))).trans (hk b ob (fun z => hb (by simp [z])) (fun z => hb (by simp [z])) q)) hf (Nat.le_refl _) new
    refine ⟨.ref s.heap.objs.size, _, I1, rfl, ⟨_, x, rfl, I.hok.fresh (Nat.le_refl _), rfl, fun ys hy => by rw [I.tuple_inj hy hq]; exact hx⟩, ⟨⟨y, ?_⟩, st'.1.at fun o q => (sb.2 it (Ne.symm hne)).trans q, hne⟩, fun b hb => ?_⟩
    · rw [show ((i + 1 : Nat) : Int) = (i : Int) + 1 from by omega]; exact he2
    · have hb' : b < s.heap.objs.size := by
        rcases List.mem_cons.mp hb with rfl | z
        · exact hel
        · rw [List.mem_singleton.mp z]; exact hil
      rw [upd_ne (Nat.ne_of_lt hb')]
      exact (hf b hb).1
  done := by
    rintro X rfl rfl rfl hc i pins s σ H E I hf ⟨⟨old, he⟩, hit, hne⟩ ⟨xs, hq, hx⟩
    obtain ⟨its, rv, p, hz⟩ := I.tuple hq
    have pt : s.heap.IsTuple a its.toArray := p
    have hit0 := hit
    have nai : a ≠ it := by
      rintro rfl
      obtain ⟨o, ho, hc', _⟩ := pt
      obtain ⟨o2, ho2, hc2, _⟩ := hit0
      rw [ho2] at ho; cases ho; rw [hc2] at hc'; injection hc' with z; exact absurd z (by decide)
    obtain ⟨f0, f1, f2, f3, f4, f5⟩ := hf it (by simp)
    have hl := rv.length
    have D : Draws X.prog X.w X.A.in1 it [it, a] i (fun _ _ => False) (fun j h => j = i ∧ h.IsTupleIter it a i ∧ h.IsTuple a its.toArray) :=
      { live := fun j h st => let ⟨o, ho, _⟩ := st.2.1; ⟨o, ho⟩
        frame := fun j h h' st k => ⟨st.1, st.2.1.at fun o q => k it (by simp) o q, st.2.2.at fun o q => k a (by simp) o q⟩
        item := fun j s Q E lt st _ => absurd st.1 (Nat.ne_of_lt lt)
        done := fun s Q E st hE => wpAny_nextOf_tuple_end (I.ok.hd hc) st.2.1 st.2.2 (by simp; omega) hE }
    exact wpAny_pyNext_enum_endD D he ⟨rfl, hit, pt⟩ fun h' eb => ⟨rfl, I.turned (t' := s.toks) (fun b o hb q => eb b o hb q) f0 f1 f3 f4 f5⟩
  self := by
    rintro A i s Q E ⟨⟨_, he⟩, _⟩ h
    exact wpAny_pyIter_enum he h
def iEn (K : PySem.W.Frag) (ta : TA) : TI := fun σ H R => ta σ H fun vs H1 => ∃ a, vs = [.ref a] ∧ (((∃ xs, SqL K H1 a xs) ∧ R (Ite K a) H1) ∨ ((∃ xs, SqT K H1 a xs) ∧ R (ItE K a) H1))
theorem pi_en {X : Cx} {e : Expr} {ta : TA} {p pos tpos : Pos} {elts : List Expr} {kk : Nat} (hg : Gl X "enumerate") (hm : X.mg "enumerate" = none) (ha : PA X [e] ta) (hs : starEach [e] X.env = [(false, eval e X.env)] := by rfl) :
    PI X (.Tuple elts kk tpos) (.Call (.Name "enumerate" p) [e] [] pos) (iEn X.K ta) := by
  refine ⟨fun pins s σ H R I h => Call_ (ld_blt I hg hm boot_enumerate (PyProof.Rows.callWith_type1 (thn (ha.run pos pins s σ H _ I h) fun us s1 ⟨vs, H1, I1, r1, q1⟩ => ?_) hs rfl))⟩
  obtain ⟨a, rfl, q⟩ := q1
  obtain ⟨u, rfl, r⟩ : ∃ u, us = [u] ∧ RelV (.ref a) u := by cases r1 with | cons r rr => cases rr; exact ⟨_, rfl, r⟩
  obtain rfl : u = Value.ref a := r
  have fre : ∀ b ∈ [s1.heap.objs.size + 1, s1.heap.objs.size], FpOk X pins H1 b := fun b hb => by
    have hle : s1.heap.objs.size ≤ b := by
      rcases List.mem_cons.mp hb with rfl | z
      · exact Nat.le_succ _
      · rw [List.mem_singleton.mp z]; exact Nat.le_refl _
    exact I1.fpOk hle (I1.hok.fresh hle)
  rcases q with ⟨⟨xs, hq⟩, q⟩ | ⟨⟨xs, hq⟩, q⟩
  · obtain ⟨its, rv, p', hz⟩ := I1.list hq
    exact enum_call1 (begins_list a its.toArray) p'.isList fun h' he hit hk => wpAny_pyIter_enum he
      ⟨s1.heap.objs.size + 1, [s1.heap.objs.size + 1, s1.heap.objs.size], _, _, H1, rfl, I1.kept (t' := s1.toks) hk, turn_enum a (s1.heap.objs.size + 1) s1.heap.objs.size, ⟨⟨.none, he⟩, ⟨_, hit, rfl, rfl⟩, Nat.succ_ne_self _⟩, fre, q⟩
  · obtain ⟨its, rv, p', hz⟩ := I1.tuple hq
    exact enum_call1 (begins_tuple a its.toArray) (show s1.heap.IsTuple a its.toArray from p') fun h' he hit hk => wpAny_pyIter_enum he
      ⟨s1.heap.objs.size + 1, [s1.heap.objs.size + 1, s1.heap.objs.size], _, _, H1, rfl, I1.kept (t' := s1.toks) hk, turnE a (s1.heap.objs.size + 1) s1.heap.objs.size, ⟨⟨.none, he⟩, ⟨_, hit, rfl, rfl⟩, Nat.succ_ne_self _⟩, fre, q⟩
def enumL (xs : List Val) : List Val := xs.mapIdx fun i x => .tup [.int (i : Nat), x]
theorem enumL_length (xs : List Val) : (enumL xs).length = xs.length := by simp [enumL]
def enumOf (p : Itm) : Itm := (enumL p.1, p.2)
def iEnS (fa : En → Store → Out (List Val)) : En → Store → Out Itm := fun env S => (fa env S).bind fun xs S1 => match xs with
  | [x] => (match walkOf S1 x with
    | some p => .ok (enumOf p) S1
    | none => .bad)
  | _ => .bad
section
variable {K : PySem.W.Frag} {Y : Sy} {ρ : List Addr} {H : Hp}
theorem enum_step {ρ' : List Addr} {H1 : Hp} {S : Store} {i : Nat} {T : Addr} {x : V} {xs : List Val} {vs : List V} (s : Sim K Y ρ' H1 S) (r : Reps K ρ' H1 vs xs) (hT : H1 T = none) (hx : vs[i]? = some x) :
    ∃ z, (enumL xs)[i]? = some z ∧ Ext H1 (upd H1 T (.tup [.int (i : Nat), x])) ∧ Sim K Y ρ' (upd H1 T (.tup [.int (i : Nat), x])) S ∧ Rep K ρ' (upd H1 T (.tup [.int (i : Nat), x])) (.ref T) z := by
  obtain ⟨y, ey, ry⟩ := r.getV hx
  have en := Ext.new (o := .tup [.int (i : Nat), x]) hT
  exact ⟨.tup [.int (i : Nat), y], by simp [enumL, ey], en, s.other hT, .tup upd_same (.cons (.int _) (.cons (ry.up (Pre.refl _) en) .nil))⟩
theorem JRep.enT {a : Addr} {vs : List V} {xs : List Val} (e : H a = some (.tup vs)) (r : Reps K ρ H vs xs) : JRep K Y ρ H (ItE K a) (enumL xs, fun _ => True) := by
  have key : ∀ ρ' H', Pre ρ ρ' → Ext H H' → SqT K H' a vs ∧ Reps K ρ' H' vs xs := fun ρ' H' p q => ⟨SqT.of (q _ _ trivial e), r.up p q⟩
  refine ⟨fun i ρ' H' S p q s _ hi => ?_, fun i ρ' H' S p q s _ hi => ?_, fun i ρ' H' S v H2 p q s _ hi hy => ?_⟩
  · obtain ⟨h1, h2⟩ := key ρ' H' p q
    have hl : i < vs.length := by rw [h2.length]; simpa [enumL] using hi
    exact ⟨vs, vs[i], h1, List.getElem?_eq_getElem hl⟩
  · obtain ⟨h1, h2⟩ := key ρ' H' p q
    exact ⟨vs, h1, by rw [h2.length]; simpa [enumL] using hi⟩
  · obtain ⟨h1, h2⟩ := key ρ' H' p q
    obtain ⟨T, x, rfl, hT, rfl, hv⟩ := hy
    exact enum_step s h2 hT (hv vs h1)
theorem JRep.enF {a : Addr} {vs : List V} {xs : List Val} (e : Fzl K H a vs) (r : Reps K ρ H vs xs) : JRep K Y ρ H (Ite K a) (enumL xs, fun _ => True) := by
  have key : ∀ ρ' H', Pre ρ ρ' → Ext H H' → SqL K H' a vs ∧ Reps K ρ' H' vs xs := fun ρ' H' p q => ⟨(e.up q).sq, r.up p q⟩
  refine ⟨fun i ρ' H' S p q s _ hi => ?_, fun i ρ' H' S p q s _ hi => ?_, fun i ρ' H' S v H2 p q s _ hi hy => ?_⟩
  · obtain ⟨h1, h2⟩ := key ρ' H' p q
    have hl : i < vs.length := by rw [h2.length]; simpa [enumL] using hi
    exact ⟨vs, vs[i], h1, List.getElem?_eq_getElem hl⟩
  · obtain ⟨h1, h2⟩ := key ρ' H' p q
    exact ⟨vs, h1, by rw [h2.length]; simpa [enumL] using hi⟩
  · obtain ⟨h1, h2⟩ := key ρ' H' p q
    obtain ⟨T, x, rfl, hT, rfl, hv⟩ := hy
    exact enum_step s h2 hT (hv vs h1)
theorem JRep.enL {a : Addr} {n : Nat} {xs : List Val} (hn : ρ[n]? = some a) : JRep K Y ρ H (Ite K a) (enumL xs, fun S => S[n]? = some (.lst xs)) := by
  have key : ∀ ρ' H' S, Pre ρ ρ' → Sim K Y ρ' H' S → S[n]? = some (.lst xs) → ∃ vs, SqL K H' a vs ∧ Reps K ρ' H' vs xs := fun ρ' H' S p s c => by
    obtain ⟨vs, e, r⟩ := s.lst (p _ _ hn) c
    exact ⟨vs, SqL.of e, r⟩
  refine ⟨fun i ρ' H' S p q s c hi => ?_, fun i ρ' H' S p q s c hi => ?_, fun i ρ' H' S v H2 p q s c hi hy => ?_⟩
  · obtain ⟨vs, h1, h2⟩ := key ρ' H' S p s c
    have hl : i < vs.length := by rw [h2.length]; simpa [enumL] using hi
    exact ⟨vs, vs[i], h1, List.getElem?_eq_getElem hl⟩
  · obtain ⟨vs, h1, h2⟩ := key ρ' H' S p s c
    exact ⟨vs, h1, by rw [h2.length]; simpa [enumL] using hi⟩
  · obtain ⟨vs, h1, h2⟩ := key ρ' H' S p s c
    obtain ⟨T, x, rfl, hT, rfl, hv⟩ := hy
    exact enum_step s h2 hT (hv vs h1)
end
theorem enumOf_rep {K : PySem.W.Frag} {Y : Sy} {ρ : List Addr} {H : Hp} {S : Store} {v : V} {x : Val} {p : Itm} (hs : Sim K Y ρ H S) (r : Rep K ρ H v x) (h : walkOf S x = some p) :
    ∃ a, v = .ref a ∧ (((∃ vs, SqL K H a vs) ∧ JRep K Y ρ H (Ite K a) (enumOf p)) ∨ ((∃ vs, SqT K H a vs) ∧ JRep K Y ρ H (ItE K a) (enumOf p))) := by
  cases r <;> try (simp [walkOf] at h; done)
  case tup a vs xs e r => cases h; exact ⟨a, rfl, .inr ⟨⟨vs, SqT.of e⟩, JRep.enT e r⟩⟩
  case frz a vs xs e r => cases h; exact ⟨a, rfl, .inl ⟨⟨vs, e.sq⟩, JRep.enF e r⟩⟩
  case ref a i hi =>
    simp only [walkOf] at h
    split at h
    · rename_i xs e
      cases h
      obtain ⟨vs, e2, r2⟩ := hs.lst hi e
      exact ⟨a, rfl, .inl ⟨⟨vs, SqL.of e2⟩, JRep.enL hi⟩⟩
    · cases h
theorem si_enum {X : Cx} {Y : Sy} {W : WX} {e : Expr} {fa : En → Store → Out (List Val)} {p pos tpos : Pos} {elts : List Expr} {kk : Nat} (hg : Gl X "enumerate") (hm : X.mg "enumerate" = none) (ha : SA X Y W [e] fa) (hs : starEach [e] X.env = [(false, eval e X.env)] := by rfl) :
    SI X Y W (.Tuple elts kk tpos) (.Call (.Name "enumerate" p) [e] [] pos) (iEnS fa) := by
  refine PI.imp (pi_en hg hm ha hs) fun σ H R h => ?_
  refine tG.bind (k := fun _ xs S1 => match xs with | [x] => (match walkOf S1 x with | some p => Out.ok (enumOf p) S1 | none => Out.bad) | _ => Out.bad) h fun ρ env vs xs H1 S1 he hs rx hp => ?_
  split at hp
  · rename_i x
    obtain ⟨v, rfl, r⟩ := reps1 rx
    split at hp
    · rename_i p ep
      obtain ⟨a, rfl, hh⟩ := enumOf_rep hs r ep
      refine ⟨a, rfl, ?_⟩
      rcases hh with ⟨h1, h2⟩ | ⟨h1, h2⟩
      · exact .inl ⟨h1, hp _ ρ H1 (Pre.refl _) (Ext.refl _) hs h2⟩
      · exact .inr ⟨h1, hp _ ρ H1 (Pre.refl _) (Ext.refl _) hs h2⟩
    · exact hp.elim
  · exact hp.elim
end Mp

set_option Elab.async false
set_option linter.all false
set_option maxRecDepth 100000
set_option maxHeartbeats 1000000
/-! Dict comprehensions (any keys), list(d.keys()), len(set(ints)). -/
namespace Mp
open PySem PySem.Spec PyProof.Rows L2

/-- a pair comes into the new dict -/
theorem dput_set {X : Cx} {pins : List (Addr × Obj)} {σ : L2.St} {J J2 : Hp} {s0 : Shared} {E : Value → Shared → Prop} {D : Addr} {y z : V} {u r : Value} {Q : Unit → Shared → Prop} (hu : X.A.units + 1 < cLine) (iv : Inv X pins σ J s0) (g : DPut J D y z J2)
    (ry : RelV y u) (rz : RelV z r) (h : ∀ s', Inv X pins σ J2 s' → Q () s') : wpAny (model X.prog X.w) X.A (dictSet D u r) Q E s0 := by
  rcases g with ⟨kvs, k, e, rfl, l, rfl⟩ | ⟨kvs, k, b, e, rfl, eb, l, rfl⟩
  · exact d_dictSet iv e l ry rz h
  · obtain rfl : u = Value.ref b := ry
    obtain ⟨z0, lo, xs, kt, dd⟩ := dt_of iv.hok e
    have len : xs.length ≤ sizeLine := by rw [← Paired.length kt]; exact z0
    have len2 : (putK kvs k z).length ≤ sizeLine := by have := length_putK kvs k z; omega
    refine wpAny_dictSet_heap (hsz := len) (show X.A.units < cLine by omega) (key_of iv.hok eb) dd fun h2 dd2 sb => h _ ?_
    obtain ⟨q, es, ep, at_, x1, x2, x3, _, x5⟩ := dd2
    refine d_write iv (by rw [e]; exact True.intro) sb ⟨q, at_⟩ ⟨len2, lo, _, (kt.put k eb rz).keeps fun c ys ec => ?_, q, es, ep, at_, x1, x2, x3, x5⟩
    rw [upd_ne (ne_of ec e fun z => nomatch z)]
    exact ec
/-- a new dict -/
inductive NewD : HO → Prop
  | k : NewD (.dK [])
  | t : NewD (.dT [])
def tDm (emp : HO) (wi : TI) (g : TG) (tt : TT) (tk tv : TE) (vs : List Nat) : TE := fun σ H Q => wi σ H fun J H1 => ∀ D, H1 D = none → ∃ U : Nat → Nat → Hp → Prop, (∃ m, U 0 m (upd H1 D emp)) ∧ ∀ i m H, U i m H →
  (J.stop i H ∧ Q (.ref D) H) ∨ (J.go i H ∧ ∃ Z : Hp → Prop, (∀ H', Z H' → ∃ m', m' < m ∧ U (i + 1) m' H') ∧ ∀ x H', J.yld i H x H' → g x (wipe σ vs) H' fun σ2 H2 => wipe σ2 vs = wipe σ vs ∧ tt σ2 H2 fun b H3 =>
    if b = true then tk σ2 H3 fun y H4 => tv σ2 H4 fun z H5 => ∃ H6, DPut H5 D y z H6 ∧ Z H6 else Z H3)
theorem pe_dm {X : Cx} {emp : HO} {kx vx tg iter : Expr} {ifs : List Expr} {scope : Scope} {own : List (Str × Nat)} {pos : Pos} {wi : TI} {g : TG} {tt : TT} {tk tv : TE} (hemp : NewD emp) (hu : X.A.units + 1 < cLine) (hc : X.calm = true) (nd : X.N.Nodup) (wk : PI X tg iter wi) (ok : BlkOk X.N X.env.scope scope own)
    (pg : ∀ (s : Shared) (H : Hp) (C : Addr) (cl : List (Str × Addr)) (fp : List Addr), PG (X.blk s H scope (compEnvC scope cl C X.env) fp) tg g) (pt : ∀ (s : Shared) (H : Hp) (C : Addr) (cl : List (Str × Addr)) (fp : List Addr), PTs (X.blk s H scope (compEnvC scope cl C X.env) fp) ifs tt)
    (pk : ∀ (s : Shared) (H : Hp) (C : Addr) (cl : List (Str × Addr)) (fp : List Addr), PE (X.blk s H scope (compEnvC scope cl C X.env) fp) kx tk)
    (pv : ∀ (s : Shared) (H : Hp) (C : Addr) (cl : List (Str × Addr)) (fp : List Addr), PE (X.blk s H scope (compEnvC scope cl C X.env) fp) vx tv) (hs : ∀ x, foldedSetIterable iter X.env x = pure x := by intro _; rfl) :
    PE X (.DictComp kx vx [⟨tg, iter, ifs, 0⟩] scope pos) (tDm emp wi g tt tk tv (own.map (·.2))) := by
  refine ⟨fun pins s σ H Q iv h => ?_⟩
  rw [arm_eval_DictComp]
  have fr : ∀ y ∈ scope.names, y.2 = .free → ∃ c, X.env.cells.lookup y.1 = some c := fun y hy e => (ok.free y hy e).elim (fun k => iv.ok.has _ (.inl k)) fun k => iv.ok.has _ (.inr k)
  refine wpAny_comprehension_free rfl hs (closure_ok fr) ok.kind (fun y hy e => by rw [ok.uniq y hy, e]) (thn (wk.run pins s σ H _ iv h) fun xv t1 hx => thn hx fun itv t2 h2 => ?_)
  obtain ⟨it, fp, tn, J, J2, rfl, iv2, tr, at0, f2, q⟩ := h2
  refine wpAny_newObj_type (newEnv_comp ?_)
  generalize hD : t2.heap.objs.size = D
  have freeD : J2 D = none := iv2.hok.fresh (Nat.le_of_eq hD)
  obtain ⟨U, ⟨m0, u0⟩, turn⟩ := q D freeD
  have okD : ∀ J', ObjOk X.prog X.w J' (t2.heap.push { cls := .type "dict", data := .dict #[] }) D emp := fun J' => by
    rw [← hD]
    cases hemp
    · exact dk_empty t2.heap iv2.big
    · exact dt_empty t2.heap iv2.big
  generalize ht3 : ({ t2 with heap := t2.heap.push { cls := .type "dict", data := .dict #[] } } : Shared) = t3
  have hp3 : t3.heap = t2.heap.push { cls := .type "dict", data := .dict #[] } := by rw [← ht3]
  have iv3 : Inv X pins σ (upd J2 D emp) t3 := by
    rw [← ht3]
    exact iv2.laid (t' := t2.toks) (fun b o e => Heap.get?_push_of_some _ e) (Nat.le_of_eq hD) (okD _)
  have below : ∀ b ∈ fp, b < t2.heap.objs.size := fun b hb => let ⟨o, e, _⟩ := tr.obj _ _ at0 b hb; Heap.lt_size e
  have f3 : ∀ b ∈ fp, FpOk X pins (upd J2 D emp) b ∧ b < t3.heap.objs.size := fun b hb => by
    have lt := below b hb
    refine ⟨⟨?_, (f2 b hb).2⟩, by rw [hp3, Heap.size_push]; exact Nat.lt_succ_of_lt lt⟩
    rw [upd_ne (by rw [← hD]; exact Nat.ne_of_lt lt)]
    exact (f2 b hb).1
  have at3 : tn 0 t3.heap := tr.keep _ _ _ at0 fun b _ o e => by rw [hp3]; exact Heap.get?_push_of_some _ e
  have iv4 := block_start iv3 ok nd f3
  let cl := cellsFrom (t3.heap.objs.size + 1) scope.names (cloFrom X.env.cells scope.names [])
  have bg := pg t3 (upd J2 D emp) t3.heap.objs.size cl fp
  have bt := pt t3 (upd J2 D emp) t3.heap.objs.size cl fp
  have bk := pk t3 (upd J2 D emp) t3.heap.objs.size cl fp
  have bv := pv t3 (upd J2 D emp) t3.heap.objs.size cl fp
  let RR : Addr → Result → Shared → Prop := fun C => compPost (model X.prog X.w) X.A X.xe none (EP X pins σ Q) (.ref D) C
  show codeAny _ _ (.compStart (.DictComp kx vx [⟨tg, iter, ifs, 0⟩] scope pos) 0 (.ref it) (.ref D) (compEnvC scope cl t3.heap.objs.size X.env)) (RR t3.heap.objs.size) { t3 with heap := pushCells (t3.heap.push { cls := .type "dict", data := .dict #[] }) scope.names }
  have nofp : ∀ b ∈ fp, (upd J2 D emp) b = none := fun b hb => (f3 b hb).1.1
  change Inv (X.blk t3 (upd J2 D emp) scope (compEnvC scope cl t3.heap.objs.size X.env) fp) [] _ _ _ at iv4
  generalize hce : compEnvC scope cl t3.heap.objs.size X.env = ce at iv4 bg bt bk bv ⊢
  have cL : ce.locals = t3.heap.objs.size := by subst hce; rfl
  generalize hJ3 : upd J2 D emp = J3 at iv3 iv4 bg bt bk bv u0 nofp f3
  generalize ht4 : ({ t3 with heap := pushCells (t3.heap.push { cls := .type "dict", data := .dict #[] }) scope.names } : Shared) = t4 at iv4 ⊢
  have at4 : tn 0 t4.heap := tr.keep _ _ _ at3 fun b _ o e => by rw [← ht4]; exact pushCells_keeps _ _ _ _ (Heap.get?_push_of_some _ e)
  have fps : ∀ {σ' : L2.St} {J' : Hp} {t' : Shared}, Inv (X.blk t3 J3 scope ce fp) [] σ' J' t' → (∀ b ∈ fp, J' b = none) → ∀ b ∈ fp, FpOk (X.blk t3 J3 scope ce fp) [] J' b := fun {σ' J' t'} iv' hn b hb =>
    ⟨hn b hb, (iv'.ok.exf b hb).1, iv'.ok.exfs b hb, .inl hb, fun x c e => (iv'.ok.exf b hb).2 x c e, fun p hp => absurd (show p ∈ ([] : List (Addr × Obj)) ++ [] from hp) (by simp)⟩
  let wv := wipe σ (own.map (·.2))
  let INV : Nat → Shared → Prop := fun n t' => ∃ i J', Inv (X.blk t3 J3 scope ce fp) [] wv J' t' ∧ tn i t'.heap ∧ (∀ b ∈ fp, J' b = none) ∧ U i n J'
  have loop : codeAny (model X.prog X.w) X.A (.compLoop (.DictComp kx vx [⟨tg, iter, ifs, 0⟩] scope pos) 0 (.ref it) (.ref D) ce) (RR t3.heap.objs.size) t4 := by
    refine compLoop_anyD INV ?_ m0 ⟨0, J3, iv4, at4, nofp, u0⟩
    rintro n t5 ⟨i, J5, iv5, at5, n5, u5⟩
    rcases turn i n J5 u5 with ⟨stop, qq⟩ | ⟨go, Z, hZ, step⟩
    · refine thnF (tr.done (X.blk t3 J3 scope ce fp) rfl rfl rfl hc i [] t5 _ J5 (fun _ _ => False) iv5 (fps iv5 n5) at5 stop) fun r t6 ⟨hr, iv6⟩ => ?_
      subst hr
      have iv7 : Inv X pins σ J5 t6 := iv3.call' (ch := fp) iv6.os iv6.base iv6.hok iv6.bare fun b hb => ⟨(f3 b hb).1.2.2.2.1, (f3 b hb).1.2.1, (f3 b hb).1.2.2.2.2.1, (f3 b hb).1.2.2.2.2.2⟩
      have nC : J5 t3.heap.objs.size = none := by rw [← cL]; exact iv6.free
      obtain ⟨m, hn, _⟩ := iv6.loc
      have hn2 : t6.heap.Ns ce.locals m := hn
      rw [cL] at hn2
      obtain ⟨z0, z1, z2, z3, z4, z5⟩ := iv3.fpOk (Nat.le_refl _) nC
      exact ⟨m, hn2, fun h'' sb => ⟨.ref D, J5, iv7.turned (t' := t6.toks) (fun b o hb e => (sb.2 b hb).trans e) z0 z1 z3 z4 z5, rfl, qq⟩⟩
    · refine thnF (tr.item (X.blk t3 J3 scope ce fp) rfl rfl rfl hc i [] t5 _ J5 (fun _ _ => False) iv5 (fps iv5 n5) at5 go) fun r t6 ⟨u, hr, h6⟩ => ?_
      subst hr
      refine thnF h6 fun _ t7 ⟨x, J7, iv7, r7, y7, at7, n7⟩ => ?_
      refine thnF (bg.run _ t7 _ J7 x u _ (iv7.pinned (fps iv7 n7) (tr.obj _ _ at7)) r7 (step x J7 y7)) fun _ t8 ⟨σ8, J8, iv8, hw8, q8⟩ => ?_
      refine thnF (bt.run _ t8 σ8 J8 _ iv8 q8) fun b t9 ⟨J9, iv9, q9⟩ => ?_
      have fin : ∀ {t' : Shared} {J' : Hp}, Inv (X.blk t3 J3 scope ce fp) ([] ++ pinsAt fp t7.heap) σ8 J' t' → Z J' → ∃ m, m < n ∧ INV m t' := fun {t' J'} iv' nx => by
        obtain ⟨m', hm, u'⟩ := hZ J' nx
        have pin' : ∀ b ∈ fp, ∀ o, t7.heap.get? b = some o → t'.heap.get? b = some o ∧ J' b = none := fun b hb o e =>
          let z := iv'.pin (b, o) (List.mem_append_right _ (List.mem_append_right _ (mem_pinsAt hb e)))
          ⟨z.1, z.2.1⟩
        refine ⟨m', hm, i + 1, J', (iv'.unpinned (pins := [])).weak (by show (wipe σ (own.map (·.2))).length = _; rw [← hw8, wipe_length]) (fun j v e => (wipe_some (vs := own.map (·.2)) (by rw [hw8]; exact e)).1), tr.keep _ _ _ at7 fun b hb o e => (pin' b hb o e).1, fun b hb => ?_, u'⟩
        obtain ⟨o, e, _⟩ := tr.obj _ _ at7 b hb
        exact (pin' b hb o e).2
      cases b with
      | false =>
        simp only [Bool.false_eq_true, if_false] at q9 ⊢
        exact fin iv9 q9
      | true =>
        simp only [if_true] at q9 ⊢
        refine thnF (bk.run _ t9 σ8 J9 _ iv9 q9) fun z t10 ⟨yk, J10, iv10, r10, q10⟩ => ?_
        refine thnF (bv.run _ t10 σ8 J10 _ iv10 q10) fun z2 t11 ⟨yv, J11, iv11, r11, J12, hp12, nx⟩ => ?_
        exact dput_set (X := X.blk t3 J3 scope ce fp) hu iv11 hp12 r10 r11 fun t12 iv12 => fin iv12 nx
  exact codeAny_compStart_dict loop (tr.self X.A 0 _ _ _ at4 loop)
def isD (S : Store) (n : Nat) : Bool := match S[n]? with
  | some (.dk _) => true
  | some (.dt _) => true
  | _ => false
open Classical in
noncomputable def dcX (ck : Store → Prop) (t : Tgt) (tst : En → Store → Out Bool) (ek ev : En → Store → Out Val) (n : Nat) (env : En) : List Val → Store → Out Val
  | [], S => if ck S then .ok (.ref n) S else .bad
  | x :: r, S => if ck S then (match t x env with
    | none => .bad
    | some e => (tst e S).tie fun b S1 => if b = true then (ek e S1).tie fun k S2 => (ev e S2).tie fun y S3 => if isD S3 n = true then (match putIx (.ref n) k y S3 with
        | some S4 => dcX ck t tst ek ev n env r S4
        | none => .bad) else .bad
      else dcX ck t tst ek ev n env r S1) else .bad
def emO : Bool → Ob
  | true => .dt []
  | false => .dk []
def emH : Bool → HO
  | true => .dT []
  | false => .dK []
noncomputable def eDc (tp : Bool) (fi : En → Store → Out Itm) (t : Tgt) (tst : En → Store → Out Bool) (ek ev : En → Store → Out Val) (vs : List Nat) : En → Store → Out Val := fun env S =>
  (fi env S).bind fun p S1 => dcX p.2 t tst ek ev S1.length (wipeE env vs) p.1 (S1 ++ [emO tp])
theorem emRep {K : PySem.W.Frag} {Y : Sy} {ρ : List Addr} {H : Hp} {a : Addr} (tp : Bool) : ObRep K Y ρ (upd H a (emH tp)) a (emO tp) := by
  cases tp
  · exact ⟨[], upd_same, .nil⟩
  · exact ⟨[], upd_same, .nil⟩
theorem putIx_dict {K : PySem.W.Frag} {Y : Sy} {ρ : List Addr} {H : Hp} {S S' : Store} {a : Addr} {i v : V} {n : Nat} {j y : Val} {Q : Hp → Prop} (hs : Sim K Y ρ H S) (hn : ρ[n]? = some a) (hd : isD S n = true) (ri : Rep K ρ H i j) (rv : Rep K ρ H v y) (h : putIx (.ref n) j y S = some S')
    (q : ∀ H', Ext H H' → Sim K Y ρ H' S' → Q H') : ∃ H', DPut H a i v H' ∧ Q H' := by
  rcases putIx_ok hs (.ref hn) ri rv h q with hl | ⟨b, H', e, g, q'⟩
  · exfalso
    obtain ⟨b, ws, m, z, e, _, ew, _⟩ := hl
    cases e
    unfold isD at hd
    split at hd
    · rename_i kvs ex
      obtain ⟨w2, e2, _⟩ := hs.dk hn ex
      rw [e2] at ew; cases ew
    · rename_i kvs ex
      obtain ⟨w2, e2, _⟩ := hs.dt hn ex
      rw [e2] at ew; cases ew
    · cases hd
  · cases e
    exact ⟨H', g, q'⟩
section
variable {X : Cx} {Y : Sy} {W : WX} {k : Nat}
theorem tDm_of {tp : Bool} {fi : En → Store → Out Itm} {t : Tgt} {tst : En → Store → Out Bool} {ek ev : En → Store → Out Val} {vs L : List Nat} {σ : L2.St} {H : Hp} {Q : VK} (hx : Y.xi = none) (hL : ∀ i ∈ L, i ∈ vs)
    (h : tG X.K Y W (RV X.K) (eDc tp fi t tst ek ev vs) σ H Q) : tDm (emH tp) (tG X.K Y W (RJ X.K Y) fi) (tTg X.K Y L t) (tG X.K Y W0 RB tst) (tG X.K Y W0 (RV X.K) ek) (tG X.K Y W0 (RV X.K) ev) vs σ H Q := by
  refine tG.bind (k := fun env (p : Itm) S1 => dcX p.2 t tst ek ev S1.length (wipeE env vs) p.1 (S1 ++ [emO tp])) h fun ρ0 env J p H1 S0 he0 hs0 rj hp0 => ?_
  intro D hD
  have hs1 : Sim X.K Y (ρ0 ++ [D]) (upd H1 D (emH tp)) (S0 ++ [emO tp]) := hs0.new hD (emRep tp)
  have hDn : (ρ0 ++ [D])[S0.length]? = some D := by rw [← hs0.len]; simp
  refine ⟨fun i m H' => ∃ ρ S, m = p.1.length - i ∧ i ≤ p.1.length ∧ Pre (ρ0 ++ [D]) ρ ∧ Ext (upd H1 D (emH tp)) H' ∧ Sim X.K Y ρ H' S ∧ Post X.K Y (fun cls d H' => W cls d σ H') ρ H' (RV X.K) Q (dcX p.2 t tst ek ev S0.length (wipeE env vs) (p.1.drop i) S),
    ⟨_, ρ0 ++ [D], _, rfl, Nat.zero_le _, Pre.refl _, Ext.refl _, hs1, Post.up (Pre.snoc _ _) (Ext.new hD) hp0⟩, fun i m H2 hw => ?_⟩
  obtain ⟨ρ, S, rfl, hi, pr, ex, hs, hp⟩ := hw
  have pr0 : Pre ρ0 ρ := (Pre.snoc _ _).trans pr
  have ex0 : Ext H1 H2 := (Ext.new hD).trans ex
  by_cases hlt : i < p.1.length
  · have ed : p.1.drop i = p.1[i] :: p.1.drop (i + 1) := List.drop_eq_getElem_cons hlt
    rw [ed] at hp
    simp only [dcX] at hp
    split at hp
    · rename_i hck
      refine .inr ⟨rj.go i ρ H2 S pr0 ex0 hs hck hlt, fun H' => ∃ ρ S, Pre (ρ0 ++ [D]) ρ ∧ Ext (upd H1 D (emH tp)) H' ∧ Sim X.K Y ρ H' S ∧ Post X.K Y (fun cls d H' => W cls d σ H') ρ H' (RV X.K) Q (dcX p.2 t tst ek ev S0.length (wipeE env vs) (p.1.drop (i + 1)) S), fun H' hn => ?_, fun v H' hy => ?_⟩
      · obtain ⟨ρ', S', a1, a2, a3, a4⟩ := hn
        exact ⟨p.1.length - (i + 1), by omega, ρ', S', rfl, by omega, a1, a2, a3, a4⟩
      · obtain ⟨x, ex1, ex2, hs2, rx⟩ := rj.yl i ρ H2 S v H' pr0 ex0 hs hck hlt hy
        have exx : p.1[i] = x := by
          rw [List.getElem?_eq_getElem hlt] at ex1
          exact Option.some.inj ex1
        rw [exx] at hp
        split at hp
        · exact hp.elim
        · rename_i e1 te
          have he' : ERep X.K Y ρ H' (L2.wipe σ vs) (wipeE env vs) := ((he0.up pr0 (ex0.trans ex2)).wipe hx vs)
          refine ⟨ρ, wipeE env vs, x, e1, he', rx, te, fun σ2 he2 sb => ⟨wipe_same sb hL, ?_⟩⟩
          refine ⟨ρ, e1, S, he2, hs2, ?_⟩
          have exD : Ext (upd H1 D (emH tp)) H' := ex.trans ex2
          generalize hgt : tst e1 S = ot at hp
          cases ot with
          | bad => exact hp.elim
          | err c fs S1 => exact hp.elim
          | ok b S1 =>
            intro b' ρ3 H3 p3 q3 s3 rb
            obtain rfl : b' = b := rb
            simp only [Out.tie] at hp
            cases b' with
            | false => exact iteF ⟨ρ3, S1, pr.trans p3, exD.trans q3, s3, Post.up p3 (ex2.trans q3) hp⟩
            | true =>
              refine iteT ?_
              rw [if_pos rfl] at hp
              refine ⟨ρ3, e1, S1, he2.up p3 q3, s3, ?_⟩
              generalize hgk : ek e1 S1 = okk at hp
              cases okk with
              | bad => exact hp.elim
              | err c fs S2 => exact hp.elim
              | ok kk S2 =>
                intro vk ρ4 H4 p4 q4 s4 r4
                refine ⟨ρ4, e1, S2, (he2.up p3 q3).up p4 q4, s4, ?_⟩
                dsimp only at hp
                generalize hge : ev e1 S2 = oe at hp
                cases oe with
                | bad => exact hp.elim
                | err c fs S3 => exact hp.elim
                | ok y S3 =>
                  intro v5 ρ5 H5 p5 q5 s5 r5
                  dsimp only at hp
                  split at hp
                  · rename_i hd
                    split at hp
                    · rename_i S4 e4
                      have hDi : ρ5[S0.length]? = some D := p5 _ _ (p4 _ _ (p3 _ _ (pr _ _ hDn)))
                      refine putIx_dict (Q := fun H' => ∃ ρ S, Pre (ρ0 ++ [D]) ρ ∧ Ext (upd H1 D (emH tp)) H' ∧ Sim X.K Y ρ H' S ∧ Post X.K Y (fun cls d H' => W cls d σ H') ρ H' (RV X.K) Q (dcX p.2 t tst ek ev S0.length (wipeE env vs) (p.1.drop (i + 1)) S)) s5 hDi hd (r4.up p5 q5) r5 e4 fun H6 e6 s6 => ?_
                      exact ⟨ρ5, S4, pr.trans (p3.trans (p4.trans p5)), exD.trans ((q3.trans (q4.trans q5)).trans e6), s6, Post.up (p3.trans (p4.trans p5)) ((ex2.trans (q3.trans (q4.trans q5))).trans e6) hp⟩
                    · exact hp.elim
                  · exact hp.elim
    · exact hp.elim
  · have ed : p.1.drop i = [] := List.drop_eq_nil_of_le (by omega)
    rw [ed] at hp
    simp only [dcX] at hp
    split at hp
    · rename_i hck
      exact .inl ⟨rj.st i ρ H2 S pr0 ex0 hs hck (by omega), hp _ ρ H2 (Pre.refl _) (Ext.refl _) hs (.ref (pr _ _ hDn))⟩
    · exact hp.elim
theorem emH_new (tp : Bool) : NewD (emH tp) := by
  cases tp
  · exact .k
  · exact .t
theorem se_dc (tp : Bool) {kx vx tg iter : Expr} {ifs : List Expr} {scope : Scope} {own : List (Str × Nat)} {pos : Pos} {fi : En → Store → Out Itm} {t : Tgt} {tst : En → Store → Out Bool} {ek ev : En → Store → Out Val} {L : List Nat} (c : Cc X Y W k) (hi : SI X Y W tg iter fi) (ok : BlkOk X.N X.env.scope scope own) (hL : ∀ i ∈ L, i ∈ own.map (·.2))
    (hg : ∀ (s : Shared) (H : Hp) (C : Addr) (cl : List (Str × Addr)) (fp : List Addr), Cc (X.blk s H scope (compEnvC scope cl C X.env) fp) Y W0 k → SG (X.blk s H scope (compEnvC scope cl C X.env) fp) Y tg L t)
    (ht : ∀ (s : Shared) (H : Hp) (C : Addr) (cl : List (Str × Addr)) (fp : List Addr), Cc (X.blk s H scope (compEnvC scope cl C X.env) fp) Y W0 k → SPt (X.blk s H scope (compEnvC scope cl C X.env) fp) Y ifs tst)
    (hk : ∀ (s : Shared) (H : Hp) (C : Addr) (cl : List (Str × Addr)) (fp : List Addr), Cc (X.blk s H scope (compEnvC scope cl C X.env) fp) Y W0 k → SE (X.blk s H scope (compEnvC scope cl C X.env) fp) Y W0 kx ek)
    (hv : ∀ (s : Shared) (H : Hp) (C : Addr) (cl : List (Str × Addr)) (fp : List Addr), Cc (X.blk s H scope (compEnvC scope cl C X.env) fp) Y W0 k → SE (X.blk s H scope (compEnvC scope cl C X.env) fp) Y W0 vx ev)
    (hs : ∀ x, foldedSetIterable iter X.env x = pure x := by intro _; rfl) : SE X Y W (.DictComp kx vx [⟨tg, iter, ifs, 0⟩] scope pos) (eDc tp fi t tst ek ev (own.map (·.2))) :=
  PE.imp (pe_dm (g := tTg X.K Y L t) (tt := tG X.K Y W0 RB tst) (tk := tG X.K Y W0 (RV X.K) ek) (tv := tG X.K Y W0 (RV X.K) ev) (emH_new tp) c.u1 c.calm c.nd hi ok (fun s H C cl fp => hg s H C cl fp (c.blk ..)) (fun s H C cl fp => ht s H C cl fp (c.blk ..)) (fun s H C cl fp => hk s H C cl fp (c.blk ..)) (fun s H C cl fp => hv s H C cl fp (c.blk ..)) hs) fun _ _ _ h => tDm_of c.xi hL h
end
end Mp

set_option Elab.async false
set_option linter.all false
set_option maxRecDepth 100000
set_option maxHeartbeats 1000000
/-! list(range(..)), tuple(range(..)), list(d.keys()), len(set(ints)). -/
namespace Mp
open PySem PySem.Spec PyProof.Rows L2

/-! ### list(range(..)), tuple(range(..)) -/
def kR1 (tp : Bool) (xs : List Val) (S : Store) : Out Val := match xs with
  | [.int j] => if -LIM ≤ j ∧ j ≤ LIM then (if tp then .ok (.tup (upL 0 j.toNat)) S else .ok (.ref S.length) (S ++ [.lst (upL 0 j.toNat)])) else .bad
  | _ => .bad
def kR2 (tp : Bool) (xs : List Val) (S : Store) : Out Val := match xs with
  | [.int i, .int j] => if (-LIM ≤ i ∧ i ≤ LIM) ∧ -LIM ≤ j ∧ j ≤ LIM then (if tp then .ok (.tup (upL i (j - i).toNat)) S else .ok (.ref S.length) (S ++ [.lst (upL i (j - i).toNat)])) else .bad
  | _ => .bad
theorem reps_rg {K : PySem.W.Frag} {ρ : List Addr} {H : Hp} (a b : Int) : Reps K ρ H (rgV a b) (upL a (b - a).toNat) := by
  unfold rgV upL
  generalize (b - a).toNat = n
  induction (List.range n) with
  | nil => exact .nil
  | cons x r ih => exact .cons (.int _) ih
theorem rgOk {a b : Int} (h : (-LIM ≤ a ∧ a ≤ LIM) ∧ -LIM ≤ b ∧ b ≤ LIM) : RgOk a b := by
  have : (LIM : Int) = 100000 := rfl
  exact ⟨by omega, by omega, by omega, by omega, by omega⟩
theorem rg_end {K : PySem.W.Frag} {Y : Sy} {W' : Value → Option Addr → Hp → Prop} {ρ : List Addr} {H : Hp} {S : Store} {Q : VK} {tp : Bool} {a b : Int} (hs : Sim K Y ρ H S)
    (hp : Post K Y W' ρ H (RV K) Q (if tp then .ok (.tup (upL a (b - a).toNat)) S else .ok (.ref S.length) (S ++ [.lst (upL a (b - a).toNat)]))) : ∀ q, H q = none → Q (.ref q) (upd H q (if tp then .tup (rgV a b) else .lst (rgV a b))) := by
  intro q hq
  cases tp with
  | true => exact hp _ ρ _ (Pre.refl _) (Ext.new hq) (hs.other hq) (.tup upd_same (reps_rg a b))
  | false => exact hp _ (ρ ++ [q]) _ (Pre.snoc _ _) (Ext.new hq) (hs.new hq ⟨_, upd_same, reps_rg a b⟩) (rep_new hs.len.symm)
section
variable {X : Cx} {Y : Sy} {W : WX} {k : Nat} {a b e : Expr} {fa : En → Store → Out (List Val)} {f g : En → Store → Out Val} {p p2 q pos : Pos}
def eR1 (tp : Bool) (f : En → Store → Out Val) : En → Store → Out Val := fun env S => (f env S).bind fun x S1 => kR1 tp [x] S1
def eR2 (tp : Bool) (f g : En → Store → Out Val) : En → Store → Out Val := fun env S => (f env S).bind fun x S1 => (g env S1).bind fun y S2 => kR2 tp [x, y] S2
theorem se_r1L (c : Cc X Y W k) (hg : Gl X "list") (hm : X.mg "list" = none) (hg2 : Gl X "range") (hm2 : X.mg "range" = none) (ha : SE X Y W a f) (na : starEach [a] X.env = (false, eval a X.env) :: starEach [] X.env := by rfl)
    (nr : starEach [.Call (.Name "range" p2) [a] [] q] X.env = (false, eval (.Call (.Name "range" p2) [a] [] q) X.env) :: starEach [] X.env := by rfl) :
    SE X Y W (.Call (.Name "list" p) [.Call (.Name "range" p2) [a] [] q] [] pos) (eR1 false f) := by
  refine PE.imp (pe_listRg c.calm hg hm (prg_1 hg2 hm2 ha na) nr) fun σ H Q h => ?_
  refine tG.bind (k := fun _ x S1 => kR1 false [x] S1) h fun ρ env v x H1 S1 he hs rx hp => ?_
  unfold kR1 at hp
  split at hp
  · rename_i j ej
    cases ej
    cases rx
    split at hp
    · rename_i hj
      have h0 : (-LIM : Int) ≤ 0 ∧ (0 : Int) ≤ LIM := ⟨by decide, by decide⟩
      have hq := rg_end (tp := false) (a := 0) (b := j) hs (by simpa using hp)
      exact ⟨j, rfl, rgOk ⟨h0, hj⟩, hq⟩
    · exact hp.elim
  · exact hp.elim
theorem se_r1T (c : Cc X Y W k) (hg : Gl X "tuple") (hm : X.mg "tuple" = none) (hg2 : Gl X "range") (hm2 : X.mg "range" = none) (ha : SE X Y W a f) (na : starEach [a] X.env = (false, eval a X.env) :: starEach [] X.env := by rfl)
    (nr : starEach [.Call (.Name "range" p2) [a] [] q] X.env = (false, eval (.Call (.Name "range" p2) [a] [] q) X.env) :: starEach [] X.env := by rfl) :
    SE X Y W (.Call (.Name "tuple" p) [.Call (.Name "range" p2) [a] [] q] [] pos) (eR1 true f) := by
  refine PE.imp (pe_tupRg c.calm hg hm (prg_1 hg2 hm2 ha na) nr) fun σ H Q h => ?_
  refine tG.bind (k := fun _ x S1 => kR1 true [x] S1) h fun ρ env v x H1 S1 he hs rx hp => ?_
  unfold kR1 at hp
  split at hp
  · rename_i j ej
    cases ej
    cases rx
    split at hp
    · rename_i hj
      have h0 : (-LIM : Int) ≤ 0 ∧ (0 : Int) ≤ LIM := ⟨by decide, by decide⟩
      have hq := rg_end (tp := true) (a := 0) (b := j) hs (by simpa using hp)
      exact ⟨j, rfl, rgOk ⟨h0, hj⟩, hq⟩
    · exact hp.elim
  · exact hp.elim
end

/-! ### list(d.keys()) -/
section
variable {prog : Program} {w : World} {A : Around} {E : Value → Shared → Prop} {s : Shared} {d v : Addr} {o : Obj} {es : Array DictEntry} {ep : Nat}
theorem keysCall (lo : (d == sysModules) = false) : MeetsIn prog w (Builtin.«dict.keys» ⟨[.ref d], []⟩) (fun _ R s => s.TypeIs (.ref d) "dict" ∧
    R (.ok (.ret (.ref s.heap.objs.size))) { s with heap := s.heap.push { cls := .type "dict_keys", data := .fields #[.ref d] } }) := by
  refine .of_wp fun A R s ⟨ty, h⟩ => ?_
  refine wpAny_bind ?_
  unfold Builtin.Dict.noArgs
  refine wpAny_bind (wpAny_notOrdered_dict ty ?_)
  show wpAny _ _ (pure d) _ _ s
  refine wpAny_pure (show wpAny _ _ (Builtin.Dict.showsAll d >>= _) _ _ s from ?_)
  unfold Builtin.Dict.showsAll
  rw [if_neg (by rw [lo]; exact Bool.false_ne_true)]
  exact wpAny_bind (wpAny_pure (wpAny_bind (wpAny_newObj_type (wpAny_pure ⟨_, rfl, h⟩))))
theorem keysIter {Q : Value → Shared → Prop} (hv : PySem.W.KdlKeysView s.heap v d) (ho : s.heap.get? d = some o) (hx : o.ExactDict) (hd : o.data = .dict es ep)
    (hQ : Q (.ref s.heap.objs.size) { s with heap := s.heap.push { cls := .type "dict_keyiterator", data := .fields #[.ref d, .int 0 0, .int es.size 0, .int ep 0] } }) : wpAny (model prog w) A (pyIter (.ref v)) Q E s := by
  obtain ⟨ov, at_, cl, dv⟩ := id hv
  refine wpAny_pyIter_slot hv.typeIs PySem.W.kdl_slot_keys_iter (wpAny_call_entry PySem.W.kdl_slot_keys_iter hv.typeIs PySem.W.kdl_entry_keys_iter ?_ (PySem.W.kdl_args_keys_iter _))
  unfold Builtin.«dict_keys.__iter__»
  refine wpAny_bind (wpAny_pure (wpAny_bind ?_))
  unfold Builtin.Dict_items.dictOf
  refine wpAny_bind (wpAny_field at_ dv (x := .ref d) rfl (wpAny_pure (wpAny_bind ?_)))
  unfold Builtin.Dict_items.newIterator
  refine wpAny_bind (wpAny_dictEntries ho hd (wpAny_bind (wpAny_dictEpoch ho hd ?_)))
  have plain : Builtin.Dict_items.ownsTuple "dict_keyiterator" = false := by decide
  simp only [plain, Bool.false_eq_true, if_false]
  exact wpAny_newObj_type (wpAny_pure ⟨_, rfl, "dict_keyiterator", _, ⟨_, Heap.get?_push_size _ rfl, rfl⟩, PySem.F.slot_dict_keyiterator_next.lookup, hQ⟩)
theorem keysSrc (hx : o.ExactDict) (hd : o.data = .dict es ep) :
    PySem.W.KdlSrc prog w "dict_keys" v d es.size (fun i u => ∃ en : DictEntry, es[i]? = some en ∧ u = en.key) (fun h => PySem.W.KdlKeysView h v d ∧ h.get? d = some o) where
  type := fun _ z => z.1.typeIs
  there := fun _ z => ⟨let ⟨_, e, _⟩ := z.1; Heap.lt_size e, Heap.lt_size z.2⟩
  keep := fun _ _ z k => ⟨let ⟨o2, e, x⟩ := z.1; ⟨o2, k v (.inl rfl) o2 e, x⟩, k d (.inr rfl) _ z.2⟩
  notList := by decide
  notTuple := by decide
  hint := fun _ _ _ _ z q => PySem.W.kdl_hint_keys z.1.typeIs q
  iter := fun _ s hh z => ⟨_, _, fun _ _ q => keysIter z.1 z.2 hx hd q, walks_raw hh _ d (Nat.ne_of_lt (Heap.lt_size z.2)) hd, ⟨⟨_, Heap.get?_push_size _ rfl, rfl, rfl⟩, Heap.get?_push_of_some _ z.2⟩⟩
end
def tLKeys (td : TE) : TE := fun σ H Q => td σ H fun x H1 => ∃ d kvs, x = V.ref d ∧ H1 d = some (.dT kvs) ∧ ∀ p bs, H1 p = none → IsKeys H1 kvs bs → Q (.ref p) (upd H1 p (.lst (bs.map V.ref)))
theorem pe_lkeys {X : Cx} {e : Expr} {te : TE} {p apos cpos pos : Pos} (hc : X.calm = true) (hg : Gl X "list") (hm : X.mg "list" = none) (he : PE X e te) (hbase : attributeBase e "keys" X.env (eval e X.env) = eval e X.env := by rfl) (hline : (apos.endLine == cpos.line) = true := by rfl)
    (na : starEach [.Call (.Attribute e "keys" apos) [] [] cpos] X.env = (false, eval (.Call (.Attribute e "keys" apos) [] [] cpos) X.env) :: starEach [] X.env := by rfl) :
    PE X (.Call (.Name "list" p) [.Call (.Attribute e "keys" apos) [] [] cpos] [] pos) (tLKeys te) := by
  refine ⟨fun pins s σ H Q I h => ?_⟩
  refine Call_ (ld_blt I hg hm boot_list (PyProof.Rows.callWith_type1 (args_cons ?_ na) na rfl))
  refine wpAny_Call_method (T := "dict") (id := "dict.keys") hbase rfl hline F.plainAttrs_dict F.slot_dict_keys F.type_dict_keys (thn (he.run pins s σ H _ I h) fun u s1 ⟨x, H1, I1, rx, d, kvs, ex, hd, q⟩ => ?_)
  subst ex
  obtain rfl : u = Value.ref d := rx
  obtain ⟨z, lo, ks, pr, o, es, ep, ho, hx, hdt, ents, nn⟩ := dt_of I1.hok hd
  have ty : s1.TypeIs (.ref d) "dict" := ⟨o, ho, hx.1⟩
  refine ⟨ty, fun a ea => by cases ea; exact ⟨o, ho, hx.2.1⟩, ?_⟩
  have I2 : Inv X pins σ H1 { s1 with heap := s1.heap.push { cls := .type "dict_keys", data := .fields #[.ref d] } } := I1.kept (t' := s1.toks) fun b ob q => Heap.get?_push_of_some _ q
  show wpAny _ _ (callWith cpos (.builtin "dict.keys") [.ref d] [] []) _ X.xe s1
  refine method_meetsIn F.slot_dict_keys F.entry_dict_keys rfl (PySem.evalArgs_none ⟨rfl, ty, F.args_dict_keys_1 _, _, keysCall lo, ty, ?_⟩)
  refine args_nil ?_
  have l1 : es.size = ks.length := size_of_entries ents
  have l2 : kvs.length = ks.length := Paired.length pr
  refine PySem.W.kdl_call (keysSrc hx hdt) (I2.ok.hd hc) ⟨⟨_, Heap.get?_push_size _ rfl, rfl, rfl⟩, Heap.get?_push_of_some _ ho⟩ (by omega) fun h' tk acc c' kp e2 it => ?_
  have ea : acc.toList = (ks.map fun x => x.2.1).map Value.ref := by
    have hl : acc.toList.length = ks.length := by rw [Array.length_toList, it.1]; exact l1
    refine List.ext_getElem? fun j => ?_
    rw [List.map_map, List.getElem?_map]
    cases hb : ks[j]? with
    | none =>
      have := List.getElem?_eq_none_iff.mp hb
      rw [List.getElem?_eq_none (by omega)]; rfl
    | some b =>
      have hj : j < acc.toList.length := by rw [hl]; exact (List.getElem?_eq_some_iff.mp hb).1
      obtain ⟨en, hen, hv⟩ := it.2 j acc.toList[j] (by rw [← Array.getElem?_toList]; exact List.getElem?_eq_getElem hj)
      have qe := entry_at ents j
      rw [hen, hb] at qe
      rw [List.getElem?_eq_getElem hj, hv, show en = entryOfKey (tupleKind (mixKind X.prog X.w)) b from Option.some.inj qe]
      rfl
  have rv : Vals ((ks.map fun x => x.2.1).map V.ref) acc.toList := by rw [ea]; exact vals_refs _
  exact ⟨.ref _, _, I2.laid (t' := tk) (o := .lst ((ks.map fun x => x.2.1).map V.ref)) kp (Nat.le_refl _) ⟨by rw [List.length_map, List.length_map]; omega, acc.toList, c', rv, by rw [Array.toArray_toList]; exact e2⟩, rfl, q _ _ (I2.hok.fresh (Nat.le_refl _)) (isKeys_of pr)⟩
/-- a key as data -/
def kVal : Key → Val
  | .inl i => .int i
  | .inr x => .str x
def keysL (kvs : List (List Key × Val)) : List Val := kvs.map fun kv => .tup (kv.1.map kVal)
theorem reps_key {K : PySem.W.Frag} {ρ : List Addr} {H : Hp} : ∀ ks : List Key, Reps K ρ H (ks.map kV) (ks.map kVal)
  | [] => .nil
  | .inl i :: r => .cons (.int i) (reps_key r)
  | .inr x :: r => .cons (.str x) (reps_key r)
theorem reps_keys {K : PySem.W.Frag} {ρ : List Addr} {H : Hp} : ∀ {ws : List (List Key × V)} {kvs : List (List Key × Val)} {bs : List Addr}, RepK K ρ H ws kvs → IsKeys H ws bs → Reps K ρ H (bs.map V.ref) (keysL kvs)
  | _, _, _, .nil, .nil => .nil
  | (a, _) :: _, (b, _) :: _, _ :: _, .cons h r, .cons h2 r2 => by
    obtain ⟨h1, _⟩ := h
    obtain rfl : a = b := h1
    exact .cons (.tup h2 (reps_key _)) (reps_keys r r2)
def eLKeys (f : En → Store → Out Val) : En → Store → Out Val := fun env S => (f env S).bind fun x S1 => match x with
  | .ref n => (match S1[n]? with
    | some (.dt kvs) => .ok (.ref S1.length) (S1 ++ [.lst (keysL kvs)])
    | _ => .bad)
  | _ => .bad
theorem se_lkeys {X : Cx} {Y : Sy} {W : WX} {k : Nat} {e : Expr} {f : En → Store → Out Val} {p apos cpos pos : Pos} (c : Cc X Y W k) (hg : Gl X "list") (hm : X.mg "list" = none) (he : SE X Y W e f) (hbase : attributeBase e "keys" X.env (eval e X.env) = eval e X.env := by rfl) (hline : (apos.endLine == cpos.line) = true := by rfl)
    (na : starEach [.Call (.Attribute e "keys" apos) [] [] cpos] X.env = (false, eval (.Call (.Attribute e "keys" apos) [] [] cpos) X.env) :: starEach [] X.env := by rfl) :
    SE X Y W (.Call (.Name "list" p) [.Call (.Attribute e "keys" apos) [] [] cpos] [] pos) (eLKeys f) := by
  refine PE.imp (pe_lkeys c.calm hg hm he hbase hline na) fun σ H Q h => ?_
  refine tG.bind (k := fun _ x S1 => match x with | .ref n => (match S1[n]? with | some (.dt kvs) => Out.ok (Val.ref S1.length) (S1 ++ [.lst (keysL kvs)]) | _ => Out.bad) | _ => Out.bad) h fun ρ env v x H1 S1 he hs rx hp => ?_
  cases rx <;> try (exact hp.elim)
  rename_i a n hn
  dsimp only at hp
  split at hp
  · rename_i kvs ek
    obtain ⟨ws, e2, r2⟩ := hs.dt hn ek
    refine ⟨a, ws, rfl, e2, fun q bs hq ik => ?_⟩
    have en := Ext.new (o := .lst (bs.map V.ref)) hq
    exact hp _ (ρ ++ [q]) _ (Pre.snoc _ _) en (hs.new hq ⟨_, upd_same, (reps_keys r2 ik).up (Pre.snoc _ _) en⟩) (rep_new hs.len.symm)
  · exact hp.elim

/-! ### len(set(xs)) of ints -/
def dedup (ns : List Int) : List Int := ns.foldl PyProof.Rows.step_dedup []
theorem firstMet_all (ns : List Int) : PyProof.Rows.firstMet (fun i => ns.getD i 0) ns.length = dedup ns := by
  unfold PyProof.Rows.firstMet dedup
  congr 1
  refine List.ext_getElem? fun i => ?_
  rw [List.getElem?_map]
  by_cases hi : i < ns.length
  · rw [List.getElem?_range hi, List.getElem?_eq_getElem hi]
    simp [hi]
  · rw [List.getElem?_eq_none (by simpa using hi), List.getElem?_eq_none (by simpa using hi)]; rfl
def tLSet (K : PySem.W.Frag) (ta : TE) : TE := fun σ H Q => ta σ H fun x H1 => ∃ (l : Addr) (ns : List Int), x = .ref l ∧ SqL K H1 l (ns.map V.int) ∧ ns.length ≤ 4000 ∧ Q (.int ((dedup ns).length : Nat)) H1
theorem pe_lset {X : Cx} {a : Expr} {ta : TE} {p p2 q pos : Pos} (hg : Gl X "len") (hm : X.mg "len" = none) (hg2 : Gl X "set") (hm2 : X.mg "set" = none) (ha : PE X a ta) (hc : X.calm = true)
    (na : starEach [a] X.env = (false, eval a X.env) :: starEach [] X.env := by rfl) : PE X (.Call (.Name "len" p) [.Call (.Name "set" p2) [a] [] q] [] pos) (tLSet X.K ta) := by
  refine ⟨fun pins s σ H Q I h => ?_⟩
  refine Call_ (ld_blt I hg hm boot_len (PyProof.Rows.callWith_builtin1 (PyProof.Rows.args_cons ?_ rfl) rfl rfl))
  refine Call_ (ld_blt I hg2 hm2 boot_set (PyProof.Rows.callWith_type1 (PyProof.Rows.args_cons (thn (ha.run pins s σ H _ I h) fun v s1 ⟨x, H1, I1, r1, q1⟩ => PyProof.Rows.args_nil ?_) na) na rfl))
  obtain ⟨l, ns, rfl, hq, hl, q1⟩ := q1
  obtain rfl : v = Value.ref l := r1
  obtain ⟨its, r, pl, hz⟩ := I1.list hq
  have sz : its.toArray.size = ns.length := by rw [List.size_toArray, ← r.length, List.length_map]
  refine call_set_list (I1.ok.hd hc) pl.isList (by simpa using RZ.intsAre_vals r) (by rw [sz]; unfold scanBound; omega) fun h' tk st kp => PyProof.Rows.args_nil ?_
  rw [sz, firstMet_all] at st
  obtain ⟨o, es, ep, t, ho, hex, hd, _, _, _, hf, hn⟩ := st
  have I2 : Inv X pins σ H1 { s1 with heap := h', toks := tk } := I1.kept fun b o e => kp b o (Heap.lt_size e) e
  have bound : (dedup ns).length ≤ ns.length := by rw [← firstMet_all]; exact PyProof.Rows.firstMet_length_le _ _
  exact call_len_set ho hex hd hf (by rw [hn] <;> omega) ⟨.int (dedup ns).length, H1, I2.tok _, ⟨_, by rw [hn]⟩, q1⟩
def eLSet (f : En → Store → Out Val) : En → Store → Out Val := fun env S => (f env S).bind fun x S1 => match getL S1 x with
  | some xs => (match intsOf xs with
    | some ns => if ns.length ≤ 4000 then .ok (.int ((dedup ns).length : Nat)) S1 else .bad
    | none => .bad)
  | none => .bad
theorem se_lset {X : Cx} {Y : Sy} {W : WX} {k : Nat} {a : Expr} {f : En → Store → Out Val} {p p2 q pos : Pos} (c : Cc X Y W k) (hg : Gl X "len") (hm : X.mg "len" = none) (hg2 : Gl X "set") (hm2 : X.mg "set" = none) (ha : SE X Y W a f)
    (na : starEach [a] X.env = (false, eval a X.env) :: starEach [] X.env := by rfl) : SE X Y W (.Call (.Name "len" p) [.Call (.Name "set" p2) [a] [] q] [] pos) (eLSet f) := by
  refine PE.imp (pe_lset hg hm hg2 hm2 ha c.calm na) fun σ H Q h => ?_
  refine tG.bind (k := fun _ x S1 => match getL S1 x with | some xs => (match intsOf xs with | some ns => if ns.length ≤ 4000 then Out.ok (Val.int ((dedup ns).length : Nat)) S1 else Out.bad | none => Out.bad) | none => Out.bad) h fun ρ env v x H1 S1 he hs rx hp => ?_
  split at hp
  · rename_i xs e1
    split at hp
    · rename_i ns e2
      split at hp
      · rename_i hl
        obtain ⟨l, vs, rfl, hq, r⟩ := getL_rep hs rx e1
        have e3 := intsOf_rep r e2
        subst e3
        exact ⟨l, ns, rfl, hq, hl, hp _ ρ H1 (Pre.refl _) (Ext.refl _) hs (.int _)⟩
      · exact hp.elim
    · exact hp.elim
  · exact hp.elim
end Mp

set_option Elab.async false
set_option linter.all false
set_option maxRecDepth 100000
set_option maxHeartbeats 1000000
/-! Defs and classes by name, the facts of the top. -/
namespace Mp
open PySem PySem.Spec PyProof.Rows L2

/-! ### by name -/
/-- the def x of n parameters does what g says, in k calls' room -/
structure FnAt (P : Program) (w : World) (K : PySem.W.Frag) (mg : Str → Option Value) (base : Heap) (Y : Sy) (k n : Nat) (x : Str) (g : Fn) : Prop where
  ex : ∃ f fd ps, FnOk P w K mg base (L2.CX P w) k f fd ps (spOf K Y n g) ∧ mg x = some (.ref f) ∧ PySem.W.keepIn K (.ref f) = true ∧ Binds K fd ps []
  ar : Arity n g
/-- the class c, made by n arguments besides self -/
structure MkAt (P : Program) (w : World) (K : PySem.W.Frag) (mg : Str → Option Value) (base : Heap) (Y : Sy) (k n : Nat) (c : Str) (g : Fn) : Prop where
  ex : ∃ C f fd ps, Y.cl c = some C ∧ mg c = some (.ref C) ∧ Mk K C f ∧ FnOk P w K mg base (L2.CX P w) k f fd ps (spOf K Y n g) ∧ Binds K fd ps []
  ar : Arity n g
/-- the class c's own == -/
structure EqAt (P : Program) (w : World) (K : PySem.W.Frag) (mg : Str → Option Value) (base : Heap) (Y : Sy) (k : Nat) (c : Str) (g : Fn) : Prop where
  ex : ∃ C f fd ps, Y.cl c = some C ∧ EqO K Y C f ∧ FnOk P w K mg base (L2.CX P w) k f fd ps (spOf K Y 2 g) ∧ Binds K fd ps []
  ar : Arity 2 g
/-- the error c, without a field | with the field n -/
structure Er0At (P : Program) (w : World) (K : PySem.W.Frag) (mg : Str → Option Value) (base : Heap) (Y : Sy) (c : Str) : Prop where
  ex : ∃ C fI fd, Y.er c = some (.ref C) ∧ mg c = some (.ref C) ∧ OexC K C ∧ PySem.W.findIn K (.ref C) "__init__" = some (some (.ref fI)) ∧ PySem.W.typeIn K (.ref fI) = some (.type "function") ∧ FnOk P w K mg base (L2.CX P w) 1 fI fd ["self"] spI0 ∧ Binds K fd ["self"] []
structure Er1At (P : Program) (w : World) (K : PySem.W.Frag) (mg : Str → Option Value) (base : Heap) (Y : Sy) (c n : Str) : Prop where
  ex : ∃ C fI fd, Y.er c = some (.ref C) ∧ mg c = some (.ref C) ∧ OexC K C ∧ PySem.W.findIn K (.ref C) "__init__" = some (some (.ref fI)) ∧ PySem.W.typeIn K (.ref fI) = some (.type "function") ∧ FnOk P w K mg base (L2.CX P w) 1 fI fd ["self", n] (spI1 C n) ∧ Binds K fd ["self", n] []
/-- except c: m tells which errors go there -/
structure HdAt (K : PySem.W.Frag) (mg : Str → Option Value) (Y : Sy) (c : Str) (m : Str → Bool) : Prop where
  ex : ∃ hv, ((c == ("__debug__" : Str)) = false ∧ (mg c = some hv ∨ (mg c = none ∧ bootBuiltins c = some hv ∧ c ≠ "__name__"))) ∧ ∀ q cls, Y.er q = some cls → PySem.W.exmOne K cls hv = some (m q)
/-- isinstance(.., c) -/
structure IsAt (K : PySem.W.Frag) (mg : Str → Option Value) (Y : Sy) (c : Str) (m : Str → Bool) : Prop where
  ex : ∃ C, mg c = some (.ref C) ∧ IsO K Y C m
section
variable {X : Cx} {Y : Sy} {W : WX} {k kc n : Nat} {x c : Str} {g : Fn} {e : Expr} {es : List Expr} {ga : En → Store → Out (List Val)} {p pos pos2 : Pos} {a b : Expr} {fa fb : En → Store → Out Val}
theorem sx_call (cc : Cc X Y W kc) (F : FnAt X.prog X.w X.K X.mg X.base Y k n x g) (hk : k ≤ kc) (hg : Gl X x) (ha : SA X Y W (e :: es) ga)
    (hdb : (x == ("__debug__" : Str)) = false := by decide) (he : starEach (e :: es) X.env = (false, eval e X.env) :: starEach es X.env := by rfl) (hpl : (backTo pos (starEach es X.env)).any (·.1) = false := by rfl) : SE X Y W (.Call (.Name x p) (e :: es) [] pos) (eCall g ga) := by
  obtain ⟨f, fd, ps, h1, h2, h3, h4⟩ := F.ex
  exact se_call cc h1 F.ar hk hg h2 h3 h4 ha hdb he hpl
theorem sx_make (cc : Cc X Y W kc) (F : MkAt X.prog X.w X.K X.mg X.base Y k n c g) (hk : k + 1 ≤ kc) (hg : Gl X c) (ha : SA X Y W (e :: es) ga)
    (hdb : (c == ("__debug__" : Str)) = false := by decide) (he : starEach (e :: es) X.env = (false, eval e X.env) :: starEach es X.env := by rfl) (hpl : (backTo pos (starEach es X.env)).any (·.1) = false := by rfl) : SE X Y W (.Call (.Name c p) (e :: es) [] pos) (eCall (fMake c g) ga) := by
  obtain ⟨C, f, fd, ps, h1, h2, h3, h4, h5⟩ := F.ex
  exact se_make cc h3 h4 F.ar hk h1 hg h2 h5 ha hdb he hpl
theorem sx_eqO (cc : Cc X Y W kc) (hK : Kls X.K Y) (F : EqAt X.prog X.w X.K X.mg X.base Y k c g) (hk : k ≤ kc) (ha : SE X Y W a fa) (hb : SE X Y W b fb) : SE X Y W (.Compare a [.Eq] [b] pos) (eB2 (vEqO c g) fa fb) := by
  obtain ⟨C, f, fd, ps, h1, h2, h3, h4⟩ := F.ex
  exact se_eqO cc hK h2 h1 h3 F.ar hk h4 ha hb
theorem tx_eqO (cc : Cc X Y W kc) (hK : Kls X.K Y) (F : EqAt X.prog X.w X.K X.mg X.base Y k c g) (hk : k ≤ kc) (ha : SE X Y W a fa) (hb : SE X Y W b fb) : ST X Y W (.Compare a [.Eq] [b] pos) (bV (eB2 (vEqO c g) fa fb)) := by
  obtain ⟨C, f, fd, ps, h1, h2, h3, h4⟩ := F.ex
  exact st_eqO cc hK h2 h1 h3 F.ar hk h4 ha hb
theorem sx_raise0 (cc : Cc X Y W kc) (F : Er0At X.prog X.w X.K X.mg X.base Y c) (h2 : 2 ≤ kc) (hg : Gl X c) (hdb : (c == ("__debug__" : Str)) = false := by decide) : SS X Y W (.Raise (some (.Call (.Name c p) [] [] pos)) none pos2) (sRaise0 c) := by
  obtain ⟨C, fI, fd, z1, z2, z3, z4, z5, z6, z7⟩ := F.ex
  exact ss_raise0 cc h2 z1 z3 z4 z5 z6 z7 hg z2 hdb
theorem sx_raise1 {f : En → Store → Out Val} {m : Str} (cc : Cc X Y W kc) (F : Er1At X.prog X.w X.K X.mg X.base Y c m) (h2 : 2 ≤ kc) (hg : Gl X c) (he : SE X Y W e f) (hdb : (c == ("__debug__" : Str)) = false := by decide) (hs : starEach [e] X.env = (false, eval e X.env) :: starEach [] X.env := by rfl) :
    SS X Y W (.Raise (some (.Call (.Name c p) [e] [] pos)) none pos2) (sRaise1 c m f) := by
  obtain ⟨C, fI, fd, z1, z2, z3, z4, z5, z6, z7⟩ := F.ex
  exact ss_raise1 cc h2 z1 z3 z4 z5 z6 z7 hg z2 he hdb hs
theorem sx_isO {m : Str → Bool} {f : En → Store → Out Val} {p2 : Pos} (hK : Kls X.K Y) (F : IsAt X.K X.mg Y c m) (hg : Gl X "isinstance") (hm : X.mg "isinstance" = none) (hg2 : Gl X c) (ha : SE X Y W e f) (hdb : (c == ("__debug__" : Str)) = false := by decide)
    (he : starEach [e, .Name c p2] X.env = (false, eval e X.env) :: starEach [.Name c p2] X.env := by rfl) (hpl : (backTo pos (starEach [.Name c p2] X.env)).any (·.1) = false := by rfl) (h2 : starEach [.Name c p2] X.env = (false, eval (.Name c p2) X.env) :: starEach [] X.env := by rfl) :
    SE X Y W (.Call (.Name "isinstance" p) [e, .Name c p2] [] pos) (eIsO m f) := by
  obtain ⟨C, h1, h3⟩ := F.ex
  exact se_isO hK h3 hg hm hg2 h1 ha hdb he hpl h2
/-- the clauses of a try, one by one -/
theorem hd_nil : ∃ l', Hds X Y [] l' [] := ⟨_, .nil⟩
theorem hd_cons {m : Str → Bool} {gs : En → Store → Res} {b₀ : Stmt} {suite : List Stmt} {np pos' : Pos} {hds : List ExceptHandler} {l : List Hd} (F : HdAt X.K X.mg Y c m) (hg : Gl X c) (hsu : ∀ (a : Addr) (pn : List (Addr × Obj)), Cs (X.suite a pn) → SSs (X.suite a pn) Y W0 (b₀ :: suite) gs)
    (r : ∃ l', Hds X Y hds l' l) : ∃ l', Hds X Y (.ExceptHandler (some (.Name c np)) none (b₀ :: suite) pos' :: hds) l' ((m, gs) :: l) := by
  obtain ⟨hv, ⟨h0, h1⟩, h2⟩ := F.ex
  obtain ⟨l', r⟩ := r
  exact ⟨_, .cons ⟨hg, h0, h1⟩ h2 hsu r⟩
theorem sx_try {body : List Stmt} {gb : En → Store → Res} {h₀ : ExceptHandler} {hds : List ExceptHandler} {l : List Hd} (cc : Cc X Y W kc) (hb : ∀ pn xe W', Cc (X.tr pn xe) Y W' kc → SSs (X.tr pn xe) Y W' body gb) (hh : ∃ l', Hds X Y (h₀ :: hds) l' l)
    (hs : X.stack = X.env :: X.outer := by rfl) (hf : X.env.frame = some X.env.locals := by rfl) : SS X Y W (.Try body (h₀ :: hds) [] [] pos) (sTry gb l) := by
  obtain ⟨l', hh⟩ := hh
  exact ss_try cc hb hh hs hf
theorem sx_tryAs {i : Nat} {nm : Str} {m : Str → Bool} {body suite : List Stmt} {b₀ : Stmt} {np pos' : Pos} {gb : En → Store → Res} {gs : Str → List (Str × Val) → En → Store → Res} (cc : Cc X Y W kc) (F : HdAt X.K X.mg Y c m) (hg : Gl X c) (hi : X.N[i]? = some nm) (hln : X.env.kindOf nm = some .local)
    (hb : ∀ pn xe W', Cc (X.tr pn xe) Y W' kc → SSs (X.tr pn xe) Y W' body gb)
    (hsu : ∀ (a : Addr) (oe : Obj) (q : Str) (cls : Value) (d : Option Addr) (pn : List (Addr × Obj)) (fs : List (Str × Val)), Y.er q = some cls → m q = true → Zc cls d oe → (∃ vs, oe.data = .fields vs) → Cs (X.suite a ((a, oe) :: pn)) →
      SSs (X.suite a ((a, oe) :: pn)) { Y with xi := some (i, a, cls, d, fs) } W0 (b₀ :: suite) (gs q fs))
    (hs : X.stack = X.env :: X.outer := by rfl) (hf : X.env.frame = some X.env.locals := by rfl) : SS X Y W (.Try body [.ExceptHandler (some (.Name c np)) (some nm) (b₀ :: suite) pos'] [] [] pos) (sTryAs m i gb gs) := by
  obtain ⟨hv, ⟨h0, h1⟩, h2⟩ := F.ex
  exact ss_try_as cc hi hln ⟨hg, h0, h1⟩ h2 hb hsu hs hf
/-- what an error's class must have for its field f to be read -/
structure XfAt (K : PySem.W.Frag) (Y : Sy) (c f : Str) : Prop where
  ex : ∃ C, Y.er c = some (.ref C) ∧ XfC K C ∧ PySem.W.findIn K (.ref C) f = some none
theorem sx_xf {i : Nat} {nm f : Str} {a : Addr} {oe : Obj} {cls : Value} {d : Option Addr} {pn : List (Addr × Obj)} {fs : List (Str × Val)} (F : XfAt X.K Y c f) (hq : Y.er c = some cls) (hz : Zc cls d oe) (hf : ∃ vs, oe.data = .fields vs)
    (hN : X.N[i]? = some nm) (hv : X.env.scope.names.lookup nm = some .local) (hd : (nm == ("__debug__" : Str)) = false := by decide) (hcd : (nm == ("__classdict__" : Str)) = false := by decide) :
    SE (X.suite a ((a, oe) :: pn)) { Y with xi := some (i, a, cls, d, fs) } W (.Attribute (.Name nm p) f pos) (eXf fs f) := by
  obtain ⟨C, h1, h2, h3⟩ := F.ex
  have e : cls = .ref C := Option.some.inj (hq.symm.trans h1)
  subst e
  exact se_xf h2 h3 hz hf hN hv hd hcd
end
/-- a def of the text -/
abbrev FunS (K : PySem.W.Frag) (x qual : Str) (st : Stmt) (f : Addr) (fd : FuncData) : Prop := FunD K x qual (defArgs st) (defBody st) (defScope st) [] [] f fd
theorem FunS.fun {K : PySem.W.Frag} {x qual : Str} {st : Stmt} {f : Addr} {fd : FuncData} (F : FunS K x qual st f fd) : Fun K x qual st f fd := by
  obtain ⟨oc, od, dV, kV, doc, pm, an, cdv, ct, osl, e, lk, hcd, hD, hK⟩ := F.ex
  rcases hD with ⟨_, rfl⟩ | ⟨z, _⟩
  · exact ⟨⟨oc, od, kV, doc, pm, an, cdv, ct, osl, e, lk, hcd⟩, F.kp⟩
  · exact absurd rfl z
/-- bindArgs of a def of these names -/
def BindsS (x qual : Str) (st : Stmt) (ps : List Str) : Prop := ∀ (kV doc pm : Value) (an : Option Addr) (cdv ct : Value) (us : List Value), us.length = ps.length → bindArgs (PySem.W.fnOf x qual (defArgs st) (defBody st) (defScope st) .none kV doc pm an cdv ct) ⟨us, []⟩ = pure (ps.zip us)
theorem FnAt.of {P : Program} {w : World} {K : PySem.W.Frag} {mg : Str → Option Value} {base : Heap} {Y : Sy} {x qual : Str} {st : Stmt} {f : Addr} {fd : FuncData} {N ps : List Str} {k : Nat} {g : En → Store → Res} (F : FunS K x qual st f fd) (hm : mg x = some (.ref f)) (S : FnScope N ps (defScope st)) (hb : BindsS x qual st ps) (hy : Y.xi = none)
    (h : ∀ cdv A outer s H E, Cc (cxOf (L2.CX P w) P w K mg base N qual (defScope st) f cdv A outer s H E) Y (fun cls d _ H' => E cls d H') k →
      SSs (cxOf (L2.CX P w) P w K mg base N qual (defScope st) f cdv A outer s H E) Y (fun cls d _ H' => E cls d H') (defBody st) g) : FnAt P w K mg base Y (k + 1) ps.length x (fnB N.length ps.length g) :=
  ⟨⟨f, fd, ps, fn_ok F.fun S hy h, hm, F.kp, F.fun.binds hb⟩, arity_fnB⟩
theorem MkAt.of {P : Program} {w : World} {K : PySem.W.Frag} {mg : Str → Option Value} {base : Heap} {Y : Sy} {c qual : Str} {st : Stmt} {C f : Addr} {fd : FuncData} {N ps : List Str} {k : Nat} {g : En → Store → Res} (F : FunS K "__init__" qual st f fd) (hm : mg c = some (.ref C)) (hc : Y.cl c = some C) (mk : Mk K C f) (S : FnScope N ps (defScope st)) (hb : BindsS "__init__" qual st ps) (hy : Y.xi = none)
    (h : ∀ cdv A outer s H E, Cc (cxOf (L2.CX P w) P w K mg base N qual (defScope st) f cdv A outer s H E) Y (fun cls d _ H' => E cls d H') k →
      SSs (cxOf (L2.CX P w) P w K mg base N qual (defScope st) f cdv A outer s H E) Y (fun cls d _ H' => E cls d H') (defBody st) g) : MkAt P w K mg base Y (k + 1) ps.length c (fnB N.length ps.length g) :=
  ⟨⟨C, f, fd, ps, hc, hm, mk, fn_ok F.fun S hy h, F.fun.binds hb⟩, arity_fnB⟩
theorem EqAt.of {P : Program} {w : World} {K : PySem.W.Frag} {mg : Str → Option Value} {base : Heap} {Y : Sy} {c qual : Str} {st : Stmt} {C f : Addr} {fd : FuncData} {N : List Str} {p1 p2 : Str} {k : Nat} {g : En → Store → Res} (F : FunS K "__eq__" qual st f fd) (hc : Y.cl c = some C) (eo : EqO K Y C f) (S : FnScope N [p1, p2] (defScope st)) (hb : BindsS "__eq__" qual st [p1, p2]) (hy : Y.xi = none)
    (h : ∀ cdv A outer s H E, Cc (cxOf (L2.CX P w) P w K mg base N qual (defScope st) f cdv A outer s H E) Y (fun cls d _ H' => E cls d H') k →
      SSs (cxOf (L2.CX P w) P w K mg base N qual (defScope st) f cdv A outer s H E) Y (fun cls d _ H' => E cls d H') (defBody st) g) : EqAt P w K mg base Y (k + 1) c (fnB N.length 2 g) :=
  ⟨⟨C, f, fd, [p1, p2], hc, eo, fn_ok F.fun S hy h, F.fun.binds hb⟩, arity_fnB⟩
end Mp

set_option Elab.async false
set_option linter.all false
set_option maxRecDepth 100000
set_option maxHeartbeats 1000000
/-! Small helps of the printed derivations. -/
namespace Mp
open PySem PySem.Spec PyProof.Rows L2
theorem Cc.u66 {X : Cx} {Y : Sy} {W : WX} {k : Nat} (c : Cc X Y W k) : X.A.units + 66 < cLine := by have := c.room.un; omega
theorem Cs.u66 {X : Cx} (c : Cs X) : X.A.units + 66 < cLine := by have := c.un; omega
def clsBody : Stmt → List Stmt
  | .ClassDef (body := b) .. => b
  | _ => []
section
variable {X : Cx} {Y : Sy} {W : WX} {x : Str} {pos : Pos}
theorem sx_con {i : Int} (hg : Gl X x) (hm : ∃ t, X.mg x = some (.int i t)) (hd : (x == ("__debug__" : Str)) = false := by decide) : SE X Y W (.Name x pos) (eC (.int i)) := by
  obtain ⟨t, hm⟩ := hm
  exact se_glob (v := .int i) hg hm ⟨t, rfl⟩ (fun _ _ => .int i) hd
theorem sx_conS {z : Str} (hg : Gl X x) (hm : ∃ t, X.mg x = some (.str z t)) (hd : (x == ("__debug__" : Str)) = false := by decide) : SE X Y W (.Name x pos) (eC (.str z)) := by
  obtain ⟨t, hm⟩ := hm
  exact se_glob (v := .str z) hg hm ⟨t, rfl⟩ (fun _ _ => .str z) hd
end
def blkB (N : List Str) (sc scope : Scope) (own : List (Str × Nat)) : Bool :=
  decide (∀ y ∈ scope.names, scope.names.lookup y.1 = some y.2) && (decide (∀ p ∈ own, N[p.2]? = some p.1) && (decide (∀ y ∈ scope.names, y.2 = .free → sc.names.lookup y.1 = some .cell ∨ sc.names.lookup y.1 = some .free) &&
    decide (∀ y ∈ scope.names, y.2 = .local ∨ y.2 = .cell → y.1 ∈ own.map (·.1) ∨ y.1 ∉ N)))
theorem blk_ok {N N' : List Str} {sc sc' scope : Scope} {own : List (Str × Nat)} (hN : N' = N) (hs : sc' = sc) (hk : scope.kind = .function) (h : blkB N sc scope own = true) : BlkOk N' sc' scope own := by
  subst hN; subst hs
  obtain ⟨h1, h⟩ := Bool.and_eq_true_iff.mp h
  obtain ⟨h2, h⟩ := Bool.and_eq_true_iff.mp h
  obtain ⟨h3, h4⟩ := Bool.and_eq_true_iff.mp h
  exact ⟨hk, of_decide_eq_true h1, of_decide_eq_true h2, of_decide_eq_true h3, of_decide_eq_true h4⟩
theorem FnAt.none {P : Program} {w : World} {K : PySem.W.Frag} {mg : Str → Option Value} {base : Heap} {Y : Sy} {x qual : Str} {st : Stmt} {f : Addr} {fd : FuncData} {ps : List Str} {k n : Nat} (F : FunS K x qual st f fd) (hm : mg x = some (.ref f)) (hb : BindsS x qual st ps) (hn : ps.length = n) : FnAt P w K mg base Y k n x fun _ _ => .bad :=
  ⟨⟨f, fd, ps, ⟨fun vs H Q E h => h.1.trans hn.symm, fun A outer s H args us vs Q E _ _ _ _ h => by obtain ⟨_, ρ, xs, S, _, _, h⟩ := h; exact h.elim⟩, hm, F.kp, F.fun.binds hb⟩, fun _ _ _ => rfl⟩
end Mp

set_option Elab.async false
set_option linter.all false
set_option maxRecDepth 100000
set_option maxHeartbeats 1000000
/-! What the top has written, as flags; the law's end. -/
namespace Mp
open PySem PySem.Spec PyProof.Rows L2
abbrev YYg (owns errs : List Str) (K : PySem.W.Frag) : Sy := { cl := fun c => if owns.contains c = true then some (He.ga K c) else none, er := fun c => if errs.contains c = true then some (.ref (He.ga K c)) else none }
theorem yy_cl {owns errs : List Str} {K : PySem.W.Frag} {c : Str} {C : Addr} (h : (YYg owns errs K).cl c = some C) : c ∈ owns ∧ C = He.ga K c := by
  simp only [YYg] at h
  split at h
  · rename_i q
    exact ⟨by simpa using q, (Option.some.inj h).symm⟩
  · cases h
theorem yy_er {owns errs : List Str} {K : PySem.W.Frag} {c : Str} {v : Value} (h : (YYg owns errs K).er c = some v) : c ∈ errs ∧ v = .ref (He.ga K c) := by
  simp only [YYg] at h
  split at h
  · rename_i q
    exact ⟨by simpa using q, (Option.some.inj h).symm⟩
  · cases h
theorem yy_cl_of {owns errs : List Str} {K : PySem.W.Frag} {c : Str} (h : owns.contains c = true) : (YYg owns errs K).cl c = some (He.ga K c) := if_pos h
theorem yy_er_of {owns errs : List Str} {K : PySem.W.Frag} {c : Str} (h : errs.contains c = true) : (YYg owns errs K).er c = some (.ref (He.ga K c)) := if_pos h
theorem both {a b : Bool} (h : (a && b) = true) : a = true ∧ b = true := Bool.and_eq_true_iff.mp h
/-! ### flags of the text -/
abbrev FB := PySem.W.Frag → Bool
def klB (c : Str) : FB := fun K => (He.Fa.cls c).ok K && (He.eqO (PySem.W.findIn K (.ref (He.ga K c)) "__class__") (some (some (.builtin "object.__class__"))) && (He.eqO (PySem.W.specialIn K (.builtin "object.__class__") "__get__") (some (some (.builtin "getset_descriptor.__get__"))) &&
  (decide (PySem.W.takesIn K (.builtin "object.__class__") = some true) && decide (PySem.W.mroIn K (He.ga K c) (.type "object") = some true))))
theorem kl_of {c : Str} {K : PySem.W.Frag} (h : klB c K = true) : Kl K (He.ga K c) := by
  obtain ⟨h1, h⟩ := both h
  obtain ⟨h2, h⟩ := both h
  obtain ⟨h3, h⟩ := both h
  obtain ⟨h4, h5⟩ := both h
  exact ⟨He.cls_ok h1, He.eqO_ok h2, He.eqO_ok h3, of_decide_eq_true h4, of_decide_eq_true h5⟩
def klsB (owns : List Str) : FB := fun K => owns.all fun c => klB c K
theorem kls_of {owns errs : List Str} {K : PySem.W.Frag} (h : klsB owns K = true) : Kls K (YYg owns errs K) := fun c C hc => by
  obtain ⟨h1, rfl⟩ := yy_cl hc
  exact kl_of (List.all_eq_true.mp h c h1)
def nofB (cs : List Str) (f : Str) : FB := fun K => cs.all fun c => (He.Fa.noat c f).ok K
theorem nof_of {owns errs cs : List Str} {f : Str} {K : PySem.W.Frag} (h : nofB cs f K = true) : NoF K (YYg owns errs K) cs f := fun c C hc hC => by
  obtain ⟨_, rfl⟩ := yy_cl hC
  exact He.noat_ok (List.all_eq_true.mp h c hc)
def isB (owns : List Str) (c : Str) : FB := fun K => (tyNames.all fun t => decide (PySem.W.kitOne K (.type t) (.ref (He.ga K c)) = some false)) && owns.all fun q => decide (PySem.W.kitOne K (.ref (He.ga K q)) (.ref (He.ga K c)) = some (q == c))
theorem is_of {owns errs : List Str} {c : Str} {K : PySem.W.Frag} {mg : Str → Option Value} (hm : mg c = some (.ref (He.ga K c))) (h : isB owns c K = true) : IsAt K mg (YYg owns errs K) c fun q => q == c := by
  obtain ⟨h1, h2⟩ := both h
  refine ⟨_, hm, fun t ht => of_decide_eq_true (List.all_eq_true.mp h1 t ht), fun q D hq => ?_⟩
  obtain ⟨h3, rfl⟩ := yy_cl hq
  exact of_decide_eq_true (List.all_eq_true.mp h2 q h3)
def eqB (owns : List Str) (c : Str) : FB := fun K => (He.Fa.meth c "__eq__").ok K && ((tyNames.all fun t => PySem.W.notFirst K (He.ga K c) (.type t)) && owns.all fun q => PySem.W.notFirst K (He.ga K c) (.ref (He.ga K q)))
theorem eq_of {owns errs : List Str} {c : Str} {K : PySem.W.Frag} (h : eqB owns c K = true) : EqO K (YYg owns errs K) (He.ga K c) (He.ma K (He.ga K c) "__eq__") := by
  obtain ⟨h1, h⟩ := both h
  obtain ⟨h2, h3⟩ := both h
  have m := He.meth_ok h1
  refine ⟨m.at_, m.fn, fun t ht => List.all_eq_true.mp h2 t ht, fun q D hq => ?_⟩
  obtain ⟨h4, rfl⟩ := yy_cl hq
  exact List.all_eq_true.mp h3 q h4
/-- an own error class with an __init__ of its own -/
def oexB (c : Str) : FB := fun K => (match K.lookup (He.ga K c) with
  | some ⟨.type "type", _, .cls cd, sl⟩ => (match cd.mro, sl.toList with
    | .ref C' :: bm, [_, _, _, _, some (.builtin n), _] => decide (C' = He.ga K c) && (decide (n = "ValueError.__new__") && (!cd.hasDel && (cd.hasDict && PySem.HandSPX.refsVE bm)))
    | _, _ => false)
  | _ => false) && (He.eqO (PySem.W.findIn K (.ref (He.ga K c)) "__setattr__") (some (some (.builtin "object.__setattr__"))) && (decide (PySem.W.subIn K (.ref (He.ga K c)) (.type "BaseException") = some true) && (decide (PySem.W.typeIn K (.ref (He.ga K c)) = some (.type "type")) && PySem.W.keepIn K (.ref (He.ga K c)))))
theorem oex_cls {c : Str} {K : PySem.W.Frag} (h : (match K.lookup (He.ga K c) with
    | some ⟨.type "type", _, .cls cd, sl⟩ => (match cd.mro, sl.toList with
      | .ref C' :: bm, [_, _, _, _, some (.builtin n), _] => decide (C' = He.ga K c) && (decide (n = "ValueError.__new__") && (!cd.hasDel && (cd.hasDict && PySem.HandSPX.refsVE bm)))
      | _, _ => false)
    | _ => false) = true) : ∃ nm q N bs bm sn sub ab col dd k0 k1 k2 k3 k5, K.lookup (He.ga K c) = some (excClassObj nm q (He.ga K c) N bs bm true sn sub ab col dd k0 k1 k2 k3 k5 "ValueError.__new__") ∧ PySem.HandSPX.refsVE bm = true := by
  split at h
  · rename_i dd cd sl ho
    split at h
    · rename_i C' bm k0 k1 k2 k3 n k5 hm hs
      obtain ⟨h1, h⟩ := both h
      obtain ⟨h2, h⟩ := both h
      obtain ⟨h3, h⟩ := both h
      obtain ⟨h4, h5⟩ := both h
      obtain ⟨nm, bs, mro, ns, qn, hd, sn, sub, ab, col, del⟩ := cd
      dsimp only at hm h3 h4
      have e1 := of_decide_eq_true h1
      have e2 := of_decide_eq_true h2
      have e3 : del = false := by simpa using h3
      subst hm e2 e3 h4
      have hsl : sl = #[k0, k1, k2, k3, some (.builtin "ValueError.__new__"), k5] := by
        obtain ⟨l⟩ := sl
        simp only at hs
        rw [hs]
      subst hsl
      rw [← e1] at ho ⊢
      exact ⟨nm, qn, ns, bs, bm, sn, sub, ab, col, dd, k0, k1, k2, k3, k5, ho, h5⟩
    · cases h
  · cases h
theorem oex_of {c : Str} {K : PySem.W.Frag} (h : oexB c K = true) : OexC K (He.ga K c) := by
  obtain ⟨h1, h⟩ := both h
  obtain ⟨h2, h⟩ := both h
  obtain ⟨h3, h⟩ := both h
  obtain ⟨h4, h5⟩ := both h
  exact ⟨oex_cls h1, He.eqO_ok h2, of_decide_eq_true h3, of_decide_eq_true h4, h5⟩
def erB (c : Str) : FB := fun K => oexB c K && (He.eqO (PySem.W.findIn K (.ref (He.ga K c)) "__init__") (some (some (.ref (He.ma K (He.ga K c) "__init__")))) && decide (PySem.W.typeIn K (.ref (He.ma K (He.ga K c) "__init__")) = some (.type "function")))
section
variable {P : Program} {w : World} {K : PySem.W.Frag} {mg : Str → Option Value} {base : Heap} {owns errs : List Str}
theorem er0_of {c qual : Str} {st : Stmt} {fd : FuncData} {pp : Pos} (hc : errs.contains c = true) (hm : mg c = some (.ref (He.ga K c))) (h : erB c K = true) (F : FunS K "__init__" qual st (He.ma K (He.ga K c) "__init__") fd) (S : FnScope ["self"] ["self"] (defScope st)) (hb : defBody st = [.Pass pp]) (bi : BindsS "__init__" qual st ["self"]) : Er0At P w K mg base (YYg owns errs K) c := by
  obtain ⟨h1, h⟩ := both h
  obtain ⟨h2, h3⟩ := both h
  exact ⟨_, _, fd, yy_er_of hc, hm, oex_of h1, He.eqO_ok h2, of_decide_eq_true h3, ok_init0 F.fun S hb, F.fun.binds bi⟩
theorem er1_of {c n qual : Str} {st : Stmt} {fd : FuncData} {p1 p2 p3 p4 : Pos} (hc : errs.contains c = true) (hm : mg c = some (.ref (He.ga K c))) (h : erB c K = true) (hno : (He.Fa.noat c n).ok K = true) (F : FunS K "__init__" qual st (He.ma K (He.ga K c) "__init__") fd) (S : FnScope ["self", n] ["self", n] (defScope st))
    (hb : defBody st = [.Assign [.Attribute (.Name "self" p1) n p2] (.Name n p3) p4]) (l1 : (defScope st).names.lookup ("self" : Str) = some NameKind.local) (l2 : (defScope st).names.lookup n = some NameKind.local) (bi : BindsS "__init__" qual st ["self", n]) (hd : (n == ("__debug__" : Str)) = false := by decide) (hcd : (n == ("__classdict__" : Str)) = false := by decide) : Er1At P w K mg base (YYg owns errs K) c n := by
  obtain ⟨h1, h⟩ := both h
  obtain ⟨h2, h3⟩ := both h
  exact ⟨_, _, fd, yy_er_of hc, hm, oex_of h1, He.eqO_ok h2, of_decide_eq_true h3, ok_init1 (oex_of h1) (He.noat_ok hno) F.fun S hb l1 l2 hd hcd, F.fun.binds bi⟩
end
def hdB (errs : List Str) (c : Str) (m : Str → Bool) : FB := fun K => errs.all fun q => decide (PySem.W.exmOne K (.ref (He.ga K q)) (.ref (He.ga K c)) = some (m q))
theorem hd_of {owns errs : List Str} {c : Str} {m : Str → Bool} {K : PySem.W.Frag} {mg : Str → Option Value} (hd : (c == ("__debug__" : Str)) = false) (hm : mg c = some (.ref (He.ga K c))) (h : hdB errs c m K = true) : HdAt K mg (YYg owns errs K) c m := by
  refine ⟨_, ⟨hd, .inl hm⟩, fun q cls hq => ?_⟩
  obtain ⟨h1, rfl⟩ := yy_er hq
  exact of_decide_eq_true (List.all_eq_true.mp h q h1)
def xfB (c f : Str) : FB := fun K => L2.xfB K (He.ga K c) && (He.Fa.noat c f).ok K
theorem xf_of {owns errs : List Str} {c f : Str} {K : PySem.W.Frag} (hc : errs.contains c = true) (h : xfB c f K = true) : XfAt K (YYg owns errs K) c f := by
  obtain ⟨h1, h2⟩ := both h
  exact ⟨_, yy_er_of hc, xfB_ok h1, He.noat_ok h2⟩
/-! ### the Hook -/
abbrev AlM : Type := He.AlD × Bool
def obsM (fa : List He.Fa) (fn : List He.DefD) (ex : List FB) (K : PySem.W.Frag) : AlM := (He.obsD fa fn K, ex.all fun b => b K)
def valM (fn : List He.DefD) : AlM := (He.valD fn, true)
def SaysM (fa : List He.Fa) (fn : List He.DefD) (ex : List FB) (K : PySem.W.Frag) : Prop := obsM fa fn ex K = valM fn
def obsMG (n : Nat) (fa : List He.Fa) (fn : List He.DefD) (ex : List FB) (g : Addr → Option Obj) : AlM := obsM fa fn ex (He.frG g (He.asD g n))
def hookM (n : Nat) (fa : List He.Fa) (fn : List He.DefD) (ex : List FB) : PySem.W.Hook where
  α := AlM
  obs := fun s => obsMG n fa fn ex s.heap.get?
  val := fun _ => valM fn
  says := fun _ h => ∃ K : PySem.W.Frag, K.In h ∧ SaysM fa fn ex K
  of := fun _ _ e => ⟨_, He.frG_in, e⟩
  keeps := fun _ _ _ ⟨K, inH, c⟩ k => ⟨K, PySem.W.Frag.In.keeps inH k, c⟩
theorem obsMG_eq {n : Nat} {fa : List He.Fa} {fn : List He.DefD} {ex : List FB} {g : Addr → Option Obj} {s : Shared} (h : ∀ a, g a = s.heap.get? a) : obsMG n fa fn ex g = (hookM n fa fn ex).obs s := by
  rw [show g = s.heap.get? from funext h] <;> rfl
section
variable {fa : List He.Fa} {fn : List He.DefD} {ex : List FB} {K : PySem.W.Frag}
theorem SaysM.d (c : SaysM fa fn ex K) : He.SaysD fa fn K := congrArg (fun z : AlM => z.1) c
theorem SaysM.x (c : SaysM fa fn ex K) (i : Nat) {b : FB} (h : ex[i]? = some b := by rfl) : b K = true :=
  List.all_eq_true.mp (show (ex.all fun b => b K) = true from congrArg (fun z : AlM => z.2) c) b (List.mem_of_getElem? h)
theorem SaysM.f (c : SaysM fa fn ex K) (i : Nat) {f : He.Fa} (h : fa[i]? = some f := by rfl) : f.ok K = true := c.d.fact i h
end
/-! ### the end -/
theorem only_rep {K : PySem.W.Frag} {H : Hp} {a : Addr} {ns : List Int} (ho : Only H) (h : SqL K H a (ns.map V.int)) : Fzl K H a (ns.map V.int) := by
  rcases h with (h | ⟨o, h⟩) | h
  · rcases ho a with e | ⟨o, xs, e⟩
    · rw [e] at h; cases h
    · rw [e] at h; cases h
  · exact .inl ⟨o, h⟩
  · exact .inr (.inr h)
theorem reps_ints {K : PySem.W.Frag} {ρ : List Addr} {H : Hp} : ∀ ns : List Int, Reps K ρ H (ns.map V.int) (ns.map Val.int)
  | [] => .nil
  | n :: r => .cons (.int n) (reps_ints r)
theorem walk_M {l : PySem.W.OpenLaw} {n k : Nat} {q : Program} {loose : List Str} {XP : (Str → Option Value) → Heap → Prop} {YP : World → Heap → Prop} {d : DefRec} {x : Str} {Y : PySem.W.Frag → Sy} {g : Fn}
    (hn : l.most = some n) (hn2 : n ≤ sizeLine) (hdf : d.params.defaults = []) (hr : Room k callerA)
    (F : ∀ (w : World) (mg : Str → Option Value) (fa : Addr) (h : Heap), YP w h → h.Ns mainGlobals mg → mg d.name = some (.ref fa) →
      ∃ (K : PySem.W.Frag) (fd : FuncData), K.In h ∧ (∀ (s : Shared) (u : Value), BindsTo s fd ⟨[u], []⟩ [(x, u)]) ∧ ∀ base : Heap, K.In base → base.Ns mainGlobals mg → FnOk l.prog w K mg base (L2.CX l.prog w) k fa fd [x] (spOf K (Y K) 1 g))
    (math : ∀ ns : List Int, ns.length ≤ n → ∃ S, g [.frz (ns.map Val.int)] [] = .ok (.bl true) S) : PySem.W.WalkO q loose XP YP l.row.toRowW d [] (fun f vs => PySem.call f vs) := by
  refine Att.attach_callB hn hdf fun w s0 s1 mg mb fa o pm cd doc a vs ns G Yh ho hd hcd hmg hobj hints hlen hbits hg => ?_
  obtain ⟨K, fd, inK, bd, ok⟩ := F w mg fa _ Yh G.T.g hmg
  refine law_call inK G.T.g G.T.b G.T.builtins G.T.nolimit hg hobj hints (Nat.le_trans hlen hn2) hr ok bd (fun H only sq => ?_) fun H e s' z => ?_
  · obtain ⟨S, em⟩ := math ns hlen
    refine ⟨rfl, [], [.frz (ns.map Val.int)], [], .cons (.frz (only_rep only sq) (reps_ints ns)) .nil, ⟨rfl, List.nodup_nil, fun i b u h _ => by simp at h⟩, ?_⟩
    rw [em]
    intro v ρ' H' _ _ _ r
    cases r
    rfl
  · obtain ⟨_, _, _, _, _, _, _, _, _, _, _, _, no⟩ := z
    exact no.elim
end Mp

set_option Elab.async false
set_option linter.all false
set_option maxRecDepth 100000
set_option maxHeartbeats 1000000
/-! What a meaning comes to: words about outcomes, one rule a combinator. -/
namespace Mp
open PySem PySem.Spec PyProof.Rows L2

abbrev XO := Str → List (Str × Val) → Store → Prop
abbrev noX : XO := fun _ _ _ => False
/-- a mark that what hangs behind is to stand as it is -/
abbrev KP {α : Type} (_ : α → Store → Prop) (_ : XO) : Type := Unit
abbrev KQ {α : Type} (_ : α → Prop) : Type := Unit
/-- the outcome is a value and a store of which P holds | an error of which E holds -/
def wO {α : Type} (o : Out α) (P : α → Store → Prop) (E : XO) (_ : KP P E := Unit.unit) : Prop := match o with
  | .ok x S => P x S
  | .err c fs S => E c fs S
  | .bad => False
/-- what an option holds -/
def wP {α : Type} (o : Option α) (Q : α → Prop) (_ : KQ Q := Unit.unit) : Prop := match o with
  | some x => Q x
  | none => False
structure RP where
  nx : En → Store → Prop
  rt : Val → Store → Prop
  bk : En → Store → Prop
  ct : En → Store → Prop
  er : Str → List (Str × Val) → En → Store → Prop
abbrev KR (_ : RP) : Type := Unit
def wR (r : Res) (P : RP) (_ : KR P := Unit.unit) : Prop := match r with
  | .nx e S => P.nx e S
  | .rt v S => P.rt v S
  | .bk e S => P.bk e S
  | .ct e S => P.ct e S
  | .er c fs e S => P.er c fs e S
  | .bad => False
@[simp] theorem wP_some {α : Type} {x : α} {Q : α → Prop} : wP (some x) Q = Q x := rfl
@[simp] theorem wP_none {α : Type} {Q : α → Prop} : wP none Q = False := rfl
theorem wP_of {α : Type} {o : Option α} {x : α} {Q : α → Prop} (e : o = some x) (h : Q x) : wP o Q := by rw [e]; exact h
theorem wP_ex {α : Type} {o : Option α} {Q : α → Prop} (h : wP o Q) : ∃ x, o = some x ∧ Q x := by
  cases o with
  | none => exact h.elim
  | some x => exact ⟨x, rfl, h⟩
def slot (env : En) (i : Nat) : Option Val := (env[i]?).bind id
@[simp] theorem slot_def {env : En} {i : Nat} : slot env i = (env[i]?).bind id := rfl
@[simp] def asB : Val → Option Bool
  | .bl b => some b
  | _ => none
@[simp] def asI : Val → Option Int
  | .int i => some i
  | _ => none
@[simp] def as1 : List Val → Option Val
  | [x] => some x
  | _ => none
@[simp] def as2 : List Val → Option (Val × Val)
  | [x, y] => some (x, y)
  | _ => none
@[simp] def asI1 : List Val → Option Int
  | [.int i] => some i
  | _ => none
@[simp] def asI2 : List Val → Option (Int × Int)
  | [.int i, .int j] => some (i, j)
  | _ => none
theorem wO.mono {α : Type} {o : Out α} {P P' : α → Store → Prop} {E E' : XO} (h : wO o P E) (hp : ∀ x S, P x S → P' x S) (he : ∀ c fs S, E c fs S → E' c fs S) : wO o P' E' := by
  cases o with
  | ok x S => exact hp x S h
  | err c fs S => exact he c fs S h
  | bad => exact h
theorem wO.imp {α : Type} {o : Out α} {P P' : α → Store → Prop} {E : XO} (h : wO o P noX) (hp : ∀ x S, P x S → P' x S) : wO o P' E := h.mono hp fun _ _ _ z => z.elim
theorem wO_of {α : Type} {o : Out α} {x : α} {S : Store} {P : α → Store → Prop} {E : XO} (e : o = .ok x S) (h : P x S) : wO o P E := by rw [e]; exact h
theorem wO_ok {α : Type} {o : Out α} {P : α → Store → Prop} (h : wO o P noX) : ∃ x S, o = .ok x S ∧ P x S := by
  cases o with
  | ok x S => exact ⟨x, S, rfl, h⟩
  | err c fs S => exact h.elim
  | bad => exact h.elim
theorem wR.mono {r : Res} {P P' : RP} (h : wR r P) (h1 : ∀ e S, P.nx e S → P'.nx e S) (h2 : ∀ v S, P.rt v S → P'.rt v S) (h3 : ∀ e S, P.bk e S → P'.bk e S) (h4 : ∀ e S, P.ct e S → P'.ct e S) (h5 : ∀ c fs e S, P.er c fs e S → P'.er c fs e S) : wR r P' := by
  cases r with
  | nx e S => exact h1 e S h
  | rt v S => exact h2 v S h
  | bk e S => exact h3 e S h
  | ct e S => exact h4 e S h
  | er c fs e S => exact h5 c fs e S h
  | bad => exact h
section
variable {α β : Type} {env : En} {S : Store} {E : XO} {P : α → Store → Prop} {Q : β → Store → Prop} {PV : Val → Store → Prop} {PB : Bool → Store → Prop} {PL : List Val → Store → Prop} {R : RP}
theorem wO_ext {o : Out α} {P P' : α → Store → Prop} (h : ∀ x S, P x S = P' x S) : wO o P E = wO o P' E := by
  obtain rfl : P = P' := by funext x S; exact h x S
  rfl
@[simp] theorem wO_okE {x : α} : wO (.ok x S) P E = P x S := rfl
@[simp] theorem wO_errE {c : Str} {fs : List (Str × Val)} : wO (α := α) (.err c fs S) P E = E c fs S := rfl
@[simp] theorem wO_badE : wO (α := α) .bad P E = False := rfl
@[simp] theorem wO_bind {o : Out α} {k : α → Store → Out β} : wO (o.bind k) Q E = wO o (fun x S1 => wO (k x S1) Q E) E := by cases o <;> rfl
@[simp] theorem wO_tie {o : Out α} {k : α → Store → Out β} : wO (o.tie k) Q E = wO o (fun x S1 => wO (k x S1) Q E) noX := by cases o <;> rfl
@[simp] theorem wR_toS {o : Out α} {k : α → Store → Res} : wR (o.toS env k) R = wO o (fun x S1 => wR (k x S1) R) (fun c fs S1 => R.er c fs env S1) := by cases o <;> rfl
@[simp] theorem wR_nx : wR (.nx env S) R = R.nx env S := rfl
@[simp] theorem wR_rt {v : Val} : wR (.rt v S) R = R.rt v S := rfl
@[simp] theorem wR_bk : wR (.bk env S) R = R.bk env S := rfl
@[simp] theorem wR_ct : wR (.ct env S) R = R.ct env S := rfl
@[simp] theorem wR_er {c : Str} {fs : List (Str × Val)} : wR (.er c fs env S) R = R.er c fs env S := rfl
@[simp] theorem wR_bad : wR .bad R = False := rfl
@[simp] theorem wO_eV {i : Nat} : wO (eV i env S) PV E = wP (slot env i) fun x => PV x S := by
  unfold eV slot
  cases h : env[i]? with
  | none => rfl
  | some o => cases o <;> rfl
@[simp] theorem wO_eC {x : Val} : wO (eC x env S) PV E = PV x S := rfl
@[simp] theorem wO_eB2 {op : BOp} {a b : En → Store → Out Val} : wO (eB2 op a b env S) PV E = wO (a env S) (fun x S1 => wO (b env S1) (fun y S2 => wO (op x y S2) PV E) E) E := wO_bind.trans (wO_ext fun _ _ => wO_bind)
@[simp] theorem wO_toB {v : Val} : wO (toB v S) PB E = wP (asB v) fun b => PB b S := by
  cases v <;> rfl
@[simp] theorem wO_bV {f : En → Store → Out Val} : wO (bV f env S) PB E = wO (f env S) (fun v S1 => wP (asB v) fun b => PB b S1) E := wO_bind.trans (wO_ext fun _ _ => wO_toB)
@[simp] theorem wO_bAnd {a b : En → Store → Out Bool} : wO (bAnd a b env S) PB E = wO (a env S) (fun x S1 => if x = true then wO (b env S1) PB E else PB false S1) E := by
  refine wO_bind.trans (wO_ext fun x S1 => ?_); cases x <;> rfl
@[simp] theorem wO_bOr {a b : En → Store → Out Bool} : wO (bOr a b env S) PB E = wO (a env S) (fun x S1 => if x = true then PB true S1 else wO (b env S1) PB E) E := by
  refine wO_bind.trans (wO_ext fun x S1 => ?_); cases x <;> rfl
@[simp] theorem wO_bNot {a : En → Store → Out Bool} : wO (bNot a env S) PB E = wO (a env S) (fun x S1 => PB (!x) S1) E := wO_bind
@[simp] theorem wO_eAnd {a b : En → Store → Out Val} : wO (eAnd a b env S) PV E = wO (a env S) (fun x S1 => wP (asB x) fun k => if k = true then wO (b env S1) PV E else PV (.bl false) S1) E := by
  refine wO_bind.trans (wO_ext fun x S1 => ?_); cases x <;> first | rfl | skip
  rename_i k; cases k <;> rfl
@[simp] theorem wO_eOr {a b : En → Store → Out Val} : wO (eOr a b env S) PV E = wO (a env S) (fun x S1 => wP (asB x) fun k => if k = true then PV (.bl true) S1 else wO (b env S1) PV E) E := by
  refine wO_bind.trans (wO_ext fun x S1 => ?_); cases x <;> first | rfl | skip
  rename_i k; cases k <;> rfl
@[simp] theorem wO_eNot {a : En → Store → Out Val} : wO (eNot a env S) PV E = wO (a env S) (fun x S1 => wP (asB x) fun k => PV (.bl (!k)) S1) E := by
  refine wO_bind.trans (wO_ext fun x S1 => ?_); cases x <;> rfl
@[simp] theorem wO_eIf {c : En → Store → Out Bool} {a b : En → Store → Out Val} : wO (eIf c a b env S) PV E = wO (c env S) (fun x S1 => if x = true then wO (a env S1) PV E else wO (b env S1) PV E) E := by
  refine wO_bind.trans (wO_ext fun x S1 => ?_); cases x <;> rfl
@[simp] theorem wO_aNil : wO (aNil env S) PL E = PL [] S := rfl
@[simp] theorem wO_aCons {f : En → Store → Out Val} {r : En → Store → Out (List Val)} : wO (aCons f r env S) PL E = wO (f env S) (fun x S1 => wO (r env S1) (fun xs S2 => PL (x :: xs) S2) E) E := wO_bind.trans (wO_ext fun _ _ => wO_bind)
@[simp] theorem wO_eTup {r : En → Store → Out (List Val)} : wO (eTup r env S) PV E = wO (r env S) (fun xs S1 => xs.length ≤ LIM ∧ PV (.tup xs) S1) E := by
  refine wO_bind.trans (wO_ext fun xs S1 => ?_); by_cases h : xs.length ≤ LIM <;> simp [h]
@[simp] theorem wO_eLst {r : En → Store → Out (List Val)} : wO (eLst r env S) PV E = wO (r env S) (fun xs S1 => xs.length ≤ LIM ∧ PV (.ref S1.length) (S1 ++ [.lst xs])) E := by
  refine wO_bind.trans (wO_ext fun xs S1 => ?_); by_cases h : xs.length ≤ LIM <;> simp [h]
@[simp] theorem wO_eDk : wO (eDk env S) PV E = PV (.ref S.length) (S ++ [.dk []]) := rfl
@[simp] theorem wO_eDt : wO (eDt env S) PV E = PV (.ref S.length) (S ++ [.dt []]) := rfl
@[simp] theorem wO_eNeg {a : En → Store → Out Val} : wO (eNeg a env S) PV E = wO (a env S) (fun x S1 => wP (asI x) fun i => PV (.int (-i)) S1) E := by
  refine wO_bind.trans (wO_ext fun x S1 => ?_); cases x <;> rfl
@[simp] theorem wO_eCall {g : Fn} {a : En → Store → Out (List Val)} : wO (eCall g a env S) PV E = wO (a env S) (fun xs S1 => wO (g xs S1) PV E) E := wO_bind
@[simp] theorem wO_eIsT {T : String} {f : En → Store → Out Val} : wO (eIsT T f env S) PV E = wO (f env S) (fun x S1 => wP (tyOf S1 x) fun t => t ∈ tyNames ∧ PV (.bl (subTy t T)) S1) E := by
  refine wO_bind.trans (wO_ext fun x S1 => ?_)
  split
  · rename_i t h; by_cases q : t ∈ tyNames <;> simp [h, q]
  · rename_i h; simp [h]
@[simp] theorem wO_pNo {PO : Option Int → Store → Prop} : wO (pNo env S) PO E = PO none S := rfl
@[simp] theorem wO_pSome {PO : Option Int → Store → Prop} {f : En → Store → Out Val} : wO (pSome f env S) PO E = wO (f env S) (fun x S1 => wP (asI x) fun i => PO (some i) S1) E := by
  refine wO_bind.trans (wO_ext fun x S1 => ?_); cases x <;> rfl
@[simp] theorem wO_eSl {f : En → Store → Out Val} {l h : En → Store → Out (Option Int)} : wO (eSl f l h env S) PV E = wO (f env S) (fun x S1 => wO (l env S1) (fun lo S2 => wO (h env S2) (fun hi S3 => wO (vSl x lo hi S3) PV E) E) E) E := wO_bind.trans (wO_ext fun _ _ => wO_bind.trans (wO_ext fun _ _ => wO_bind))
/-! ### statements -/
@[simp] theorem wR_sNil : wR (sNil env S) R = R.nx env S := rfl
@[simp] theorem wR_sBrk : wR (sBrk env S) R = R.bk env S := rfl
@[simp] theorem wR_sCt : wR (sCt env S) R = R.ct env S := rfl
@[simp] theorem wR_sSeq {g h : En → Store → Res} : wR (sSeq g h env S) R = wR (g env S) { R with nx := fun e S1 => wR (h e S1) R } := by
  simp only [sSeq]; cases g env S <;> rfl
@[simp] theorem wR_sExpr {f : En → Store → Out Val} : wR (sExpr f env S) R = wO (f env S) (fun _ S1 => R.nx env S1) (fun c fs S1 => R.er c fs env S1) := wR_toS
@[simp] theorem wR_sRet {f : En → Store → Out Val} : wR (sRet f env S) R = wO (f env S) (fun v S1 => R.rt v S1) (fun c fs S1 => R.er c fs env S1) := wR_toS
@[simp] theorem wR_sRetN : wR (sRetN env S) R = R.rt .non S := rfl
@[simp] theorem wR_sIf {c : En → Store → Out Bool} {g h : En → Store → Res} : wR (sIf c g h env S) R = wO (c env S) (fun b S1 => if b = true then wR (g env S1) R else wR (h env S1) R) (fun c fs S1 => R.er c fs env S1) := by
  refine wR_toS.trans (wO_ext fun b S1 => ?_); cases b <;> rfl
@[simp] theorem wR_sAsg {f : En → Store → Out Val} {t : Tgt} : wR (sAsg f t env S) R = wO (f env S) (fun x S1 => wP (t x env) fun e => R.nx e S1) (fun c fs S1 => R.er c fs env S1) := by
  refine wR_toS.trans (wO_ext fun x S1 => ?_)
  split <;> rename_i h <;> simp [h]
@[simp] theorem gN_ap {i : Nat} {x : Val} : gN i x env = some (env.set i (some x)) := rfl
@[simp] theorem gNo_ap : gNo [] env = some env := rfl
@[simp] theorem gCo_ap {t : Tgt} {u : Tgts} {x : Val} {r : List Val} : gCo t u (x :: r) env = (t x env).bind fun e => u r e := rfl
@[simp] theorem wR_sPar {i j : Nat} {r : En → Store → Out (List Val)} : wR (sPar i j r env S) R = wO (r env S) (fun xs S1 => wP (as2 xs) fun p => R.nx ((env.set i (some p.1)).set j (some p.2)) S1) (fun c fs S1 => R.er c fs env S1) := by
  refine wR_toS.trans (wO_ext fun xs S1 => ?_)
  match xs with
  | [] => rfl
  | [_] => rfl
  | [x, y] => rfl
  | _ :: _ :: _ :: _ => rfl
@[simp] theorem wR_sPutIx {f fo fi : En → Store → Out Val} : wR (sPutIx f fo fi env S) R = wO (f env S) (fun v S1 => wO (fo env S1) (fun d S2 => wO (fi env S2) (fun i S3 => wP (putIx d i v S3) fun S4 => R.nx env S4) fun c fs S1 => R.er c fs env S1) fun c fs S1 => R.er c fs env S1) (fun c fs S1 => R.er c fs env S1) := by
  refine wR_toS.trans (wO_ext fun v S1 => wR_toS.trans (wO_ext fun d S2 => wR_toS.trans (wO_ext fun i S3 => ?_)))
  unfold kPutIx
  cases putIx d i v S3 <;> rfl
@[simp] theorem wR_sRaise0 {c : Str} : wR (sRaise0 c env S) R = R.er c [] env S := rfl
@[simp] theorem wR_sRaise1 {c n : Str} {f : En → Store → Out Val} : wR (sRaise1 c n f env S) R = wO (f env S) (fun x S1 => R.er c [(n, x)] env S1) (fun c fs S1 => R.er c fs env S1) := wR_toS
theorem wO_fnB {N n : Nat} {g : En → Store → Res} {xs : List Val} {E : XO} (h : xs.length = n) : wO (fnB N n g xs S) PV E = wR (g (xs.map some ++ List.replicate (N - n) none) S) ⟨fun _ S1 => PV .non S1, PV, fun _ _ => False, fun _ _ => False, fun c fs _ S1 => E c fs S1⟩ := by
  unfold fnB
  rw [if_pos h]
  cases g (xs.map some ++ List.replicate (N - n) none) S <;> rfl
/-! ### walks -/
theorem wR_forX {ck : Store → Prop} {t : Tgt} {g : En → Store → Res} (xs : List Val) (I : Nat → En → Store → Prop) (h0 : I 0 env S)
    (hs : ∀ i x e S, xs[i]? = some x → I i e S → ck S ∧ ∃ e1, t x e = some e1 ∧ wR (g e1 S) ⟨I (i + 1), R.rt, R.nx, I (i + 1), R.er⟩) (hn : ∀ e S, I xs.length e S → ck S ∧ R.nx e S) : wR (forX ck t g xs env S) R := by
  induction xs generalizing env S I with
  | nil =>
    obtain ⟨h1, h2⟩ := hn env S h0
    simp only [forX, if_pos h1]
    exact h2
  | cons x r ih =>
    obtain ⟨h1, e1, h2, h3⟩ := hs 0 x env S rfl h0
    simp only [forX, if_pos h1, h2]
    have next : ∀ e S, I 1 e S → wR (forX ck t g r e S) R := fun e S hI => ih (fun i => I (i + 1)) hI (fun i x e S hx hI => hs (i + 1) x e S hx hI) (fun e S hI => hn e S hI)
    cases hg : g e1 S with
    | nx e2 S2 => rw [hg] at h3; exact next e2 S2 h3
    | ct e2 S2 => rw [hg] at h3; exact next e2 S2 h3
    | bk e2 S2 => rw [hg] at h3; exact h3
    | rt v S2 => rw [hg] at h3; exact h3
    | er c fs e2 S2 => rw [hg] at h3; exact h3
    | bad => rw [hg] at h3; exact h3
theorem wR_sFor {fi : En → Store → Out Itm} {t : Tgt} {g : En → Store → Res} : wR (sFor fi t g env S) R = wO (fi env S) (fun p S1 => wR (forX p.2 t g p.1 env S1) R) (fun c fs S1 => R.er c fs env S1) := wR_toS
variable {PI : Itm → Store → Prop}
@[simp] theorem wO_iSeq {f : En → Store → Out Val} : wO (iSeq f env S) PI E = wO (f env S) (fun x S1 => wP (walkOf S1 x) fun p => PI p S1) E := by
  refine wO_bind.trans (wO_ext fun x S1 => ?_)
  split <;> rename_i h <;> simp [h]
@[simp] theorem wO_iEnS {f : En → Store → Out (List Val)} : wO (iEnS f env S) PI E = wO (f env S) (fun xs S1 => wP (as1 xs) fun x => wP (walkOf S1 x) fun p => PI (enumOf p) S1) E := by
  refine wO_bind.trans (wO_ext fun xs S1 => ?_)
  match xs with
  | [] => rfl
  | [x] =>
    dsimp only [as1, wP_some]
    cases walkOf S1 x <;> rfl
  | _ :: _ :: _ => rfl
@[simp] theorem wO_iR1 {f : En → Store → Out (List Val)} : wO (iR1 f env S) PI E = wO (f env S) (fun xs S1 => wP (asI1 xs) fun j => (-RNG ≤ j ∧ j < RNG) ∧ PI (upL 0 j.toNat, fun _ => True) S1) E := by
  refine wO_bind.trans (wO_ext fun xs S1 => ?_)
  unfold k1R
  split
  · rename_i j
    simp only [asI1, wP_some]
    by_cases h : -RNG ≤ j ∧ j < RNG
    · rw [if_pos h]; exact propext ⟨fun z => ⟨h, z⟩, fun z => z.2⟩
    · rw [if_neg h]; exact propext ⟨fun z => z.elim, fun z => h z.1⟩
  · rename_i h
    have e : asI1 xs = none := by unfold asI1; split <;> first | rfl | (exfalso; exact h _ rfl)
    rw [e]; rfl
@[simp] theorem wO_iR2 {f : En → Store → Out (List Val)} : wO (iR2 f env S) PI E = wO (f env S) (fun xs S1 => wP (asI2 xs) fun p => ((-RNG ≤ p.1 ∧ p.1 < RNG) ∧ -RNG ≤ p.2 ∧ p.2 < RNG) ∧ PI (upL p.1 (p.2 - p.1).toNat, fun _ => True) S1) E := by
  refine wO_bind.trans (wO_ext fun xs S1 => ?_)
  unfold k2R
  split
  · rename_i i j
    simp only [asI2, wP_some]
    by_cases h : (-RNG ≤ i ∧ i < RNG) ∧ -RNG ≤ j ∧ j < RNG
    · rw [if_pos h]; exact propext ⟨fun z => ⟨h, z⟩, fun z => z.2⟩
    · rw [if_neg h]; exact propext ⟨fun z => z.elim, fun z => h z.1⟩
  · rename_i h
    have e : asI2 xs = none := by unfold asI2; split <;> first | rfl | (exfalso; exact h _ _ rfl)
    rw [e]; rfl
def fldOf (cs : List Str) (f : Str) (o : Option (Str × List (Str × Val))) : Option Val := o.bind fun p => if p.1 ∈ cs then p.2.lookup f else none
@[simp] theorem wO_eFld {cs : List Str} {f : Str} {g : En → Store → Out Val} : wO (eFld cs f g env S) PV E = wO (g env S) (fun x S1 => wP (fldOf cs f (insOf S1 x)) fun v => PV v S1) E := by
  refine wO_bind.trans (wO_ext fun x S1 => ?_)
  cases h : insOf S1 x with
  | none => rfl
  | some p =>
    obtain ⟨c, fs⟩ := p
    simp only [fldOf, Option.bind_some]
    by_cases q : c ∈ cs
    · rw [if_pos q, if_pos q]
      cases fs.lookup f <;> rfl
    · rw [if_neg q, if_neg q]; rfl
end
end Mp

set_option Elab.async false
set_option linter.all false
set_option maxRecDepth 100000
set_option maxHeartbeats 1000000
/-! .. and of operators, built-ins, stores. -/
namespace Mp
open PySem PySem.Spec PyProof.Rows L2
@[simp] theorem atI_lit {α : Type} {xs : List α} {k : Nat} : atI xs (no_index (OfNat.ofNat k : Int)) = xs[k]? := by
  have e : atI xs ((k : Nat) : Int) = xs[k]? := by
    cases h : xs[k]? with
    | some v => exact atI_nat h
    | none =>
      have hl := List.getElem?_eq_none_iff.mp h
      unfold atI ixN
      rw [if_pos (by omega), if_neg (by omega)]
      rfl
  exact e
@[simp] theorem atI_cast {α : Type} {xs : List α} {k : Nat} : atI xs (k : Int) = xs[k]? := atI_lit (k := k)
@[simp] theorem atI_zero {α : Type} {xs : List α} : atI xs 0 = xs[0]? := atI_lit (k := 0)
@[simp] theorem atI_one {α : Type} {xs : List α} : atI xs 1 = xs[1]? := atI_lit (k := 1)
section
variable {S : Store} {E : XO} {P : Val → Store → Prop} {i j : Int} {n : Nat} {xs ys : List Val} {v x y : Val}
@[simp] theorem wO_addI : wO (vAdd (.int i) (.int j) S) P E = P (.int (i + j)) S := rfl
@[simp] theorem wO_addT : wO (vAdd (.tup xs) (.tup ys) S) P E = (xs.length + ys.length ≤ LIM ∧ P (.tup (xs ++ ys)) S) := by
  simp only [vAdd]; by_cases h : xs.length + ys.length ≤ LIM <;> simp [h]
@[simp] theorem wO_addL {m : Nat} (h1 : S[n]? = some (.lst xs)) (h2 : S[m]? = some (.lst ys)) : wO (vAdd (.ref n) (.ref m) S) P E = (xs.length + ys.length ≤ LIM ∧ P (.ref S.length) (S ++ [.lst (xs ++ ys)])) := by
  simp only [vAdd, h1, h2]; by_cases h : xs.length + ys.length ≤ LIM <;> simp [h]
@[simp] theorem wO_vI2 {g : Int → Int → Val} : wO (vI2 g (.int i) (.int j) S) P E = P (g i j) S := rfl
@[simp] theorem wO_vIC {C : Int → Int → Prop} [∀ i j, Decidable (C i j)] {g : Int → Int → Int} : wO (vIC C g (.int i) (.int j) S) P E = (C i j ∧ P (.int (g i j)) S) := by
  simp only [vIC]; by_cases h : C i j <;> simp [h]
@[simp] theorem wO_ordI {g : Int → Int → Bool} {t : List Int → List Int → Bool} : wO (vOrd g t (.int i) (.int j) S) P E = P (.bl (g i j)) S := rfl
@[simp] theorem wO_ordT {g : Int → Int → Bool} {t : List Int → List Int → Bool} : wO (vOrd g t (.tup xs) (.tup ys) S) P E = wP (intsOf xs) fun ns => wP (intsOf ys) fun ms => P (.bl (t ns ms)) S := by
  simp only [vOrd]
  cases intsOf xs <;> cases intsOf ys <;> rfl
@[simp] theorem wO_is : wO (vIs x y S) P E = wP (isV x y) fun k => P (.bl k) S := by
  unfold vIs; cases isV x y <;> rfl
@[simp] theorem wO_isN : wO (vIsN x y S) P E = wP (isV x y) fun k => P (.bl (!k)) S := by
  unfold vIsN; cases isV x y <;> rfl
@[simp] theorem wO_eq : wO (vEq x y S) P E = wP (eqv1 S x y) fun k => P (.bl k) S := by
  unfold vEq; cases eqv1 S x y <;> rfl
@[simp] theorem wO_ne : wO (vNe x y S) P E = wP (eqv1 S x y) fun k => P (.bl (!k)) S := by
  unfold vNe; cases eqv1 S x y <;> rfl
@[simp] theorem eqv1_int : eqv1 S (.int i) (.int j) = some (decide (i = j)) := by
  have h1 : SeqAt.shaped (.int i) = true := rfl
  have h2 : SeqAt.shaped (.int j) = true := rfl
  simp only [eqv1, toD1, toD, Option.bind_some, h1, h2, and_self, if_true, PyData.eqv]
  rfl
@[simp] def ixR (o : Option Ob) (i : Int) : Option Val := match o with
  | some (.lst xs) => atI xs i
  | some (.dk kvs) => lookK kvs (.inl i)
  | _ => none
@[simp] def ixRT (o : Option Ob) (ys : List Val) : Option Val := match o with
  | some (.dt kvs) => (keysOf ys).bind fun k => lookK kvs k
  | _ => none
@[simp] theorem wO_ixR : wO (vIx (.ref n) (.int i) S) P E = wP (ixR S[n]? i) fun z => P z S := by
  unfold vIx
  cases h : S[n]? with
  | none => simp [dLook, itemsOf, getL, h]
  | some o =>
    cases o with
    | lst xs => simp only [dLook, itemsOf, getL, h, ixR]; cases e : atI xs i <;> simp
    | dk kvs => simp only [dLook, h, keyOf, Option.map_some, ixR]; cases e : lookK kvs (.inl i) <;> simp
    | dt kvs => simp [dLook, itemsOf, getL, h, tkeyOf]
    | ins c fs => simp [dLook, itemsOf, getL, h]
    | exo c fs => simp [dLook, itemsOf, getL, h]
@[simp] theorem wO_ixRT : wO (vIx (.ref n) (.tup ys) S) P E = wP (ixRT S[n]? ys) fun z => P z S := by
  unfold vIx
  cases h : S[n]? with
  | none => simp [dLook, itemsOf, getL, h]
  | some o =>
    cases o with
    | lst xs => simp [dLook, itemsOf, getL, h]
    | dk kvs => simp [dLook, itemsOf, getL, h, keyOf]
    | dt kvs =>
      simp only [dLook, h, tkeyOf, ixRT]
      cases e : keysOf ys with
      | none => simp [itemsOf, getL, h]
      | some k => simp only [Option.map_some, Option.bind_some]; cases e2 : lookK kvs k <;> simp
    | ins c fs => simp [dLook, itemsOf, getL, h]
    | exo c fs => simp [dLook, itemsOf, getL, h]
@[simp] theorem wO_ixT : wO (vIx (.tup xs) (.int i) S) P E = wP (atI xs i) fun z => P z S := by
  simp only [vIx, dLook, itemsOf]; cases e : atI xs i <;> simp
@[simp] theorem wO_ixF : wO (vIx (.frz xs) (.int i) S) P E = wP (atI xs i) fun z => P z S := by
  simp only [vIx, dLook, itemsOf, getL]; cases e : atI xs i <;> simp
@[simp] def lenR (S : Store) (x : Val) : Option Nat := match x with
  | .str z => if z.length ≤ LIM then some z.length else none
  | .tup xs => some xs.length
  | .frz xs => some xs.length
  | .ref n => (match S[n]? with
    | some (.lst xs) => some xs.length
    | some (.dk xs) => some xs.length
    | _ => none)
  | _ => none
@[simp] theorem wO_len : wO (fLen [x] S) P E = wP (lenR S x) fun k => P (.int (k : Nat)) S := by
  cases x with
  | str z => simp only [fLen, lenR]; by_cases h : z.length ≤ LIM <;> simp [h]
  | ref n =>
    simp only [fLen, lenR]
    cases h : S[n]? with
    | none => rfl
    | some o => cases o <;> rfl
  | _ => rfl
@[simp] theorem wO_fInt : wO (fInt [.int i] S) P E = P (.int i) S := rfl
@[simp] theorem wO_fList : wO (fList [x] S) P E = wP (itemsOf S x) fun xs => P (.ref S.length) (S ++ [.lst xs]) := by
  simp only [fList]; cases itemsOf S x <;> rfl
@[simp] theorem wO_fTuple : wO (fTuple [x] S) P E = wP (itemsOf S x) fun xs => P (.tup xs) S := by
  simp only [fTuple]; cases itemsOf S x <;> rfl
@[simp] theorem itemsOf_tup : itemsOf S (.tup xs) = some xs := rfl
@[simp] theorem itemsOf_frz : itemsOf S (.frz xs) = some xs := rfl
@[simp] theorem itemsOf_ref : itemsOf S (.ref n) = match S[n]? with | some (.lst xs) => some xs | _ => none := rfl
@[simp] theorem getL_ref : getL S (.ref n) = match S[n]? with | some (.lst xs) => some xs | _ => none := rfl
@[simp] theorem walkOf_tup : walkOf S (.tup xs) = some (xs, fun _ => True) := rfl
@[simp] theorem wO_min2 : wO (fMin2 [.int i, .int j] S) P E = P (.int (min i j)) S := by
  have e : (if j < i then j else i) = min i j := by split <;> omega
  show P (.int (if j < i then j else i)) S = _
  rw [e]
@[simp] theorem wO_max2 : wO (fMax2 [.int i, .int j] S) P E = P (.int (max i j)) S := by
  have e : (if j > i then j else i) = max i j := by split <;> omega
  show P (.int (if j > i then j else i)) S = _
  rw [e]
@[simp] theorem wO_slT {lo hi : Option Int} : wO (vSl (.tup xs) lo hi S) P E = P (.tup (cutL xs lo hi)) S := rfl
@[simp] theorem putIx_ref : putIx (.ref n) x v S = match S[n]? with
    | some (.lst xs) => (match x with
      | .int j => (ixN xs.length j).map fun m => S.set n (.lst (xs.set m v))
      | _ => none)
    | some (.dk kvs) => (keyOf x).bind fun k => if kvs.length < LIM then some (S.set n (.dk (putD kvs k v))) else none
    | some (.dt kvs) => (tkeyOf x).bind fun k => if kvs.length < LIM then some (S.set n (.dt (putD kvs k v))) else none
    | _ => none := by
  cases h : S[n]? with
  | none => simp only [putIx, h]
  | some o =>
    cases o with
    | lst xs => cases x <;> simp only [putIx, h]
    | _ => simp only [putIx, h]
@[simp] theorem ixN_lit {m k : Nat} : ixN m (no_index (OfNat.ofNat k : Int)) = if k < m then some k else none := by
  show ixN m ((k : Nat) : Int) = _
  unfold ixN
  by_cases h : k < m
  · rw [if_pos (by omega), if_pos (by omega), if_pos h]; rfl
  · rw [if_pos (by omega), if_neg (by omega), if_neg h]
@[simp] theorem ixN_cast {m k : Nat} : ixN m (k : Int) = if k < m then some k else none := ixN_lit (k := k)
@[simp] theorem ixN_zero {m : Nat} : ixN m 0 = if 0 < m then some 0 else none := ixN_lit (k := 0)
@[simp] theorem ixN_one {m : Nat} : ixN m 1 = if 1 < m then some 1 else none := ixN_lit (k := 1)
/-- list methods -/
@[simp] def refL (S : Store) (x : Val) : Option (Nat × List Val) := match x with
  | .ref n => (match S[n]? with
    | some (.lst xs) => some (n, xs)
    | _ => none)
  | _ => none
@[simp] theorem wO_eLm {g : Lm} {fo : En → Store → Out Val} {ga : En → Store → Out (List Val)} {env : En} : wO (eLm g fo ga env S) P E = wO (fo env S) (fun x S1 => wP (refL S1 x) fun _ => wO (ga env S1) (fun ys S2 => wP (refL S2 x) fun p => wO (g p.1 p.2 ys S2) P E) E) E := by
  refine wO_bind.trans (wO_ext fun x S1 => ?_)
  cases x with
  | ref n =>
    simp only [lmA, refL]
    cases h : S1[n]? with
    | none => rfl
    | some o =>
      cases o with
      | lst zs =>
        refine wO_bind.trans (wO_ext fun ys S2 => ?_)
        unfold lmK
        cases h2 : S2[n]? with
        | none => rfl
        | some o2 => cases o2 <;> rfl
      | _ => rfl
  | _ => rfl
@[simp] theorem wO_lAppend : wO (lAppend n xs [y] S) P E = (xs.length < LIM ∧ P .non (S.set n (.lst (xs ++ [y])))) := by
  simp only [lAppend]; by_cases h : xs.length < LIM <;> simp [h]
end
theorem cm_ok {i j : Int} (h1 : i.natAbs < 2 ^ 64) (h2 : j.natAbs < 2 ^ 64) : CM i j := by
  have : (2 : Nat) ^ 64 ≤ 2 ^ 2000 := Nat.pow_le_pow_right (by decide) (by decide)
  exact ⟨by omega, by omega⟩
end Mp

set_option Elab.async false
set_option linter.all false
set_option maxRecDepth 100000
set_option maxHeartbeats 1000000
/-! Rows of ints, sorted; comprehensions without an effect; dicts. -/
namespace Mp
open PySem PySem.Spec PyProof.Rows L2
def tI (ns : List Int) : Val := .tup (ns.map .int)
theorem toDs_ints : ∀ ns : List Int, toDs (ns.map .int) = some (ns.map .int)
  | [] => rfl
  | n :: r => by
    show (toD (.int n)).bind (fun d => (toDs (r.map .int)).map fun ds => d :: ds) = _
    rw [toDs_ints r]
    rfl
theorem toD_tI (ns : List Int) : toD (tI ns) = some (.tuple (ns.map .int)) := by
  show (toDs (ns.map .int)).map PyData.tuple = _
  rw [toDs_ints]; rfl
theorem toDs_rows : ∀ K : List (List Int), toDs (K.map tI) = some (K.map fun ns => .tuple (ns.map .int))
  | [] => rfl
  | ns :: r => by
    show (toD (tI ns)).bind (fun d => (toDs (r.map tI)).map fun ds => d :: ds) = _
    rw [toDs_rows r, toD_tI]
    rfl
theorem alikeAll_ints : ∀ ns ms : List Int, PySem.W.alikeAll (ns.map .int) (ms.map .int) = true
  | [], _ => by unfold PySem.W.alikeAll; rfl
  | _ :: _, [] => by unfold PySem.W.alikeAll; rfl
  | n :: ns, m :: ms => by
    show PySem.W.alikeAll (.int n :: ns.map .int) (.int m :: ms.map .int) = true
    unfold PySem.W.alikeAll
    rw [alikeAll_ints ns ms]
    rfl
theorem lt_tup_list (xs ys : List PyData) : PySem.W.dataLt (.tuple xs) (.tuple ys) = PySem.W.dataLt (.list xs) (.list ys) := by
  simp only [PySem.W.dataLt, PySem.W.keyToks]
theorem leV_tI (a b : List Int) : leV (tI a) (tI b) = decide (a ≤ b) := by
  have h : (!PySem.W.dataLt (.list (b.map .int)) (.list (a.map .int))) = decide (a ≤ b) := congrFun (congrFun (PySem.W.dataLe_rows (fun x : List Int => x)) a) b
  have e1 : dOf (tI a) = .tuple (a.map .int) := dOf_of (toD_tI a)
  have e2 : dOf (tI b) = .tuple (b.map .int) := dOf_of (toD_tI b)
  show (!PySem.W.dataLt (dOf (tI b)) (dOf (tI a))) = _
  rw [e1, e2, lt_tup_list, h]
theorem leV_int (a b : Int) : leV (.int a) (.int b) = decide (a ≤ b) := by
  have h := congrFun (congrFun (PySem.W.dataLe_int (fun x : Int => x)) a) b
  rw [← h]
  rfl
theorem depthAll_ints : ∀ ns : List Int, PyData.depthAll (ns.map PyData.int) = 0
  | [] => by simp [PyData.depthAll]
  | n :: r => by
    show PyData.depthAll (.int n :: r.map PyData.int) = 0
    simp [PyData.depthAll, PyData.depth, depthAll_ints r]
theorem fSorted_rows {S : Store} {l : Nat} {K : List (List Int)} {P : Val → Store → Prop} {E : XO} (hl : S[l]? = some (.lst (K.map tI))) (hne : ∀ k ∈ K, k ≠ []) (hz : K.length ≤ LIM) :
    wO (fSorted [.ref l] S) P E = P (.ref S.length) (S ++ [.lst ((K.mergeSort fun a b => decide (a ≤ b)).map tI)]) := by
  have c : (∃ ds, toDs (K.map tI) = some ds ∧ PySem.W.AllAlike ds ∧ PySem.W.Sortable ds ∧ ∀ d ∈ ds, d.depth ≤ 64) ∧ (K.map tI).length ≤ LIM := by
    refine ⟨⟨_, toDs_rows K, fun d hd d' hd' => ?_, .inl fun d hd => ?_, fun d hd => ?_⟩, by rw [List.length_map]; exact hz⟩
    · obtain ⟨a, _, rfl⟩ := List.mem_map.mp hd
      obtain ⟨b, _, rfl⟩ := List.mem_map.mp hd'
      show PySem.W.alike (.tuple (a.map .int)) (.tuple (b.map .int)) = true
      unfold PySem.W.alike
      exact alikeAll_ints a b
    · obtain ⟨a, ha, rfl⟩ := List.mem_map.mp hd
      cases a with
      | nil => exact absurd rfl (hne _ ha)
      | cons x r => exact ⟨.int x, r.map .int, rfl⟩
    · obtain ⟨a, _, rfl⟩ := List.mem_map.mp hd
      show (PyData.tuple (a.map .int)).depth ≤ 64
      simp [PyData.depth, depthAll_ints]
  simp only [fSorted, getL_ref, hl, if_pos c, wO_okE]
  rw [List.map_mergeSort (r := fun a b => decide (a ≤ b)) (s := leV) (f := tI) fun a _ b _ => (leV_tI a b).symm]
theorem fSorted_ints {S : Store} {l : Nat} {K : List Int} {P : Val → Store → Prop} {E : XO} (hl : S[l]? = some (.lst (K.map .int))) (hz : K.length ≤ LIM) :
    wO (fSorted [.ref l] S) P E = P (.ref S.length) (S ++ [.lst ((K.mergeSort fun a b => decide (a ≤ b)).map .int)]) := by
  have c : (∃ ds, toDs (K.map .int) = some ds ∧ PySem.W.AllAlike ds ∧ PySem.W.Sortable ds ∧ ∀ d ∈ ds, d.depth ≤ 64) ∧ (K.map Val.int).length ≤ LIM := by
    refine ⟨⟨_, toDs_ints K, fun d hd d' hd' => ?_, .inr fun d hd => ?_, fun d hd => ?_⟩, by rw [List.length_map]; exact hz⟩
    · obtain ⟨a, _, rfl⟩ := List.mem_map.mp hd
      obtain ⟨b, _, rfl⟩ := List.mem_map.mp hd'
      simp [PySem.W.alike]
    · obtain ⟨a, ha, rfl⟩ := List.mem_map.mp hd
      exact ⟨fun z => (by cases z), fun xs z => (by cases z)⟩
    · obtain ⟨a, ha, rfl⟩ := List.mem_map.mp hd
      simp [PyData.depth]
  simp only [fSorted, getL_ref, hl, if_pos c, wO_okE]
  rw [List.map_mergeSort (r := fun a b => decide (a ≤ b)) (s := leV) (f := Val.int) fun a _ b _ => (leV_int a b).symm]

/-! ### comprehensions without an effect -/
theorem lc_pure {ck : Store → Prop} {t : Tgt} {tst : En → Store → Out Bool} {el : En → Store → Out Val} {env : En} {S0 : Store} (p : Val → Bool) (f : Val → Val) : ∀ (xs acc : List Val), acc.length + xs.length ≤ LIM →
    (∀ l, ck (S0 ++ [.lst l])) → (∀ x ∈ xs, ∀ l, ∃ e, t x env = some e ∧ tst e (S0 ++ [.lst l]) = .ok (p x) (S0 ++ [.lst l]) ∧ (p x = true → el e (S0 ++ [.lst l]) = .ok (f x) (S0 ++ [.lst l]))) →
    lcX ck t tst el S0.length env xs acc (S0 ++ [.lst acc]) = .ok (.ref S0.length) (S0 ++ [.lst (acc ++ (xs.filter p).map f)])
  | [], acc, _, hc, _ => by
    simp only [lcX, if_pos (hc acc), List.filter_nil, List.map_nil, List.append_nil]
  | x :: r, acc, hl, hc, h => by
    obtain ⟨e, e1, e2, e3⟩ := h x (List.mem_cons_self ..) acc
    rw [List.length_cons] at hl
    simp only [lcX, if_pos (hc acc), e1, e2, Out.tie]
    have ih := fun acc' => lc_pure (ck := ck) (S0 := S0) (t := t) (tst := tst) (el := el) (env := env) p f r acc'
    cases q : p x with
    | false =>
      simp only [Bool.false_eq_true, if_false]
      rw [ih acc (by omega) hc fun y hy => h y (List.mem_cons_of_mem _ hy), List.filter_cons_of_neg (by simp [q])]
    | true =>
      have at_ : (S0 ++ [Ob.lst acc])[S0.length]? = some (.lst acc) := by simp
      have put : (S0 ++ [Ob.lst acc]).set S0.length (.lst (acc ++ [f x])) = S0 ++ [.lst (acc ++ [f x])] := by
        rw [List.set_append_right _ _ (Nat.le_refl _)]
        simp
      have hlt : acc.length < LIM := by omega
      simp only [if_true, e3 q, Out.tie, at_, hlt, and_self, put]
      rw [ih (acc ++ [f x]) (by simp; omega) hc fun y hy => h y (List.mem_cons_of_mem _ hy), List.filter_cons_of_pos q]
      simp
/-- as an expression -/
theorem wO_lc {fi : En → Store → Out Itm} {t : Tgt} {tst : En → Store → Out Bool} {el : En → Store → Out Val} {vs : List Nat} {env : En} {S : Store} {P : Val → Store → Prop} {E : XO} :
    wO (eLc fi t tst el vs env S) P E = wO (fi env S) (fun p S1 => wO (lcX p.2 t tst el S1.length (wipeE env vs) p.1 [] (S1 ++ [.lst []])) P E) E := wO_bind
theorem wO_lcP {ck : Store → Prop} {t : Tgt} {tst : En → Store → Out Bool} {el : En → Store → Out Val} {env : En} {S0 : Store} {P : Val → Store → Prop} {E : XO} {xs : List Val} (p : Val → Bool) (f : Val → Val) (hl : xs.length ≤ LIM) (hc : ∀ l, ck (S0 ++ [.lst l]))
    (h : ∀ x ∈ xs, ∀ l, ∃ e, t x env = some e ∧ tst e (S0 ++ [.lst l]) = .ok (p x) (S0 ++ [.lst l]) ∧ (p x = true → el e (S0 ++ [.lst l]) = .ok (f x) (S0 ++ [.lst l]))) (hP : P (.ref S0.length) (S0 ++ [.lst ((xs.filter p).map f)])) :
    wO (lcX ck t tst el S0.length env xs [] (S0 ++ [.lst []])) P E := by
  rw [lc_pure p f xs [] (by simpa using hl) hc h]
  simpa using hP
/-! ### dicts -/
theorem putD_keys {κ : Type} [DecidableEq κ] {kvs : List (κ × Val)} {k : κ} {v : Val} : (putD kvs k v).map (·.1) = if k ∈ kvs.map (·.1) then kvs.map (·.1) else kvs.map (·.1) ++ [k] := by
  unfold putD
  have e : (kvs.any fun kv => decide (kv.1 = k)) = decide (k ∈ kvs.map (·.1)) := by
    rw [Bool.eq_iff_iff]
    simp
  rw [e]
  by_cases h : k ∈ kvs.map (·.1)
  · rw [if_pos (decide_eq_true h), if_pos h, List.map_map]
    refine List.map_congr_left fun kv _ => ?_
    simp only [Function.comp]
    split <;> rfl
  · rw [if_neg (by simpa using h), if_neg h, List.map_append]
    rfl
theorem putD_mem {κ : Type} [DecidableEq κ] {kvs : List (κ × Val)} {k : κ} {v : Val} {p : κ × Val} (h : p ∈ putD kvs k v) : p = (k, v) ∨ p ∈ kvs := by
  unfold putD at h
  split at h
  · obtain ⟨q, hq, e⟩ := List.mem_map.mp h
    by_cases c : q.1 = k
    · rw [if_pos c] at e; exact .inl (by rw [← e, c])
    · rw [if_neg c] at e; exact .inr (e ▸ hq)
  · rcases List.mem_append.mp h with h | h
    · exact .inr h
    · exact .inl (List.mem_singleton.mp h)
theorem putD_nodup {κ : Type} [DecidableEq κ] {kvs : List (κ × Val)} {k : κ} {v : Val} (h : (kvs.map (·.1)).Nodup) : ((putD kvs k v).map (·.1)).Nodup := by
  rw [putD_keys]
  split
  · exact h
  · rename_i c
    rw [List.nodup_append]
    exact ⟨h, by simp, fun a ha b hb z => by simp at hb; subst hb; subst z; exact c ha⟩
theorem putD_length {κ : Type} [DecidableEq κ] {kvs : List (κ × Val)} {k : κ} {v : Val} : (putD kvs k v).length ≤ kvs.length + 1 := by
  have e := congrArg List.length (putD_keys (kvs := kvs) (k := k) (v := v))
  rw [List.length_map] at e
  rw [e]
  split <;> simp
theorem putD_key {κ : Type} [DecidableEq κ] {kvs : List (κ × Val)} {k : κ} {v : Val} : k ∈ (putD kvs k v).map (·.1) := by
  rw [putD_keys]; split <;> simp_all
theorem putD_old {κ : Type} [DecidableEq κ] {kvs : List (κ × Val)} {k k' : κ} {v : Val} (h : k' ∈ kvs.map (·.1)) : k' ∈ (putD kvs k v).map (·.1) := by
  rw [putD_keys]; split
  · exact h
  · exact List.mem_append_left _ h
theorem lookK_mem {κ : Type} [DecidableEq κ] {kvs : List (κ × Val)} {k : κ} {v : Val} (hn : (kvs.map (·.1)).Nodup) (h : (k, v) ∈ kvs) : lookK kvs k = some v := by
  induction kvs with
  | nil => cases h
  | cons q r ih =>
    rw [List.map_cons, List.nodup_cons] at hn
    unfold lookK
    rcases List.mem_cons.mp h with rfl | h
    · simp
    · have : ¬ q.1 = k := fun z => hn.1 (by rw [z]; exact List.mem_map.mpr ⟨_, h, rfl⟩)
      rw [List.find?_cons_of_neg (by simpa using this)]
      exact ih hn.2 h
end Mp

set_option Elab.async false
set_option linter.all false
set_option maxRecDepth 100000
set_option maxHeartbeats 1000000
/-! Calls that leave the store as it is, but for garbage behind it. -/
namespace Mp
open PySem PySem.Spec PyProof.Rows L2
/-- what a call leaves behind -/
def gar {α : Type} (o : Out α) (S : Store) : Store := match o with
  | .ok _ S' => S'.drop S.length
  | _ => []
/-- a value, and garbage behind the store -/
def Pu {α : Type} (o : Out α) (S : Store) (v : α) : Prop := ∃ T, o = .ok v (S ++ T)
section
variable {α : Type} {o : Out α} {S : Store} {v : α} {P : α → Store → Prop} {E : XO}
theorem Pu.eq (h : Pu o S v) : o = .ok v (S ++ gar o S) := by
  obtain ⟨T, rfl⟩ := h
  simp [gar]
theorem Pu.w (h : Pu o S v) : wO o P E = P v (S ++ gar o S) := by
  have e := h.eq
  calc wO o P E = wO (.ok v (S ++ gar o S)) P E := congrArg (fun z => wO z P E) e
    _ = _ := rfl
/-- what is wanted of a pure call -/
def isP (v : α) (S : Store) : α → Store → Prop := fun x S' => x = v ∧ ∃ T, S' = S ++ T
@[simp] theorem isP_self {x : α} : isP v S x S = (x = v) := propext ⟨fun h => h.1, fun h => ⟨h, [], by simp⟩⟩
@[simp] theorem isP_app {x : α} {T : Store} : isP v S x (S ++ T) = (x = v) := propext ⟨fun h => h.1, fun h => ⟨h, T, rfl⟩⟩
theorem Pu.of (h : wO o (isP v S) noX) : Pu o S v := by
  obtain ⟨x, S', e, rfl, T, rfl⟩ := wO_ok h
  exact ⟨T, e⟩
theorem Pu.ok : Pu (.ok v S) S v := ⟨[], by simp⟩
theorem Pu.ok' {T : Store} : Pu (.ok v (S ++ T)) S v := ⟨T, rfl⟩
theorem Pu.trans {o' : Out α} {T : Store} (h : Pu o (S ++ T) v) : Pu o S v := by
  obtain ⟨T', rfl⟩ := h
  exact ⟨T ++ T', by rw [List.append_assoc]⟩
theorem Pu.wO (h : Pu o S v) : Mp.wO o (isP v S) noX := by
  obtain ⟨T, rfl⟩ := h
  exact ⟨rfl, T, rfl⟩
/-- the same store, perhaps with something behind -/
def Ex (S S' : Store) : Prop := ∃ T, S' = S ++ T
theorem Ex.refl : Ex S S := ⟨[], by simp⟩
theorem Ex.app {T : Store} : Ex S (S ++ T) := ⟨T, rfl⟩
theorem Ex.trans {S1 S2 : Store} (a : Ex S S1) (b : Ex S1 S2) : Ex S S2 := by
  obtain ⟨T, rfl⟩ := a
  obtain ⟨T', rfl⟩ := b
  exact ⟨T ++ T', by rw [List.append_assoc]⟩
theorem Ex.at {S' : Store} (a : Ex S S') {i : Nat} {b : Ob} (h : S[i]? = some b) : S'[i]? = some b := by
  obtain ⟨T, rfl⟩ := a
  rw [List.getElem?_append_left (List.getElem?_eq_some_iff.mp h).1]; exact h
theorem Ex.le {S' : Store} (a : Ex S S') : S.length ≤ S'.length := by
  obtain ⟨T, rfl⟩ := a
  simp
theorem Pu.wk (h : Pu o S v) (k : ∀ S', Ex S S' → P v S') : Mp.wO o P E := by
  obtain ⟨T, rfl⟩ := h
  exact k _ ⟨T, rfl⟩
theorem isP_of {S1 S' : Store} {x : α} (a : Ex S S1) (h : isP v S1 x S') : isP v S x S' := ⟨h.1, a.trans h.2⟩
theorem isP_ex {S' : Store} (a : Ex S S') : isP v S v S' := ⟨rfl, a⟩
end
/-! ### stores with something behind -/
theorem at_app {S : Store} {i : Nat} {b : Ob} (h : S[i]? = some b) (T : Store) : (S ++ T)[i]? = some b := by
  rw [List.getElem?_append_left (List.getElem?_eq_some_iff.mp h).1]; exact h
theorem at_new {S : Store} {b : Ob} {T : Store} : (S ++ b :: T)[S.length]? = some b := by
  rw [List.getElem?_append_right (Nat.le_refl _)]; simp
theorem at_off {S T : Store} {k : Nat} : (S ++ T)[S.length + k]? = T[k]? := by
  rw [List.getElem?_append_right (Nat.le_add_right _ _), Nat.add_sub_cancel_left]
theorem ex_app {S X : Store} : (∃ T, S ++ X = S ++ T) = True := by
  simp
/-! ### comprehensions that leave garbage -/
theorem lcA {ck : Store → Prop} {t : Tgt} {tst : En → Store → Out Bool} {el : En → Store → Out Val} {env : En} {S0 : Store} {α : Type} (enc : α → Val) (p : α → Bool) (f : α → Val) : ∀ (xs : List α) (acc : List Val) (T : Store), acc.length + xs.length ≤ LIM →
    (∀ T, ck (S0 ++ T)) → (∀ x ∈ xs, ∀ T, ∃ e, t (enc x) env = some e ∧ Pu (tst e (S0 ++ T)) (S0 ++ T) (p x) ∧ (p x = true → Pu (el e (S0 ++ T)) (S0 ++ T) (f x))) →
    ∃ T', lcX ck t tst el S0.length env (xs.map enc) acc (S0 ++ .lst acc :: T) = .ok (.ref S0.length) (S0 ++ .lst (acc ++ (xs.filter p).map f) :: T')
  | [], acc, T, _, hc, _ => by
    refine ⟨T, ?_⟩
    simp only [List.map_nil, lcX, if_pos (hc _), List.filter_nil, List.map_nil, List.append_nil]
  | x :: r, acc, T, hl, hc, h => by
    obtain ⟨e, e1, ⟨T1, e2⟩, e3⟩ := h x (List.mem_cons_self ..) (.lst acc :: T)
    rw [List.length_cons] at hl
    have ih := fun acc' T' hl' => lcA (ck := ck) (S0 := S0) (t := t) (tst := tst) (el := el) (env := env) enc p f r acc' T' hl' hc fun y hy => h y (List.mem_cons_of_mem _ hy)
    have ap : ∀ T2 : Store, (S0 ++ Ob.lst acc :: T) ++ T2 = S0 ++ .lst acc :: (T ++ T2) := fun T2 => by simp
    simp only [List.map_cons, lcX, if_pos (hc _), e1, e2, Out.tie, ap]
    cases q : p x with
    | false =>
      obtain ⟨T', e'⟩ := ih acc (T ++ T1) (by omega)
      refine ⟨T', ?_⟩
      rw [List.filter_cons_of_neg (by simp [q])]
      simpa using e'
    | true =>
      obtain ⟨T2, e4⟩ := h x (List.mem_cons_self ..) (.lst acc :: (T ++ T1)) |>.elim fun e' hh => by
        obtain ⟨h1, _, h3⟩ := hh
        rw [e1] at h1; cases h1
        exact h3 q
      have ap2 : (S0 ++ Ob.lst acc :: (T ++ T1)) ++ T2 = S0 ++ .lst acc :: (T ++ T1 ++ T2) := by simp
      have at_ : (S0 ++ Ob.lst acc :: (T ++ T1 ++ T2))[S0.length]? = some (.lst acc) := at_new
      have put : (S0 ++ Ob.lst acc :: (T ++ T1 ++ T2)).set S0.length (.lst (acc ++ [f x])) = S0 ++ .lst (acc ++ [f x]) :: (T ++ T1 ++ T2) := by
        rw [List.set_append_right _ _ (Nat.le_refl _)]
        simp
      have hlt : acc.length < LIM := by omega
      obtain ⟨T', e'⟩ := ih (acc ++ [f x]) (T ++ T1 ++ T2) (by simp; omega)
      refine ⟨T', ?_⟩
      simp only [if_true, e4, Out.tie, ap2, at_, hlt, and_self, put]
      rw [List.filter_cons_of_pos q, e']
      simp
theorem wO_lcT {ck : Store → Prop} {t : Tgt} {tst : En → Store → Out Bool} {el : En → Store → Out Val} {env : En} {S0 : Store} {P : Val → Store → Prop} {E : XO} {α : Type} {xs : List α} (enc : α → Val) (p : α → Bool) (f : α → Val) (hl : xs.length ≤ LIM) (hc : ∀ S', Ex S0 S' → ck S')
    (h : ∀ x ∈ xs, ∀ S', Ex S0 S' → ∃ e, t (enc x) env = some e ∧ Pu (tst e S') S' (p x) ∧ (p x = true → Pu (el e S') S' (f x))) (hP : ∀ S', Ex S0 S' → S'[S0.length]? = some (.lst ((xs.filter p).map f)) → P (.ref S0.length) S') :
    wO (lcX ck t tst el S0.length env (xs.map enc) [] (S0 ++ [.lst []])) P E := by
  obtain ⟨T', e⟩ := lcA enc p f xs [] [] (by simpa using hl) (fun T => hc _ ⟨T, rfl⟩) fun x hx T => h x hx _ ⟨T, rfl⟩
  rw [e]
  exact hP _ ⟨_, rfl⟩ (by simpa using at_new)
/-- .. without a test -/
theorem wO_lcN {ck : Store → Prop} {t : Tgt} {el : En → Store → Out Val} {env : En} {S0 : Store} {P : Val → Store → Prop} {E : XO} {α : Type} {xs : List α} (enc : α → Val) (f : α → Val) (hl : xs.length ≤ LIM) (hc : ∀ S', Ex S0 S' → ck S')
    (h : ∀ x ∈ xs, ∀ S', Ex S0 S' → ∃ e, t (enc x) env = some e ∧ Pu (el e S') S' (f x)) (hP : ∀ S', Ex S0 S' → S'[S0.length]? = some (.lst (xs.map f)) → P (.ref S0.length) S') :
    wO (lcX ck t bYes el S0.length env (xs.map enc) [] (S0 ++ [.lst []])) P E := by
  refine wO_lcT enc (fun _ => true) f hl hc (fun x hx S' a => ?_) (fun S' a q => ?_)
  · obtain ⟨e, e1, e2⟩ := h x hx S' a
    exact ⟨e, e1, ⟨[], by simp [bYes]⟩, fun _ => e2⟩
  · rw [List.filter_eq_self.mpr (fun _ _ => rfl)] at q; exact hP S' a q
/-- .. of values as they are -/
theorem wO_lcV {ck : Store → Prop} {t : Tgt} {el : En → Store → Out Val} {env : En} {S0 : Store} {P : Val → Store → Prop} {E : XO} {xs : List Val} (f : Val → Val) (hl : xs.length ≤ LIM) (hc : ∀ S', Ex S0 S' → ck S')
    (h : ∀ x ∈ xs, ∀ S', Ex S0 S' → ∃ e, t x env = some e ∧ Pu (el e S') S' (f x)) (hP : ∀ S', Ex S0 S' → S'[S0.length]? = some (.lst (xs.map f)) → P (.ref S0.length) S') :
    wO (lcX ck t bYes el S0.length env xs [] (S0 ++ [.lst []])) P E := by
  have := wO_lcN (ck := ck) (t := t) (el := el) (env := env) (S0 := S0) (P := P) (E := E) (xs := xs) id f hl hc h hP
  simpa using this
@[simp] theorem flagsOf_map {α : Type} (p : α → Bool) : ∀ xs : List α, flagsOf (xs.map fun x => .bl (p x)) = some (xs.map p)
  | [] => rfl
  | x :: r => by simp [flagsOf, flagsOf_map p r]
@[simp] theorem intsOf_map : ∀ ns : List Int, intsOf (ns.map .int) = some ns
  | [] => rfl
  | n :: r => by simp [intsOf, intsOf_map r]
theorem intsOf_mapF {α : Type} (f : α → Int) : ∀ xs : List α, intsOf (xs.map fun x => .int (f x)) = some (xs.map f)
  | [] => rfl
  | x :: r => by simp [intsOf, intsOf_mapF f r]
theorem wO_fOne {α : Type} {c : List Val → Option α} {k : α → Val} {S : Store} {x : Val} {P : Val → Store → Prop} {E : XO} : wO (fOne c k [x] S) P E = wP ((getL S x).bind c) fun ks => P (k ks) S := by
  simp only [fOne]
  cases (getL S x).bind c <;> rfl
theorem wO_lkeys {f : En → Store → Out Val} {env : En} {S : Store} {P : Val → Store → Prop} {E : XO} : wO (eLKeys f env S) P E = wO (f env S) (fun x S1 => wP (match x with | .ref n => (match S1[n]? with | some (.dt kvs) => some kvs | _ => none) | _ => none) fun kvs => P (.ref S1.length) (S1 ++ [.lst (keysL kvs)])) E := by
  refine wO_bind.trans (wO_ext fun x S1 => ?_)
  cases x with
  | ref n =>
    dsimp only
    cases h : S1[n]? with
    | none => rfl
    | some b => cases b <;> rfl
  | _ => rfl
theorem wO_lset {f : En → Store → Out Val} {env : En} {S : Store} {P : Val → Store → Prop} {E : XO} : wO (eLSet f env S) P E = wO (f env S) (fun x S1 => wP ((getL S1 x).bind intsOf) fun ns => ns.length ≤ 4000 ∧ P (.int ((dedup ns).length : Nat)) S1) E := by
  refine wO_bind.trans (wO_ext fun x S1 => ?_)
  cases h : getL S1 x with
  | none => rfl
  | some xs =>
    simp only [Option.bind_some]
    cases h2 : intsOf xs with
    | none => rfl
    | some ns => by_cases q : ns.length ≤ 4000 <;> simp [q]
@[simp] theorem wO_rng1 {tp : Bool} {f : En → Store → Out Val} {env : En} {S : Store} {P : Val → Store → Prop} {E : XO} : wO (eR1 tp f env S) P E = wO (f env S) (fun x S1 => wO (kR1 tp [x] S1) P E) E := wO_bind
@[simp] theorem wO_eCh {g g' : BOp} {fa fb fc : En → Store → Out Val} {env : En} {S : Store} {P : Val → Store → Prop} {E : XO} : wO (eCh g g' fa fb fc env S) P E =
    wO (fa env S) (fun x S1 => wO (fb env S1) (fun y S2 => wO (g x y S2) (fun r S3 => wP (asB r) fun k => if k = true then wO (fc env S3) (fun z S4 => wO (g' y z S4) P E) E else P (.bl false) S3) E) E) E := by
  refine wO_bind.trans (wO_ext fun x S1 => wO_bind.trans (wO_ext fun y S2 => wO_bind.trans (wO_ext fun r S3 => ?_)))
  cases r <;> first | rfl | skip
  rename_i k
  cases k
  · rfl
  · exact wO_bind
theorem walkOf_at {S : Store} {n : Nat} {xs : List Val} (h : S[n]? = some (.lst xs)) : walkOf S (.ref n) = some (xs, fun S' => S'[n]? = some (.lst xs)) := by
  simp only [walkOf, h]
end Mp

set_option Elab.async false
set_option linter.all false
set_option maxRecDepth 100000
set_option maxHeartbeats 1000000
/-! Clean data: None, ints, texts, tuples of such: equal as data exactly if the same. -/
namespace Mp
open PySem PySem.Spec PyProof.Rows L2
mutual
def cln : Val → Bool
  | .non => true
  | .int _ => true
  | .str s => PyData.strOk s
  | .tup xs => clns xs
  | _ => false
def clns : List Val → Bool
  | [] => true
  | x :: xs => cln x && clns xs
end
mutual
def dep : Val → Nat
  | .tup xs => deps xs + 1
  | _ => 0
def deps : List Val → Nat
  | [] => 0
  | x :: xs => max (dep x) (deps xs)
end
@[simp] theorem cln_non : cln .non = true := by simp [cln]
@[simp] theorem cln_int {i : Int} : cln (.int i) = true := by simp [cln]
@[simp] theorem cln_tup {xs : List Val} : cln (.tup xs) = clns xs := by simp [cln]
@[simp] theorem clns_nil : clns [] = true := by simp [clns]
@[simp] theorem clns_cons {x : Val} {xs : List Val} : clns (x :: xs) = (cln x && clns xs) := by simp [clns]
@[simp] theorem dep_non : dep .non = 0 := by simp [dep]
@[simp] theorem dep_int {i : Int} : dep (.int i) = 0 := by simp [dep]
@[simp] theorem dep_str {i : Str} : dep (.str i) = 0 := by simp [dep]
@[simp] theorem dep_tup {xs : List Val} : dep (.tup xs) = deps xs + 1 := by simp [dep]
@[simp] theorem deps_nil : deps [] = 0 := by simp [deps]
@[simp] theorem deps_cons {x : Val} {xs : List Val} : deps (x :: xs) = max (dep x) (deps xs) := by simp [deps]
theorem clns_iff {xs : List Val} : clns xs = true ↔ ∀ x ∈ xs, cln x = true := by
  induction xs with
  | nil => simp
  | cons x r ih => simp [ih]
theorem deps_le {xs : List Val} {n : Nat} (h : ∀ x ∈ xs, dep x ≤ n) : deps xs ≤ n := by
  induction xs with
  | nil => simp
  | cons x r ih =>
    simp only [deps_cons]
    exact Nat.max_le.mpr ⟨h x (by simp), ih fun y hy => h y (by simp [hy])⟩
mutual
theorem toD_cln : ∀ x : Val, cln x = true → ∃ d, toD x = some d ∧ d.canLay0 = true ∧ d.depth = dep x
  | .non, _ => ⟨_, rfl, by simp [PyData.canLay0], by simp [PyData.depth]⟩
  | .int _, _ => ⟨_, rfl, by simp [PyData.canLay0], by simp [PyData.depth]⟩
  | .str s, h => ⟨_, rfl, by simpa [PyData.canLay0, cln] using h, by simp [PyData.depth]⟩
  | .tup xs, h => by
    obtain ⟨ds, e, h1, h2⟩ := toDs_cln xs (by simpa using h)
    exact ⟨.tuple ds, by simp [toD, e], by simp [PyData.canLay0, h1], by simp [PyData.depth, h2]⟩
  | .bl _, h => by simp [cln] at h
  | .frz _, h => by simp [cln] at h
  | .ref _, h => by simp [cln] at h
theorem toDs_cln : ∀ xs : List Val, clns xs = true → ∃ ds, toDs xs = some ds ∧ PyData.canLayAll0 ds = true ∧ PyData.depthAll ds = deps xs
  | [], _ => ⟨[], rfl, by simp [PyData.canLayAll0], by simp [PyData.depthAll]⟩
  | x :: xs, h => by
    simp only [clns_cons, Bool.and_eq_true] at h
    obtain ⟨d, e, h1, h2⟩ := toD_cln x h.1
    obtain ⟨ds, e', h3, h4⟩ := toDs_cln xs h.2
    exact ⟨d :: ds, by simp [toDs, e, e'], by simp [PyData.canLayAll0, h1, h3], by simp [PyData.depthAll, h2, h4]⟩
end
mutual
theorem eqv_cln : ∀ (x y : Val) (d e : PyData), cln x = true → cln y = true → toD x = some d → toD y = some e → (PyData.eqv d e = true ↔ x = y)
  | .tup xs, y, d, e, h, k, hd, he => by
    cases y with
    | tup ys =>
      simp only [toD, Option.map_eq_some_iff] at hd he
      obtain ⟨ds, h1, rfl⟩ := hd
      obtain ⟨es, h2, rfl⟩ := he
      have := eqvs_cln xs ys ds es (by simpa using h) (by simpa using k) h1 h2
      simpa [PyData.eqv] using this
    | non => simp only [toD, Option.map_eq_some_iff, Option.some.injEq] at hd he; obtain ⟨ds, h1, rfl⟩ := hd; subst he; simp [PyData.eqv]
    | int j => simp only [toD, Option.map_eq_some_iff, Option.some.injEq] at hd he; obtain ⟨ds, h1, rfl⟩ := hd; subst he; simp [PyData.eqv]
    | str j => simp only [toD, Option.map_eq_some_iff, Option.some.injEq] at hd he; obtain ⟨ds, h1, rfl⟩ := hd; subst he; simp [PyData.eqv]
    | _ => simp [cln] at k
  | .non, y, d, e, h, k, hd, he => by
    simp only [toD, Option.some.injEq] at hd; subst hd
    cases y with
    | tup ys => simp only [toD, Option.map_eq_some_iff] at he; obtain ⟨ds, h1, rfl⟩ := he; simp [PyData.eqv]
    | non => simp only [toD, Option.some.injEq] at he; subst he; simp [PyData.eqv]
    | int j => simp only [toD, Option.some.injEq] at he; subst he; simp [PyData.eqv]
    | str j => simp only [toD, Option.some.injEq] at he; subst he; simp [PyData.eqv]
    | _ => simp [cln] at k
  | .int i, y, d, e, h, k, hd, he => by
    simp only [toD, Option.some.injEq] at hd; subst hd
    cases y with
    | tup ys => simp only [toD, Option.map_eq_some_iff] at he; obtain ⟨ds, h1, rfl⟩ := he; simp [PyData.eqv]
    | non => simp only [toD, Option.some.injEq] at he; subst he; simp [PyData.eqv]
    | int j => simp only [toD, Option.some.injEq] at he; subst he; simp [PyData.eqv]
    | str j => simp only [toD, Option.some.injEq] at he; subst he; simp [PyData.eqv]
    | _ => simp [cln] at k
  | .str i, y, d, e, h, k, hd, he => by
    simp only [toD, Option.some.injEq] at hd; subst hd
    cases y with
    | tup ys => simp only [toD, Option.map_eq_some_iff] at he; obtain ⟨ds, h1, rfl⟩ := he; simp [PyData.eqv]
    | non => simp only [toD, Option.some.injEq] at he; subst he; simp [PyData.eqv]
    | int j => simp only [toD, Option.some.injEq] at he; subst he; simp [PyData.eqv]
    | str j => simp only [toD, Option.some.injEq] at he; subst he; simp [PyData.eqv]
    | _ => simp [cln] at k
  | .bl _, _, _, _, h, _, _, _ => by simp [cln] at h
  | .frz _, _, _, _, h, _, _, _ => by simp [cln] at h
  | .ref _, _, _, _, h, _, _, _ => by simp [cln] at h
theorem eqvs_cln : ∀ (xs ys : List Val) (ds es : List PyData), clns xs = true → clns ys = true → toDs xs = some ds → toDs ys = some es → (PyData.eqvAll ds es = true ↔ xs = ys)
  | [], ys, ds, es, h, k, hd, he => by
    simp only [toDs, Option.some.injEq] at hd; subst hd
    cases ys with
    | nil => simp only [toDs, Option.some.injEq] at he; subst he; simp [PyData.eqvAll]
    | cons y r =>
      simp only [toDs, Option.bind_eq_some_iff, Option.map_eq_some_iff] at he
      obtain ⟨b, _, bs, _, rfl⟩ := he
      simp [PyData.eqvAll]
  | x :: xs, ys, ds, es, h, k, hd, he => by
    simp only [toDs, Option.bind_eq_some_iff, Option.map_eq_some_iff] at hd
    obtain ⟨a, h1, as, h2, rfl⟩ := hd
    cases ys with
    | nil => simp only [toDs, Option.some.injEq] at he; subst he; simp [PyData.eqvAll]
    | cons y r =>
      simp only [toDs, Option.bind_eq_some_iff, Option.map_eq_some_iff] at he
      obtain ⟨b, h3, bs, h4, rfl⟩ := he
      simp only [clns_cons, Bool.and_eq_true] at h k
      have i1 := eqv_cln x y a b h.1 k.1 h1 h3
      have i2 := eqvs_cln xs r as bs h.2 k.2 h2 h4
      simp only [PyData.eqvAll, Bool.and_eq_true, i1, i2, List.cons.injEq]
end
theorem shaped_cln {x : Val} {d : PyData} (h : cln x = true) (hd : dep x ≤ 64) (e : toD x = some d) : SeqAt.shaped d = true := by
  obtain ⟨d', e', h1, h2⟩ := toD_cln x h
  rw [e] at e'; cases e'
  simp [SeqAt.shaped, h1, h2, hd]
theorem toD1_cln {S : Store} {x : Val} (h : cln x = true) : toD1 S x = toD x := by
  cases x <;> first | rfl | simp [cln] at h
open Classical in
theorem eqv1_cln {S : Store} {x y : Val} (hx : cln x = true) (hy : cln y = true) (dx : dep x ≤ 64) (dy : dep y ≤ 64) : eqv1 S x y = some (decide (x = y)) := by
  obtain ⟨d, e1, h1, h2⟩ := toD_cln x hx
  obtain ⟨e, e2, h3, h4⟩ := toD_cln y hy
  simp only [eqv1, toD1_cln hx, toD1_cln hy, e1, e2, Option.bind_some, shaped_cln hx dx e1, shaped_cln hy dy e2, and_self, if_true]
  congr 1
  rw [Bool.eq_iff_iff, eqv_cln x y d e hx hy e1 e2]
  simp
open Classical in
theorem isInL_cln {S : Store} {y : Val} {xs : List Val} {x : Val} (hy : dLook S y x = none) (hd : itemsD S y = toDs xs) (hx : cln x = true) (dx : dep x ≤ 64) (hxs : clns xs = true) : isIn S x y = some (decide (x ∈ xs)) := by
  obtain ⟨d, e1, h1, h2⟩ := toD_cln x hx
  obtain ⟨ds, e2, h3, h4⟩ := toDs_cln xs hxs
  simp only [isIn, hy, hd, e1, e2, shaped_cln hx dx e1, h3, and_self, if_true]
  congr 1
  rw [Bool.eq_iff_iff]
  simp only [List.any_eq_true, decide_eq_true_eq]
  clear h3 h4 hy hd
  induction xs generalizing ds with
  | nil => simp only [toDs, Option.some.injEq] at e2; subst e2; simp
  | cons z r ih =>
    simp only [toDs, Option.bind_eq_some_iff, Option.map_eq_some_iff] at e2
    obtain ⟨b, h3, bs, h4, rfl⟩ := e2
    simp only [clns_cons, Bool.and_eq_true] at hxs
    have := ih hxs.2 bs h4
    have i1 := eqv_cln z x b d hxs.1 hx h3 e1
    simp only [List.mem_cons, exists_eq_or_imp, this, i1]
    exact ⟨fun h => h.imp Eq.symm id, fun h => h.imp Eq.symm id⟩
open Classical in
theorem isIn_list {S : Store} {l : Nat} {xs : List Val} {x : Val} (hl : S[l]? = some (.lst xs)) (hx : cln x = true) (dx : dep x ≤ 64) (hxs : clns xs = true) : isIn S x (.ref l) = some (decide (x ∈ xs)) :=
  isInL_cln (by simp only [dLook, hl]) (by simp only [itemsD, hl]) hx dx hxs
open Classical in
theorem isIn_tup {S : Store} {xs : List Val} {x : Val} (hx : cln x = true) (dx : dep x ≤ 64) (hxs : clns xs = true) : isIn S x (.tup xs) = some (decide (x ∈ xs)) :=
  isInL_cln (by simp only [dLook]) (by simp only [itemsD]) hx dx hxs
@[simp] theorem wO_vIn {n : Bool} {x y : Val} {S : Store} {P : Val → Store → Prop} {E : XO} : wO (vIn n x y S) P E = wP (isIn S x y) fun k => P (.bl (xor n k)) S := by
  unfold vIn; cases isIn S x y <;> rfl
/-! ### [[] for _ in range(n)] -/
theorem lcE {ck : Store → Prop} {t : Tgt} {env : En} {S0 : Store} : ∀ (xs acc : List Val) (k : Nat), acc.length = k → k + xs.length ≤ LIM → acc = (List.range k).map (fun i => .ref (S0.length + 1 + i)) → (∀ S, ck S) → (∀ x ∈ xs, ∃ e, t x env = some e) →
    lcX ck t bYes (eLst aNil) S0.length env xs acc (S0 ++ .lst acc :: List.replicate k (.lst [])) = .ok (.ref S0.length) (S0 ++ .lst ((List.range (k + xs.length)).map (fun i => .ref (S0.length + 1 + i))) :: List.replicate (k + xs.length) (.lst []))
  | [], acc, k, hk, _, ha, hc, _ => by
    simp only [lcX, if_pos (hc _), List.length_nil, Nat.add_zero, ← ha]
  | x :: r, acc, k, hk, hl, ha, hc, h => by
    obtain ⟨e, e1⟩ := h x (by simp)
    rw [List.length_cons] at hl
    have ih := lcE (ck := ck) (S0 := S0) (t := t) (env := env) r (acc ++ [.ref (S0.length + 1 + k)]) (k + 1) (by simp [hk]) (by omega) (by rw [ha, List.range_succ, List.map_append]; rfl) hc fun y hy => h y (by simp [hy])
    have el : eLst aNil e (S0 ++ .lst acc :: List.replicate k (.lst [])) = .ok (.ref (S0.length + 1 + k)) (S0 ++ .lst acc :: List.replicate (k + 1) (.lst [])) := by
      simp only [eLst, aNil, Out.bind, List.length_nil, Nat.zero_le, if_true]
      congr 1
      · simp; omega
      · rw [List.append_assoc, List.cons_append, ← List.replicate_succ']
    have at_ : (S0 ++ Ob.lst acc :: List.replicate (k + 1) (.lst []))[S0.length]? = some (.lst acc) := at_new
    have hlt : acc.length < LIM := by omega
    have put : (S0 ++ Ob.lst acc :: List.replicate (k + 1) (.lst [])).set S0.length (.lst (acc ++ [.ref (S0.length + 1 + k)])) = S0 ++ .lst (acc ++ [.ref (S0.length + 1 + k)]) :: List.replicate (k + 1) (.lst []) := by
      rw [List.set_append_right _ _ (Nat.le_refl _)]
      simp
    simp only [lcX, if_pos (hc _), e1, bYes, Out.tie, if_true, el, at_, hlt, and_self, put]
    rw [ih, List.length_cons, show k + 1 + r.length = k + (r.length + 1) by omega]
end Mp

set_option Elab.async false
set_option linter.all false
set_option maxRecDepth 100000
set_option maxHeartbeats 1000000
/-! Words about objects, errors, try, dict comprehensions. -/
namespace Mp
open PySem PySem.Spec PyProof.Rows L2
section
variable {S : Store} {env : En} {P : Val → Store → Prop} {E : XO} {R : RP}
theorem wR_sFldS {cs : List Str} {f : Str} {gv go : En → Store → Out Val} : wR (sFldS cs f gv go env S) R = wO (gv env S) (fun y S1 => wO (go env S1) (fun x S2 => wR (kFld cs f y env x S2) R) fun c fs S1 => R.er c fs env S1) (fun c fs S1 => R.er c fs env S1) := by
  unfold sFldS
  exact wR_toS.trans (wO_ext fun y S1 => wR_toS)
theorem wR_kFld {cs : List Str} {f c : Str} {y : Val} {i : Nat} {fs : List (Str × Val)} (h : S[i]? = some (.ins c fs)) (hc : c ∈ cs) (hl : fs.length < 1000) : wR (kFld cs f y env (.ref i) S) R = R.nx env (S.set i (.ins c (putS f y fs))) := by
  simp only [kFld, h, if_pos (And.intro hc hl)]; rfl
theorem wO_fMake {c : Str} {g : Fn} {xs : List Val} : wO (fMake c g xs S) P E = wO (g (.ref S.length :: xs) (S ++ [.ins c []])) (fun r S2 => r = .non ∧ P (.ref S.length) S2) E := by
  refine wO_bind.trans (wO_ext fun r S2 => ?_)
  cases r <;> simp [kMake]
theorem wR_let {i : Nat} {r : Res} : wR (r.let i) R = wR r ⟨fun e S => R.nx (e.set i none) S, R.rt, fun e S => R.bk (e.set i none) S, fun e S => R.ct (e.set i none) S, fun _ _ _ _ => False⟩ := by
  cases r <;> rfl
theorem wR_sTryAs {m : Str → Bool} {i : Nat} {gb : En → Store → Res} {g : Str → List (Str × Val) → En → Store → Res} : wR (sTryAs m i gb g env S) R =
    wR (gb env S) { R with er := fun c fs e S1 => if m c = true then (i < e.length ∧ wR (g c fs (e.set i none) S1) ⟨fun e S => R.nx (e.set i none) S, R.rt, fun e S => R.bk (e.set i none) S, fun e S => R.ct (e.set i none) S, fun _ _ _ _ => False⟩) else R.er c fs e S1 } := by
  simp only [sTryAs]
  cases h : gb env S with
  | er c fs e S1 =>
    simp only [wR_er]
    by_cases q : m c = true
    · rw [if_pos q, if_pos q]
      by_cases l : i < e.length
      · rw [if_pos l, wR_let]; simp [l]
      · rw [if_neg l]; simp [l]
    · rw [if_neg q, if_neg q]; rfl
  | _ => rfl
def wH (R : RP) (c : Str) (fs : List (Str × Val)) (e : En) (S : Store) : List Hd → Prop
  | [] => R.er c fs e S
  | (m, g) :: r => if m c = true then wR (g e S) { R with er := fun _ _ _ _ => False } else wH R c fs e S r
theorem wR_sTry {gb : En → Store → Res} {l : List Hd} : wR (sTry gb l env S) R = wR (gb env S) { R with er := fun c fs e S1 => wH R c fs e S1 l } := by
  simp only [sTry]
  cases h : gb env S with
  | er c fs e S1 =>
    simp only [wR_er]
    induction l with
    | nil => rfl
    | cons p r ih =>
      obtain ⟨m, g⟩ := p
      simp only [tryHd, wH]
      by_cases q : m c = true
      · rw [if_pos q, if_pos q]
        cases g e S1 <;> rfl
      · rw [if_neg q, if_neg q]; exact ih
  | _ => rfl
@[simp] theorem wO_eXf {fs : List (Str × Val)} {f : Str} : wO (eXf fs f env S) P E = wP (fs.lookup f) fun v => P v S := by
  simp only [eXf]
  cases fs.lookup f <;> rfl
@[simp] theorem wO_eIsO {m : Str → Bool} {f : En → Store → Out Val} : wO (eIsO m f env S) P E = wO (f env S) (fun x S1 => wO (kIsO m x S1) P E) E := wO_bind
theorem wO_kIsO {m : Str → Bool} {x : Val} {c : Str} {fs : List (Str × Val)} (h : insOf S x = some (c, fs)) : wO (kIsO m x S) P E = P (.bl (m c)) S := by
  simp only [kIsO, h]; rfl
theorem wO_kIsO' {m : Str → Bool} {x : Val} {t : String} (h : insOf S x = none) (h2 : tyOf S x = some t) (h3 : t ∈ tyNames) : wO (kIsO m x S) P E = P (.bl false) S := by
  simp only [kIsO, h, h2, if_pos h3]; rfl
theorem insOf_at {i : Nat} {c : Str} {fs : List (Str × Val)} (h : S[i]? = some (.ins c fs)) : insOf S (.ref i) = some (c, fs) := by
  simp only [insOf, h]
theorem wO_ownEq {g : Fn} {x y : Val} : wO (ownEq g x y S) P E = wO (g [x, y] S) (fun v S1 => wP (asB v) fun b => P (.bl b) S1) noX := by
  unfold ownEq
  cases g [x, y] S with
  | ok v S1 => cases v <;> rfl
  | _ => rfl
theorem wO_vEqO {cn : Str} {g : Fn} {x y : Val} {fs : List (Str × Val)} (h : insOf S x = some (cn, fs)) (hy : (∃ p, insOf S y = some p) ∨ (insOf S y = none ∧ ∃ t, tyOf S y = some t ∧ t ∈ tyNames)) : wO (vEqO cn g x y S) P E = wO (g [x, y] S) (fun v S1 => wP (asB v) fun b => P (.bl b) S1) noX := by
  rw [← wO_ownEq (E := E)]
  simp only [vEqO, h, if_true]
  rcases hy with ⟨p, hp⟩ | ⟨hn, t, ht, hm⟩
  · simp only [hp]
  · simp only [hn, ht, if_pos hm]
end
theorem putD_new {κ : Type} [DecidableEq κ] {kvs : List (κ × Val)} {k : κ} {v : Val} (h : k ∉ kvs.map (·.1)) : putD kvs k v = kvs ++ [(k, v)] := by
  unfold putD
  rw [if_neg]
  simp only [List.any_eq_true, decide_eq_true_eq, not_exists, not_and]
  intro x hx e
  exact h (List.mem_map.mpr ⟨x, hx, e⟩)
theorem wO_dc {tp : Bool} {fi : En → Store → Out Itm} {t : Tgt} {tst : En → Store → Out Bool} {ek ev : En → Store → Out Val} {vs : List Nat} {env : En} {S : Store} {P : Val → Store → Prop} {E : XO} :
    wO (eDc tp fi t tst ek ev vs env S) P E = wO (fi env S) (fun p S1 => wO (dcX p.2 t tst ek ev S1.length (wipeE env vs) p.1 (S1 ++ [emO tp])) P E) E := wO_bind
theorem dcA {ck : Store → Prop} {t : Tgt} {tst : En → Store → Out Bool} {ek ev : En → Store → Out Val} {env : En} {S0 : Store} {α : Type} (enc : α → Val) (kt : α → List Val) (kv : α → List Key × Val) : ∀ (xs : List α) (acc : List (List Key × Val)) (T : Store), acc.length + xs.length < LIM →
    ((acc ++ xs.map kv).map (·.1)).Nodup → (∀ S', Ex S0 S' → ck S') → (∀ x ∈ xs, keysOf (kt x) = some (kv x).1 ∧ ∃ e, t (enc x) env = some e ∧ ∀ S', Ex S0 S' → Pu (tst e S') S' true ∧ Pu (ek e S') S' (.tup (kt x)) ∧ Pu (ev e S') S' (kv x).2) →
    ∃ T', dcX ck t tst ek ev S0.length env (xs.map enc) (S0 ++ .dt acc :: T) = .ok (.ref S0.length) (S0 ++ .dt (acc ++ xs.map kv) :: T')
  | [], acc, T, _, _, hc, _ => ⟨T, by simp only [List.map_nil, dcX, if_pos (hc _ ⟨_, rfl⟩), List.append_nil]⟩
  | x :: r, acc, T, hl, nd, hc, h => by
    obtain ⟨hk, e, e1, h2⟩ := h x (List.mem_cons_self ..)
    rw [List.length_cons] at hl
    obtain ⟨⟨T1, q1⟩, _, _⟩ := h2 (S0 ++ .dt acc :: T) ⟨_, rfl⟩
    have ap : ∀ T T2 : Store, (S0 ++ Ob.dt acc :: T) ++ T2 = S0 ++ .dt acc :: (T ++ T2) := fun T T2 => by simp
    rw [ap] at q1
    obtain ⟨_, ⟨T2, q2⟩, _⟩ := h2 (S0 ++ .dt acc :: (T ++ T1)) ⟨_, rfl⟩
    rw [ap] at q2
    obtain ⟨_, _, T3, q3⟩ := h2 (S0 ++ .dt acc :: (T ++ T1 ++ T2)) ⟨_, rfl⟩
    rw [ap] at q3
    have at_ : (S0 ++ Ob.dt acc :: (T ++ T1 ++ T2 ++ T3))[S0.length]? = some (.dt acc) := at_new
    have hlt : acc.length < LIM := by omega
    have nk : (kv x).1 ∉ acc.map (·.1) := by
      rw [List.map_append, List.nodup_append] at nd
      exact fun hm => nd.2.2 _ hm (kv x).1 (by simp) rfl
    have put : putIx (.ref S0.length) (.tup (kt x)) (kv x).2 (S0 ++ Ob.dt acc :: (T ++ T1 ++ T2 ++ T3)) = some (S0 ++ .dt (acc ++ [kv x]) :: (T ++ T1 ++ T2 ++ T3)) := by
      simp only [putIx, at_, tkeyOf, hk, Option.bind_some, if_pos hlt, putD_new nk]
      rw [List.set_append_right _ _ (Nat.le_refl _)]
      simp
    obtain ⟨T', ih⟩ := dcA (ck := ck) (S0 := S0) (t := t) (tst := tst) (ek := ek) (ev := ev) (env := env) enc kt kv r (acc ++ [kv x]) (T ++ T1 ++ T2 ++ T3) (by simp; omega) (by simpa using nd) hc fun y hy => h y (List.mem_cons_of_mem _ hy)
    refine ⟨T', ?_⟩
    have isd : isD (S0 ++ Ob.dt acc :: (T ++ T1 ++ T2 ++ T3)) S0.length = true := by simp only [isD, at_]
    simp only [List.map_cons, dcX, if_pos (hc _ ⟨_, rfl⟩), e1, q1, q2, q3, Out.tie, if_true, isd, put]
    rw [ih]
    simp
theorem wO_dcT {ck : Store → Prop} {t : Tgt} {ek ev : En → Store → Out Val} {env : En} {S0 : Store} {P : Val → Store → Prop} {E : XO} {α : Type} {xs : List α} (enc : α → Val) (kt : α → List Val) (kv : α → List Key × Val) (hl : xs.length < LIM) (nd : ((xs.map kv).map (·.1)).Nodup) (hc : ∀ S', Ex S0 S' → ck S')
    (h : ∀ x ∈ xs, keysOf (kt x) = some (kv x).1 ∧ ∃ e, t (enc x) env = some e ∧ ∀ S', Ex S0 S' → Pu (ek e S') S' (.tup (kt x)) ∧ Pu (ev e S') S' (kv x).2) (hP : ∀ S', Ex S0 S' → S'[S0.length]? = some (.dt (xs.map kv)) → P (.ref S0.length) S') :
    wO (dcX ck t bYes ek ev S0.length env (xs.map enc) (S0 ++ [emO true])) P E := by
  obtain ⟨T', e⟩ := dcA (ck := ck) (S0 := S0) (t := t) (tst := bYes) (ek := ek) (ev := ev) (env := env) enc kt kv xs [] [] (by simpa using hl) (by simpa using nd) hc fun x hx => by
    obtain ⟨h1, e, h2, h3⟩ := h x hx
    exact ⟨h1, e, h2, fun S' a => ⟨⟨[], by simp [bYes]⟩, h3 S' a⟩⟩
  have : wO (dcX ck t bYes ek ev S0.length env (xs.map enc) (S0 ++ [Ob.dt []])) P E := by
    rw [e]
    exact hP _ ⟨_, rfl⟩ (by simpa using at_new)
  exact this
@[simp] theorem gT_ap {n : Nat} {u : Tgts} {xs : List Val} {env : En} : gT n u (.tup xs) env = if xs.length = n then u xs env else none := rfl
end Mp

set_option Elab.async false
set_option linter.all false
set_option maxRecDepth 100000
set_option maxHeartbeats 1000000
/-! while; displays of dicts; min of data, also with a default. -/
namespace Mp
open PySem PySem.Spec PyProof.Rows L2
/-! ### while: turns are at most so many -/
def WF : Nat := 1000000
def whX (c : En → Store → Out Bool) (g : En → Store → Res) : Nat → En → Store → Res
  | 0, _, _ => .bad
  | n + 1, env, S => (c env S).toS env fun b S1 => if b = true then (match g env S1 with
    | .nx e S2 => whX c g n e S2
    | .ct e S2 => whX c g n e S2
    | .bk e S2 => .nx e S2
    | .rt v S2 => .rt v S2
    | .er k fs e S2 => .er k fs e S2
    | .bad => .bad) else .nx env S1
def sWhile (c : En → Store → Out Bool) (g : En → Store → Res) : En → Store → Res := whX c g WF
section
variable {X : Cx} {Y : Sy} {W : WX} {pos : Pos}
theorem ss_while {c : Expr} {body : List Stmt} {fc : En → Store → Out Bool} {g : En → Store → Res} (hp : PassesOwn (model X.prog X.w) X.A X.env X.xe) (hc : ST X Y W c fc) (hb : SSs X Y W body g) : SS X Y W (.While c body [] pos) (sWhile fc g) := by
  refine PS.imp (ps_while hp hc hb) fun D σ0 H0 h => ?_
  refine ⟨fun m σ H => tS X.K Y W (whX fc g m) D σ H, ⟨WF, h⟩, fun m σ H hw => ?_⟩
  cases m with
  | zero =>
    obtain ⟨ρ, env, S, he, hs, hp⟩ := hw
    exact hp.elim
  | succ n =>
    refine tS.go (k := fun env b S1 => if b = true then (match g env S1 with
      | .nx e S2 => whX fc g n e S2
      | .ct e S2 => whX fc g n e S2
      | .bk e S2 => .nx e S2
      | .rt v S2 => .rt v S2
      | .er k fs e S2 => .er k fs e S2
      | .bad => .bad) else .nx env S1) hw fun ρ env v x H1 S1 he hs rx hp => ?_
    subst rx
    cases v with
    | false =>
      rw [if_neg (by simp)] at hp ⊢
      exact hp σ ρ H1 (Pre.refl _) (Ext.refl _) he hs
    | true =>
      rw [if_pos rfl] at hp ⊢
      refine ⟨fun σ' H' => tS X.K Y W (whX fc g n) D σ' H', fun σ' H' hn => ⟨n, Nat.lt_succ_self n, hn⟩, ρ, env, S1, he, hs, ?_⟩
      generalize g env S1 = r at hp
      cases r with
      | nx e S2 => exact fun σ' ρ' H' p q r s => ⟨ρ', e, S2, r, s, PostS.up p q hp⟩
      | ct e S2 => exact fun σ' ρ' H' p q r s => ⟨ρ', e, S2, r, s, PostS.up p q hp⟩
      | bk e S2 => exact hp
      | rt v S2 => exact hp
      | er k fs e S2 => exact hp
      | bad => exact hp
end
theorem wR_wh {c : En → Store → Out Bool} {g : En → Store → Res} {R : RP} {n : Nat} {env : En} {S : Store} : wR (whX c g (n + 1) env S) R =
    wO (c env S) (fun b S1 => if b = true then wR (g env S1) ⟨fun e S2 => wR (whX c g n e S2) R, R.rt, R.nx, fun e S2 => wR (whX c g n e S2) R, R.er⟩ else R.nx env S1) (fun k fs S1 => R.er k fs env S1) := by
  simp only [whX]
  refine wR_toS.trans (wO_ext fun b S1 => ?_)
  cases b with
  | false => rfl
  | true =>
    simp only [if_true]
    cases g env S1 <;> rfl
/-- a while by a measure: turns left -/
theorem wR_while {c : En → Store → Out Bool} {g : En → Store → Res} {R : RP} {env : En} {S : Store} (I : Nat → En → Store → Prop) (m : Nat) (hm : m < WF) (h0 : I m env S)
    (hs : ∀ k e S, I k e S → wO (c e S) (fun b S1 => if b = true then ∃ k', k = k' + 1 ∧ wR (g e S1) ⟨I k', R.rt, R.nx, I k', R.er⟩ else R.nx e S1) (fun k fs S1 => R.er k fs e S1)) : wR (sWhile c g env S) R := by
  have key : ∀ (n k : Nat) (e : En) (S : Store), k < n → I k e S → wR (whX c g n e S) R := by
    intro n
    induction n with
    | zero => intro k e S h; exact absurd h (Nat.not_lt_zero _)
    | succ n ih =>
      intro k e S hk hI
      rw [wR_wh]
      refine (hs k e S hI).mono (fun b S1 h => ?_) fun _ _ _ z => z
      cases b with
      | false => exact h
      | true =>
        rw [if_pos rfl] at h ⊢
        obtain ⟨k', rfl, h⟩ := h
        exact h.mono (fun e S z => ih k' e S (by omega) z) (fun _ _ z => z) (fun _ _ z => z) (fun e S z => ih k' e S (by omega) z) fun _ _ _ _ z => z
  exact key WF m env S hm h0
/-! ### {k: v} -/
abbrev Fv : Type := En → Store → Out Val
def dPairs : List (Fv × Fv) → En → Store → Out (List (Val × Val))
  | [], _, S => .ok [] S
  | (fk, fv) :: r, env, S => (fk env S).bind fun x S1 => (fv env S1).bind fun y S2 => (dPairs r env S2).bind fun ps S3 => .ok ((x, y) :: ps) S3
def keyPairs : List (Val × Val) → Option (List (Key × Val))
  | [] => some []
  | (x, y) :: r => (keyOf x).bind fun k => (keyPairs r).map fun ps => (k, y) :: ps
def mergeD (kvs more : List (Key × Val)) : List (Key × Val) := more.foldl (fun acc kv => putD acc kv.1 kv.2) kvs
open Classical in
noncomputable def kDisp (n : Nat) (ps : List (Val × Val)) (S : Store) : Out Val := match keyPairs ps with
  | some kvs => if S[n]? = some (.dk []) ∧ kvs.length ≤ 15 then .ok (.ref n) (S.set n (.dk (mergeD [] kvs))) else .bad
  | none => .bad
noncomputable def eDisp (l : List (Fv × Fv)) : Fv := fun env S => (dPairs l env (S ++ [.dk []])).bind (kDisp S.length)
section
variable {X : Cx} {Y : Sy} {W : WX} {pos : Pos}
def SPs (X : Cx) (Y : Sy) (W : WX) (pos : Pos) (keys : List (Option Expr)) (values : List Expr) (l : List (Fv × Fv)) : Prop := PPs X pos keys values (l.map fun p => (tG X.K Y W (RV X.K) p.1, tG X.K Y W (RV X.K) p.2))
theorem sps_nil : SPs X Y W pos [] [] [] := pps_nil
theorem sps_cons {k v : Expr} {ks : List (Option Expr)} {vs : List Expr} {fk fv : Fv} {l : List (Fv × Fv)} (hk : SE X Y W k fk) (hv : SE X Y W v fv) (hr : SPs X Y W pos ks vs l) : SPs X Y W pos (some k :: ks) (v :: vs) ((fk, fv) :: l) := pps_cons hk hv hr
theorem tPairs_of {l : List (Fv × Fv)} : ∀ {σ : L2.St} {H : Hp} {ρ : List Addr} {env : En} {S : Store} {k' : List (Val × Val) → Store → Out Val} {Q : VK} {Q' : List (V × V) → Hp → Prop}, ERep X.K Y ρ H σ env → Sim X.K Y ρ H S → Post X.K Y (fun cls d H' => W cls d σ H') ρ H (RV X.K) Q ((dPairs l env S).bind k') →
    (∀ ρ1 H1 S1 (qs : List (V × V)) ps, Pre ρ ρ1 → Ext H H1 → Sim X.K Y ρ1 H1 S1 → Paired (fun (p : V × V) (q : Val × Val) => Rep X.K ρ1 H1 p.1 q.1 ∧ Rep X.K ρ1 H1 p.2 q.2) qs ps → Post X.K Y (fun cls d H' => W cls d σ H') ρ1 H1 (RV X.K) Q (k' ps S1) → Q' qs H1) →
    tPairs (l.map fun p => (tG X.K Y W (RV X.K) p.1, tG X.K Y W (RV X.K) p.2)) σ H Q' := by
  induction l with
  | nil =>
    intro σ H ρ env S k' Q Q' he hs h q
    exact q ρ H S [] [] (Pre.refl _) (Ext.refl _) hs .nil h
  | cons p r ih =>
    obtain ⟨fk, fv⟩ := p
    intro σ H ρ env S k' Q Q' he hs h q
    have h' : Post X.K Y (fun cls d H' => W cls d σ H') ρ H (RV X.K) Q ((fk env S).bind fun x S1 => (fv env S1).bind fun y S2 => (dPairs r env S2).bind fun ps S3 => k' ((x, y) :: ps) S3) := by
      have e : (dPairs ((fk, fv) :: r) env S).bind k' = ((fk env S).bind fun x S1 => (fv env S1).bind fun y S2 => (dPairs r env S2).bind fun ps S3 => k' ((x, y) :: ps) S3) := by
        simp only [dPairs]
        cases fk env S with
        | ok x S1 =>
          simp only [Out.bind]
          cases fv env S1 with
          | ok y S2 =>
            simp only [Out.bind]
            cases dPairs r env S2 <;> rfl
          | _ => rfl
        | _ => rfl
      rw [← e]; exact h
    refine tG.go he hs h' fun ρ1 v x H1 S1 p1 e1 he1 hs1 rx hp1 => ?_
    refine tG.go he1 hs1 hp1 fun ρ2 u y H2 S2 p2 e2 he2 hs2 ry hp2 => ?_
    refine ih (k' := fun ps S3 => k' ((x, y) :: ps) S3) he2 hs2 hp2 fun ρ3 H3 S3 qs ps p3 e3 hs3 rp hp3 => ?_
    exact q ρ3 H3 S3 _ _ ((p1.trans p2).trans p3) ((e1.trans e2).trans e3) hs3 (.cons ⟨rx.up (p2.trans p3) (e2.trans e3), ry.up p3 e3⟩ rp) hp3
theorem keyPairs_rep {K : PySem.W.Frag} {ρ : List Addr} {H : Hp} : ∀ {qs : List (V × V)} {ps : List (Val × Val)} {kvs : List (Key × Val)}, Paired (fun (p : V × V) (q : Val × Val) => Rep K ρ H p.1 q.1 ∧ Rep K ρ H p.2 q.2) qs ps → keyPairs ps = some kvs →
    ∃ ws : List (Key × V), qs = ws.map (fun kv => (kV kv.1, kv.2)) ∧ RepK K ρ H ws kvs
  | _, _, _, .nil, h => by simp only [keyPairs, Option.some.injEq] at h; subst h; exact ⟨[], rfl, .nil⟩
  | (a, b) :: _, (c, d) :: _, _, .cons h1 h2, h => by
    simp only [keyPairs, Option.bind_eq_some_iff, Option.map_eq_some_iff] at h
    obtain ⟨k, e1, rs, e2, rfl⟩ := h
    obtain ⟨ws, rfl, rk⟩ := keyPairs_rep h2 e2
    obtain ⟨h3, h4⟩ := h1
    have := keyOf_rep h3 e1
    dsimp only at this
    subst this
    exact ⟨(k, b) :: ws, rfl, .cons ⟨rfl, h4⟩ rk⟩
theorem RepK.merge {K : PySem.W.Frag} {ρ : List Addr} {H : Hp} : ∀ {ws : List (Key × V)} {kvs : List (Key × Val)} {ws0 : List (Key × V)} {kvs0 : List (Key × Val)}, RepK K ρ H ws kvs → RepK K ρ H ws0 kvs0 → RepK K ρ H (mergeK ws0 ws) (mergeD kvs0 kvs)
  | _, _, _, _, .nil, h0 => h0
  | (a, v) :: ws, (b, x) :: kvs, _, _, .cons h r, h0 => by
    obtain ⟨h1, h2⟩ := h
    obtain rfl : a = b := h1
    exact RepK.merge (ws := ws) (kvs := kvs) r (h0.put a h2)
theorem se_disp {keys : List (Option Expr)} {values : List Expr} {l : List (Fv × Fv)} (h : SPs X Y W pos keys values l) (hall : keys.all (·.isSome) = true := by rfl) (hl : keys.length = values.length := by rfl) (h0 : keys ≠ [] := by simp) (h15 : keys.length ≤ 15 := by decide) : SE X Y W (.Dict keys values pos) (eDisp l) := by
  refine PE.imp (pe_disp h hall hl h0 h15) fun σ H Q hq => ?_
  obtain ⟨ρ, env, S, he, hs, hp⟩ := hq
  intro p hn
  have hs1 : Sim X.K Y (ρ ++ [p]) (upd H p (.dK [])) (S ++ [.dk []]) := hs.new hn ⟨[], upd_same, .nil⟩
  have pn : (ρ ++ [p])[S.length]? = some p := by rw [← hs.len]; simp
  refine tPairs_of (k' := kDisp S.length) (he.up (Pre.snoc _ _) (Ext.new hn)) hs1 (Post.up (Pre.snoc _ _) (Ext.new hn) hp) fun ρ1 H1 S1 qs ps p1 e1 hs2 rp hp1 => ?_
  unfold kDisp at hp1
  split at hp1
  · rename_i kvs ek
    split at hp1
    · rename_i hc
      obtain ⟨ws, rfl, rk⟩ := keyPairs_rep rp ek
      have pi := p1 _ _ pn
      obtain ⟨ws0, e0, r0⟩ := hs2.dk pi hc.1
      have : ws0 = [] := by
        have := r0.length
        exact List.eq_nil_of_length_eq_zero (by simpa using this)
      subst this
      have ex : Ext H1 (upd H1 p (.dK (mergeK [] ws))) := Ext.mut e0 (fun z => z)
      obtain ⟨q1, q2⟩ := hs2.put (u := .dK (mergeK [] ws)) (o := .dk (mergeD [] kvs)) pi ⟨_, upd_same, (rk.merge .nil).up (Pre.refl _) ex⟩
      exact ⟨e0, ws, rfl, by rw [rk.length]; exact hc.2, hp1 _ ρ1 _ (Pre.refl _) ex q2 (.ref pi)⟩
    · exact hp1.elim
  · exact hp1.elim
end
end Mp

set_option Elab.async false
set_option linter.all false
set_option maxRecDepth 100000
set_option maxHeartbeats 1000000
/-! min of a list of data, also with a default. -/
namespace Mp
open PySem PySem.Spec PyProof.Rows L2
mutual
theorem toD_inj : ∀ (x y : Val) (d : PyData), toD x = some d → toD y = some d → x = y
  | .non, y, d, h, k => by cases y <;> simp_all [toD] <;> subst h <;> simp_all
  | .bl b, y, d, h, k => by cases y <;> simp_all [toD] <;> subst h <;> simp_all
  | .int b, y, d, h, k => by cases y <;> simp_all [toD] <;> subst h <;> simp_all
  | .str b, y, d, h, k => by cases y <;> simp_all [toD] <;> subst h <;> simp_all
  | .tup xs, y, d, h, k => by
    simp only [toD, Option.map_eq_some_iff] at h
    obtain ⟨ds, h1, rfl⟩ := h
    cases y with
    | tup ys =>
      simp only [toD, Option.map_eq_some_iff, PyData.tuple.injEq] at k
      obtain ⟨es, k1, rfl⟩ := k
      rw [toDs_inj xs ys _ h1 k1]
    | frz ys => simp [toD] at k
    | ref _ => simp [toD] at k
    | _ => simp [toD] at k
  | .frz xs, y, d, h, k => by
    simp only [toD, Option.map_eq_some_iff] at h
    obtain ⟨ds, h1, rfl⟩ := h
    cases y with
    | frz ys =>
      simp only [toD, Option.map_eq_some_iff, PyData.list.injEq] at k
      obtain ⟨es, k1, rfl⟩ := k
      rw [toDs_inj xs ys _ h1 k1]
    | _ => simp [toD] at k
  | .ref _, y, d, h, k => by simp [toD] at h
  | .ktp _, y, d, h, k => by simp [toD] at h
theorem toDs_inj : ∀ (xs ys : List Val) (ds : List PyData), toDs xs = some ds → toDs ys = some ds → xs = ys
  | [], ys, ds, h, k => by
    simp only [toDs, Option.some.injEq] at h; subst h
    cases ys with
    | nil => rfl
    | cons y r =>
      simp only [toDs, Option.bind_eq_some_iff, Option.map_eq_some_iff] at k
      obtain ⟨b, _, bs, _, z⟩ := k
      cases z
  | x :: xs, ys, ds, h, k => by
    simp only [toDs, Option.bind_eq_some_iff, Option.map_eq_some_iff] at h
    obtain ⟨a, h1, as, h2, rfl⟩ := h
    cases ys with
    | nil => simp [toDs] at k
    | cons y r =>
      simp only [toDs, Option.bind_eq_some_iff, Option.map_eq_some_iff, List.cons.injEq] at k
      obtain ⟨b, k1, bs, k2, rfl, rfl⟩ := k
      rw [toD_inj x y _ h1 k1, toDs_inj xs r _ h2 k2]
end
/-- the first of the least -/
def minV (x : Val) (xs : List Val) : Val := xs.foldl (fun a y => if PySem.W.dataLt (dOf y) (dOf a) = true then y else a) x
theorem minV_toD : ∀ (xs : List Val) (x : Val) (d : PyData) (ds : List PyData), toD x = some d → toDs xs = some ds → toD (minV x xs) = some (PySem.W.minD d ds)
  | [], x, d, ds, h, k => by
    simp only [toDs, Option.some.injEq] at k; subst k
    exact h
  | y :: r, x, d, ds, h, k => by
    simp only [toDs, Option.bind_eq_some_iff, Option.map_eq_some_iff] at k
    obtain ⟨e, k1, es, k2, rfl⟩ := k
    have e1 := dOf_of h
    have e2 := dOf_of k1
    show toD (minV (if PySem.W.dataLt (dOf y) (dOf x) = true then y else x) r) = some (PySem.W.minD (if PySem.W.dataLt e d = true then e else d) es)
    rw [e1, e2]
    split
    · exact minV_toD r y e es k1 k2
    · exact minV_toD r x d es h k2
def AlD (ds : List PyData) : Prop := PySem.W.AlikeAll ds ∧ PyData.depthAll ds ≤ 60
def rMin : List V → List V → Hp → VK → Prop := fun _ _ _ _ => False
def rMinD (K : PySem.W.Frag) : List V → List V → Hp → VK → Prop := fun vs zs H Q => ∃ (a : Addr) (d : V) (ws : List V) (ds : List PyData), vs = [.ref a] ∧ zs = [d] ∧ SqL K H a ws ∧ DpAll K H ws ds ∧ AlD ds ∧ (ds = [] → Q d H) ∧
  ∀ (y : PyData) (ys : List PyData) (i : Nat) (v : V), ds = y :: ys → ws[i]? = some v → ds[i]? = some (PySem.W.minD y ys) → Q v H
theorem dpAll_get {K : PySem.W.Frag} {H : Hp} : ∀ {ws : List V} {ds : List PyData} {i : Nat} {v : V}, DpAll K H ws ds → ws[i]? = some v → ∃ d, ds[i]? = some d ∧ Dp K H v d
  | _, _, _, _, .nil, h => by simp at h
  | _, _, 0, _, .cons h _, e => by simp at e; subst e; exact ⟨_, rfl, h⟩
  | _, _, i + 1, v, .cons _ r, e => by
    obtain ⟨x, h1, h2⟩ := dpAll_get (i := i) (v := v) r (by simpa using e)
    exact ⟨x, by simpa using h1, h2⟩
theorem toDs_get : ∀ {xs : List Val} {ds : List PyData} {i : Nat} {x : Val}, toDs xs = some ds → xs[i]? = some x → ∃ d, ds[i]? = some d ∧ toD x = some d
  | [], _, _, _, _, h => by simp at h
  | y :: r, _, i, x, h, e => by
    simp only [toDs, Option.bind_eq_some_iff, Option.map_eq_some_iff] at h
    obtain ⟨a, h1, as, h2, rfl⟩ := h
    cases i with
    | zero => simp at e; subst e; exact ⟨a, by simp, h1⟩
    | succ i =>
      obtain ⟨d, q1, q2⟩ := toDs_get h2 (by simpa using e)
      exact ⟨d, by simpa using q1, q2⟩
theorem vals_getV : ∀ {xs : List V} {us : List Value} {i : Nat} {u : Value}, Vals xs us → us[i]? = some u → ∃ x, xs[i]? = some x ∧ RelV x u
  | _, _, _, _, .nil, h => by simp at h
  | _, _, 0, _, .cons h _, e => by simp at e; subst e; exact ⟨_, rfl, h⟩
  | _, _, i + 1, u, .cons _ r, e => by
    obtain ⟨x, h1, h2⟩ := vals_getV (i := i) (u := u) r (by simpa using e)
    exact ⟨x, by simpa using h1, h2⟩
section
variable {X : Cx} {Y : Sy} {W : WX} {p pos : Pos} {e d : Expr} {fe fd : En → Store → Out Val}
theorem min_item {pins : List (Addr × Obj)} {s : Shared} {σ : L2.St} {H : Hp} {a : Addr} {ws : List V} {ds : List PyData} {its : List Value} {y : PyData} {ys : List PyData} {i : Nat} {v : Value} {h' : Heap} {tk : Nat} {bs : List Addr}
    (I : Inv X pins σ H { s with heap := h', toks := tk }) (hd : DpAll X.K H ws ds) (rv : Vals ws its) (hi : its.toArray[i]? = some v) (r : Reads h' v (PySem.W.minD y ys) bs) : ∃ u, ws[i]? = some u ∧ RelV u v ∧ ds[i]? = some (PySem.W.minD y ys) := by
  obtain ⟨u, h1, h2⟩ := vals_getV rv (by simpa using hi)
  obtain ⟨b, h3, h4⟩ := dpAll_get hd h1
  obtain ⟨as, h5⟩ := Dp.reads I b u v h4 h2
  have := (Reads.unique h5 _ _ r).1
  subst this
  exact ⟨u, h1, h2, h3⟩
theorem cr_minD (hc : X.calm = true) (hu : X.A.units + 64 < cLine) : CallRK X (.builtin "min") [Str.ofString "default"] (rMinD X.K) := by
  intro pins s σ H xs zs us ws' Q I r rz h
  obtain ⟨a, d, ws, ds, rfl, rfl, hs, hd, hal, h0, h1⟩ := h
  obtain ⟨its, rv, pl, hz⟩ := I.list hs
  obtain ⟨as, ra⟩ := Dp.readsAll I ds ws its hd rv
  rw [Vals.ref1 r]
  obtain ⟨z, rfl, rz1⟩ := vals1 rz
  refine PySem.W.min_list_default (I.ok.hd hc) pl.isList (xs := ds) (by simpa using ra) hal.1 (by have := hal.2; omega) (fun hn h' tk kp => ?_) fun y ys i v h' tk bs hy hi rd kp => ?_
  · exact ⟨d, H, I.kept kp, rz1, h0 hn⟩
  · have I2 : Inv X pins σ H { s with heap := h', toks := tk } := I.kept kp
    obtain ⟨u, q1, q2, q3⟩ := min_item (a := a) I2 hd rv hi rd
    exact ⟨u, H, I2, q2, h1 y ys i u hy q1 q3⟩
open Classical in
noncomputable def kMinD (x d : Val) (S : Store) : Out Val := match getL S x with
  | some [] => .ok d S
  | some (y :: ys) => if ∃ ds, toDs (y :: ys) = some ds ∧ AlD ds then .ok (minV y ys) S else .bad
  | none => .bad
noncomputable def eMinD (fe fd : En → Store → Out Val) : En → Store → Out Val := fun env S => (fe env S).bind fun x S1 => (fd env S1).bind fun d S2 => kMinD x d S2
theorem se_minD (c : X.calm = true) (hu : X.A.units + 64 < cLine) {kp : Pos} (hg : Gl X "min") (hm : X.mg "min" = none) (ha : SE X Y W e fe) (hd : SE X Y W d fd)
    (he : backTo pos (starEach [e] X.env) = (false, eval e X.env) :: backTo pos (starEach [] X.env) := by rfl) (hpl : (backTo pos (starEach [e] X.env)).any (·.1) = false := by rfl)
    (hall : (backToKw pos (keywordEach [⟨some (Str.ofString "default"), d, kp⟩] X.env)).all (·.1.isSome) = true := by rfl) (hnone : (backToKw pos (keywordEach [⟨some (Str.ofString "default"), d, kp⟩] X.env)).any (·.1.isNone) = false := by rfl)
    (hks : (backToKw pos (keywordEach [⟨some (Str.ofString "default"), d, kp⟩] X.env)).filterMap (·.1) = [Str.ofString "default"] := by rfl)
    (na : starEach [e] X.env = (false, eval e X.env) :: starEach [] X.env := by rfl) :
    SE X Y W (.Call (.Name "min" p) [e] [⟨some (Str.ofString "default"), d, kp⟩] pos) (eMinD fe fd) := by
  refine PE.imp (pe_callBK (cr_minD c hu) hg hm (by decide +kernel) (pa_cons ha pa_nil na) (pk_cons hd pk_nil) (he := he) (hpl := hpl) (hall := hall) (hnone := hnone) (hks := hks)) fun σ H Q h => ?_
  refine tG.bind (k := fun env x S1 => (fd env S1).bind fun d S2 => kMinD x d S2) h fun ρ env v x H1 S1 he hs rx hp => ?_
  refine tG.go he hs hp fun ρ2 u y H2 S2 p2 e2 he2 hs2 ry hp2 => ?_
  have rx2 := rx.up p2 e2
  unfold kMinD at hp2
  split at hp2
  · rename_i hx
    obtain ⟨a, ws, rfl, hq, r⟩ := getL_rep hs2 rx2 hx
    have : ws = [] := List.eq_nil_of_length_eq_zero (by simpa using r.length)
    subst this
    exact ⟨a, u, [], [], rfl, rfl, hq, .nil, ⟨⟨by simp, by simp⟩, by simp [PyData.depthAll]⟩, fun _ => hp2 u ρ2 H2 (Pre.refl _) (Ext.refl _) hs2 ry, fun y ys i v hy => by cases hy⟩
  · rename_i z zs hx
    split at hp2
    · rename_i hc
      obtain ⟨ds, e1, hal⟩ := hc
      obtain ⟨a, ws, rfl, hq, r⟩ := getL_rep hs2 rx2 hx
      have hdp := toDs_dp r e1
      refine ⟨a, u, ws, ds, rfl, rfl, hq, hdp, hal, fun hn => ?_, fun y ys i v hy hv hdv => ?_⟩
      · subst hn
        simp only [toDs, Option.bind_eq_some_iff, Option.map_eq_some_iff] at e1
        obtain ⟨b, _, bs, _, z⟩ := e1
        cases z
      · subst hy
        obtain ⟨t, q1, q2⟩ := r.getV hv
        have e1' := e1
        simp only [toDs, Option.bind_eq_some_iff, Option.map_eq_some_iff, List.cons.injEq] at e1'
        obtain ⟨d0, k1, ds0, k2, rfl, rfl⟩ := e1'
        have km := minV_toD zs z _ _ k1 k2
        obtain ⟨dt, kt, kt2⟩ := toDs_get e1 q1
        rw [hdv] at kt
        cases kt
        have : t = minV z zs := toD_inj _ _ _ kt2 km
        rw [← this] at hp2
        exact hp2 v ρ2 H2 (Pre.refl _) (Ext.refl _) hs2 q2
    · exact hp2.elim
  · exact hp2.elim
end
end Mp

set_option Elab.async false
set_option linter.all false
set_option maxRecDepth 100000
set_option maxHeartbeats 1000000
/-! min of a list of data. -/
namespace Mp
open PySem PySem.Spec PyProof.Rows L2
def rMinL (K : PySem.W.Frag) : List V → Hp → VK → Prop := fun vs H Q => ∃ (a : Addr) (ws : List V) (y : PyData) (ys : List PyData), vs = [.ref a] ∧ SqL K H a ws ∧ DpAll K H ws (y :: ys) ∧ AlD (y :: ys) ∧
  ∀ (i : Nat) (v : V), ws[i]? = some v → (y :: ys)[i]? = some (PySem.W.minD y ys) → Q v H
section
variable {X : Cx} {Y : Sy} {W : WX} {p pos : Pos} {e : Expr} {ga : En → Store → Out (List Val)}
theorem cr_minL (hc : X.calm = true) (hu : X.A.units + 64 < cLine) : CallR X (.builtin "min") (rMinL X.K) := by
  intro pins s σ H vs us Q I r h
  obtain ⟨a, ws, y, ys, rfl, hs, hd, hal, h1⟩ := h
  obtain ⟨its, rv, pl, hz⟩ := I.list hs
  obtain ⟨as, ra⟩ := Dp.readsAll I (y :: ys) ws its hd rv
  rw [Vals.ref1 r]
  refine PySem.W.min_list_data (I.ok.hd hc) pl.isList (x := y) (xs := ys) (by simpa using ra) hal.1 (by have := hal.2; omega) fun i v h' tk bs hi rd kp => ?_
  have I2 : Inv X pins σ H { s with heap := h', toks := tk } := I.kept kp
  obtain ⟨u, q1, q2, q3⟩ := min_item (a := a) I2 hd rv hi rd
  exact ⟨u, H, I2, q2, h1 i u q1 q3⟩
open Classical in
noncomputable def fMinL : Fn := fun vs S => match vs with
  | [x] => match getL S x with
    | some (y :: ys) => if ∃ ds, toDs (y :: ys) = some ds ∧ AlD ds then .ok (minV y ys) S else .bad
    | _ => .bad
  | _ => .bad
theorem se_minL (hc : X.calm = true) (hu : X.A.units + 64 < cLine) (hg : Gl X "min") (hm : X.mg "min" = none) (ha : SA X Y W [e] ga) (he : starEach [e] X.env = [(false, eval e X.env)] := by rfl) : SE X Y W (.Call (.Name "min" p) [e] [] pos) (eCall fMinL ga) := by
  refine se_b (cr_minL hc hu) (fun W' ρ H S vs xs Q hs rx h => ?_) hg hm (by decide +kernel) ha (he := he)
  unfold fMinL at h
  split at h
  · rename_i x
    split at h
    · rename_i z zs hx
      split at h
      · rename_i hcc
        obtain ⟨ds, e1, hal⟩ := hcc
        obtain ⟨v, rfl, rv⟩ := reps1 rx
        obtain ⟨a, ws, rfl, hq, r⟩ := getL_rep hs rv hx
        have hdp := toDs_dp r e1
        have e1' := e1
        simp only [toDs, Option.bind_eq_some_iff, Option.map_eq_some_iff] at e1'
        obtain ⟨d0, k1, ds0, k2, rfl⟩ := e1'
        refine ⟨a, ws, d0, ds0, rfl, hq, hdp, hal, fun i v hv hdv => ?_⟩
        obtain ⟨t, q1, q2⟩ := r.getV hv
        have km := minV_toD zs z _ _ k1 k2
        obtain ⟨dt, kt, kt2⟩ := toDs_get e1 q1
        rw [hdv] at kt
        cases kt
        have : t = minV z zs := toD_inj _ _ _ kt2 km
        rw [← this] at h
        exact h v ρ H (Pre.refl _) (Ext.refl _) hs q2
      · exact h.elim
    · exact h.elim
  · exact h.elim
end
theorem wO_minL {S : Store} {x y : Val} {ys : List Val} {P : Val → Store → Prop} {E : XO} (h : getL S x = some (y :: ys)) (c : ∃ ds, toDs (y :: ys) = some ds ∧ AlD ds) : wO (fMinL [x] S) P E = P (minV y ys) S := by
  unfold fMinL
  simp only [h, if_pos c]
  rfl
end Mp

set_option Elab.async false
set_option linter.all false
set_option maxRecDepth 100000
set_option maxHeartbeats 1000000
/-! sorted of pairs of numbers, truth values among them. -/
namespace Mp
open PySem PySem.Calls PySem.W PyProof.Rows
def bi (p : Bool) : Int := if p = true then 1 else 0
theorem gives_lt_bi (p : Bool) (b : Int) (u : Tok) : Gives (Builtin.«int.__lt__» ⟨[.bool p, .int b u], []⟩) (.val (Value.bool (decide (bi p < b)))) :=
  .of_wp fun M A E s Q h => by
    obtain ⟨hp, g, d, tk, os⟩ := s
    wp_walk
    exact ⟨_, rfl, h⟩
theorem gives_gt_bi (q : Bool) (a : Int) (t : Tok) : Gives (Builtin.«int.__gt__» ⟨[.bool q, .int a t], []⟩) (.val (Value.bool (decide (bi q > a)))) :=
  .of_wp fun M A E s Q h => by
    obtain ⟨hp, g, d, tk, os⟩ := s
    wp_walk
    exact ⟨_, rfl, h⟩
/-- the right one's type comes of the left one's: it is asked first -/
theorem rich_sub {M : Model} {A : Around} {E : Value → Shared → Prop} {s : Shared} {a b : Value} {Ta Tb idb : String} {op : CmpOp} {Q : Value → Shared → Prop} (ha : s.TypeIs a Ta) (hb : s.TypeIs b Tb)
    (hne : (Value.type Ta != Value.type Tb) = true) (hsub : isSubtype (.type Tb) (.type Ta) = pure true) (h2 : Slot Tb (cmpInfo op).2.2 idb)
    (hc : wpAny M A (call (.builtin idb) [b, a]) (fun v s' => v ≠ .notImplemented ∧ Q v s') E s) (hv : [a, b].any Value.onHeap = false := by rfl) : wpAny M A (richCompare op a b) Q E s := by
  generalize hi : cmpInfo op = k at h2
  obtain ⟨sym, f, r⟩ := k
  simp only [richCompare, hi, ha.oneThing_none]
  try with_reducible
    refine wpAny_holding ?_
  simp only [cRoomFor, hv, Bool.false_eq_true, if_false, pure_bind]
  refine wpAny_bind (wpAny_typeOf ha ?_)
  refine wpAny_bind (wpAny_typeOf hb ?_)
  simp only [hne, if_true]
  refine wpAny_bind (wpAny_of_eq hsub ?_)
  simp only [if_true]
  refine wpAny_bind (m := tryCompare b r a) (wpAny_tryCompare_slot hb h2 (wpAny_mono hc (fun v s' z => ⟨z.1, ?_⟩) fun _ _ z => z))
  exact wpAny_bind (wpAny_rule (wpAny_pure z.2))
inductive Nu : Value → Int → Prop
  | int (a : Int) (t : Tok) : Nu (.int a t) a
  | bl (b : Bool) : Nu (.bool b) (bi b)
section
variable {prog : Program} {w : World} {A : Around} {E : Value → Shared → Prop} {s : Shared}
theorem lt_bi {Q : Value → Shared → Prop} {p : Bool} {b : Int} {u : Tok} (h : Q (.bool (decide (bi p < b))) s) : wpAny (model prog w) A (richCompare .Lt (.bool p) (.int b u)) Q E s :=
  wpAny_richCompare_left (typeIs_bool' s p) (typeIs_int s b u) (by decide) F.sub_int_bool F.slot_bool_lt (call_gives F.slot_bool_lt (typeIs_bool' s p) F.entry_int_lt (F.args_int_lt_2 _ _) (gives_lt_bi p b u) ⟨nofun, h⟩)
theorem lt_ib {Q : Value → Shared → Prop} {a : Int} {t : Tok} {q : Bool} (h : Q (.bool (decide (bi q > a))) s) : wpAny (model prog w) A (richCompare .Lt (.int a t) (.bool q)) Q E s :=
  rich_sub (typeIs_int s a t) (typeIs_bool' s q) (by decide) F.sub_bool_int F.slot_bool_gt (call_gives F.slot_bool_gt (typeIs_bool' s q) F.entry_int_gt (F.args_int_gt_2 _ _) (gives_gt_bi q a t) ⟨nofun, h⟩)
theorem nu_lt {Q : Value → Shared → Prop} {x y : Value} {a b : Int} (hx : Nu x a) (hy : Nu y b) (h : Q (.bool (decide (a < b))) s) : wpAny (model prog w) A (richCompare .Lt x y) Q E s := by
  cases hx with
  | int a t => cases hy with
    | int b u => exact (PyProof.Rows.lt_int h : wpAny (model prog w) A (compareOp .Lt (.int a t) (.int b u)) Q E s)
    | bl q => exact lt_ib h
  | bl p => cases hy with
    | int b u => exact lt_bi h
    | bl q => exact (PyProof.Rows.lt_bool (p := p) (q := q) h : wpAny (model prog w) A (compareOp .Lt (.bool p) (.bool q)) Q E s)
theorem nu_eq {x y : Value} {a b : Int} (hx : Nu x a) (hy : Nu y b) : SeqAt.EqAt A s x y (decide (a = b)) := by
  cases hx with
  | int a t => cases hy with
    | int b u =>
      have e : (a == b) = decide (a = b) := by rw [Bool.eq_iff_iff]; simp
      rw [← e]; exact SeqAt.EqAt.int_int a t b u
    | bl q =>
      have e : (a == (if q = true then 1 else 0)) = decide (a = bi q) := by rw [Bool.eq_iff_iff, beq_iff_eq, decide_eq_true_iff]; rfl
      rw [← e]; exact SeqAt.EqAt.int_bool a t q
  | bl p => cases hy with
    | int b u =>
      have e : ((if p = true then 1 else 0) == b) = decide (bi p = b) := by rw [Bool.eq_iff_iff, beq_iff_eq, decide_eq_true_iff]; rfl
      rw [← e]; exact SeqAt.EqAt.bool_int p b u
    | bl q =>
      have e : (p == q) = decide (bi p = bi q) := by cases p <;> cases q <;> simp [bi]
      rw [← e]; exact SeqAt.EqAt.bool_bool p q
def tyN : Value → Value
  | .bool _ => .type "bool"
  | _ => .type "int"
theorem nu_one {f : Bool} {Q : Bool → Shared → Prop} {x y : Value} {a b : Int} (hx : Nu x a) (hy : Nu y b) (hf : f = true → tyN x = tyN y) (h : Q (decide (a < b)) s) : wpAny (model prog w) A (oneLt' f x y) Q E s := by
  cases f with
  | false =>
    rw [oneLt'_eq]
    simp only [Bool.false_eq_true, if_false]
    exact wpAny_bind (nu_lt hx hy (wpAny_truthy_bool h))
  | true =>
    have ht := hf rfl
    cases hx with
    | int a t => cases hy with
      | int b u => exact oneLt_int h
      | bl q => exact absurd ht (by simp [tyN])
    | bl p => cases hy with
      | int b u => exact absurd ht (by simp [tyN])
      | bl q => exact oneLt_bool h
/-- a pair of numbers in the heap -/
structure PrAt (h : Heap) (v : Value) (a b : Int) : Prop where
  ex : ∃ l o xs n x y, v = .ref l ∧ h.get? l = some o ∧ o.cls = .type "tuple" ∧ o.data = .seq xs n ∧ xs.toList = [x, y] ∧ Nu x a ∧ Nu y b
theorem nu_fun {x : Value} {a b : Int} (h : Nu x a) (k : Nu x b) : a = b := by
  cases h <;> cases k <;> rfl
theorem PrAt.fun {h : Heap} {v : Value} {a b c d : Int} (p : PrAt h v a b) (q : PrAt h v c d) : a = c ∧ b = d := by
  obtain ⟨l, o, xs, n, x, y, rfl, h1, _, h3, h4, h5, h6⟩ := p.ex
  obtain ⟨l', o', xs', n', x', y', e, k1, _, k3, k4, k5, k6⟩ := q.ex
  cases e
  rw [h1] at k1
  cases k1
  rw [h3] at k3
  cases k3
  rw [h4] at k4
  simp only [List.cons.injEq, and_true] at k4
  obtain ⟨rfl, rfl⟩ := k4
  exact ⟨nu_fun h5 k5, nu_fun h6 k6⟩
open Classical in
noncomputable def prKind (h : Heap) (ks : List Value) : KeyKind where
  toKeyOrd := listOrd itemOrd
  keyOf v := if q : v ∈ ks ∧ ∃ k : Int × Int, PrAt h v k.1 k.2 then some [.inl q.2.choose.1, .inl q.2.choose.2] else none
  dflt := ([] : List (Int ⊕ List Nat))
theorem prKind_some {h : Heap} {ks : List Value} {v : Value} {a b : Int} (hv : v ∈ ks) (p : PrAt h v a b) : (prKind h ks).keyOf v = some [.inl a, .inl b] := by
  have q : v ∈ ks ∧ ∃ k : Int × Int, PrAt h v k.1 k.2 := ⟨hv, (a, b), p⟩
  obtain ⟨e1, e2⟩ := q.2.choose_spec.fun p
  have e : (prKind h ks).keyOf v = some [.inl q.2.choose.1, .inl q.2.choose.2] := dif_pos q
  rw [e, e1, e2]
theorem prKind_inv {h : Heap} {ks : List Value} {v : Value} {k : List (Int ⊕ List Nat)} (e : (prKind h ks).keyOf v = some k) : v ∈ ks ∧ ∃ a b, PrAt h v a b ∧ k = [.inl a, .inl b] := by
  by_cases q : v ∈ ks ∧ ∃ k : Int × Int, PrAt h v k.1 k.2
  · have e' : (prKind h ks).keyOf v = some [.inl q.2.choose.1, .inl q.2.choose.2] := dif_pos q
    rw [e'] at e
    exact ⟨q.1, _, _, q.2.choose_spec, (Option.some.inj e).symm⟩
  · have e' : (prKind h ks).keyOf v = none := dif_neg q
    rw [e'] at e
    cases e
theorem pr_blt (a b c d : Int) : PyProof.Rows.lexLt itemOrd [.inl a, .inl b] [.inl c, .inl d] = (if a = c then (if b = d then false else decide (b < d)) else decide (a < c)) := by
  rw [lex_cons, lex_cons]
  show (decide (a < c) || (!decide (c < a) && (decide (b < d) || (!decide (d < b) && false)))) = _
  by_cases h1 : a = c
  · subst h1
    by_cases h2 : b = d
    · subst h2; simp
    · simp [h2]
  · by_cases h3 : a < c
    · simp [h1, h3]
    · have : c < a := by omega
      simp [h1, h3, this]
theorem kd_ty {vs : List Value} {h : Heap} : (∀ v ∈ vs, ∃ a b, PrAt h v a b) → ∃ fs, KatTups h vs fs ∧ fs.length = vs.length ∧ (∀ f ∈ fs, ∃ a, Nu f a) ∧ ∀ v ∈ vs, ∃ l o xs n x y, v = .ref l ∧ h.get? l = some o ∧ o.data = .seq xs n ∧ xs.toList = [x, y] ∧ x ∈ fs := by
  induction vs with
  | nil => intro _; exact ⟨[], KatTups.nil, rfl, by simp, by simp⟩
  | cons v r ih =>
    intro hv
    obtain ⟨fs, t1, t2, t3, t4⟩ := ih fun u hu => hv u (List.mem_cons_of_mem _ hu)
    obtain ⟨a, b, p⟩ := hv v (List.mem_cons_self ..)
    obtain ⟨l, o, xs, n, x, y, rfl, h1, h2, h3, h4, h5, h6⟩ := p.ex
    have hf : xs[0]? = some x := by rw [← Array.getElem?_toList, h4]; rfl
    refine ⟨x :: fs, KatTups.cons h1 h2 h3 hf t1, by simp [t2], fun f hf' => ?_, fun u hu => ?_⟩
    · rcases List.mem_cons.mp hf' with rfl | hf'
      · exact ⟨a, h5⟩
      · exact t3 f hf'
    · rcases List.mem_cons.mp hu with rfl | hu
      · exact ⟨l, o, xs, n, x, y, rfl, h1, h3, h4, List.mem_cons_self ..⟩
      · obtain ⟨l', o', xs', n', x', y', e1, e2, e3, e4, e5⟩ := t4 u hu
        exact ⟨l', o', xs', n', x', y', e1, e2, e3, e4, List.mem_cons_of_mem _ e5⟩
theorem mapM_tyN : ∀ {fs : List Value}, (∀ f ∈ fs, ∃ a, Nu f a) → fs.mapM typeOf = pure (fs.map tyN)
  | [], _ => by simp
  | f :: r, h => by
    have ih := mapM_tyN (fs := r) fun g hg => h g (List.mem_cons_of_mem _ hg)
    obtain ⟨a, ha⟩ := h f (List.mem_cons_self ..)
    have e : typeOf f = pure (tyN f) := by cases ha <;> rfl
    rw [List.mapM_cons, ih, e]
    simp
theorem tyN_cases (v : Value) : tyN v = .type "bool" ∨ tyN v = .type "int" := by
  cases v <;> simp [tyN]
def allT (fs : List Value) : Bool := (fs.map tyN).all (· == ((fs.map tyN).headD .none))
theorem pr_kind {vs fs : List Value} {E : Value → Shared → Prop} {Q : SortKind → Shared → Prop} (t : KatTups s.heap vs fs) (hne : 0 < fs.length) (hn : ∀ f ∈ fs, ∃ a, Nu f a) (h : Q (tuples' (allT fs)) s) :
    wpAny (model prog w) A (keyKind' vs.toArray) Q E s := by
  have e1 : ((fs.map some).toArray.all fun x => x.isSome) = true := by simp
  have e2 : ((fs.map some).toArray.filterMap id) = fs.toArray := by simp
  have e3 : fs.toArray.mapM typeOf = (pure (fs.map tyN).toArray : Sem (Array Value)) := by
    rw [List.mapM_toArray, mapM_tyN hn]
    simp
  rw [kat_kind_eq]
  rw [List.mapM_toArray]
  rw [map_eq_pure_bind]
  refine wpAny_bind (wpAny_bind (kat_firsts vs fs t (wpAny_pure ?_)))
  rw [if_pos e1]
  refine wpAny_bind (wpAny_rule ?_)
  rw [e2, oneTypeOnly'_eq, e3]
  simp only [pure_bind]
  obtain ⟨f, r, rfl⟩ : ∃ f r, fs = f :: r := by
    cases fs with
    | nil => simp at hne
    | cons f r => exact ⟨f, r, rfl⟩
  have e4 : (List.map tyN (f :: r)).toArray[0]? = some (tyN f) := by simp
  rw [e4]
  have e5 : ((List.map tyN (f :: r)).toArray.all fun x => x == tyN f) = allT (f :: r) := by
    unfold allT
    simp
  dsimp only
  rw [e5]
  have e6 : (tyN f != Value.type "tuple") = true := by
    cases f <;> rfl
  generalize allT (f :: r) = b at h ⊢
  cases b with
  | true =>
    simp only [if_true, pure_bind]
    have e7 : (Option.any (fun x => x != Value.type "tuple") (some (tyN f))) = true := e6
    rw [e7]
    exact wpAny_pure h
  | false =>
    simp only [Bool.false_eq_true, if_false, pure_bind]
    exact wpAny_pure h
theorem SortsAt.pairs {vs : List Value} (hp : ∀ v ∈ vs, ∃ a b, PrAt s.heap v a b) : SortsAt prog w A s (prKind s.heap vs) vs := by
  refine ⟨fun v hv => ?_, ?_⟩
  · obtain ⟨a, b, p⟩ := hp v hv
    exact ⟨_, prKind_some hv p⟩
  · obtain ⟨fs, t1, t2, t3, t4⟩ := kd_ty hp
    refine ⟨tuples' (allT fs), fun E x y a b Q hx hy hq => ?_, fun h2 E Q hq => pr_kind t1 (by omega) t3 hq⟩
    obtain ⟨mx, a1, a2, px, rfl⟩ := prKind_inv hx
    obtain ⟨my, b1, b2, py, rfl⟩ := prKind_inv hy
    have hq' : Q (PyProof.Rows.lexLt itemOrd [.inl a1, .inl a2] [.inl b1, .inl b2]) s := hq
    rw [pr_blt] at hq'
    obtain ⟨l, o, xs, n, u, v, rfl, h1, _, h3, h4, h5, h6⟩ := px.ex
    obtain ⟨l', o', xs', n', u', v', rfl, k1, _, k3, k4, k5, k6⟩ := py.ex
    have sx : xs.size = 2 := by rw [← Array.length_toList, h4]; rfl
    have sy : xs'.size = 2 := by rw [← Array.length_toList, k4]; rfl
    have same : allT fs = true → tyN u = tyN u' := fun hall => by
      have one : ∀ g ∈ fs, tyN g = ((fs.map tyN).headD .none) := fun g hg => by
        have z := List.all_eq_true.mp hall (tyN g) (List.mem_map.mpr ⟨g, hg, rfl⟩)
        obtain ⟨f0, r0, rfl⟩ : ∃ f0 r0, fs = f0 :: r0 := by
          cases fs with
          | nil => simp at hg
          | cons f0 r0 => exact ⟨f0, r0, rfl⟩
        show tyN g = tyN f0
        have z' : (tyN g == tyN f0) = true := z
        rcases tyN_cases g with e1 | e1 <;> rcases tyN_cases f0 with e2 | e2 <;> rw [e1, e2] at z' ⊢
        · exact absurd z' (by decide)
        · exact absurd z' (by decide)
      have inn : ∀ {v0 : Value} {m : Nat} {ys : Array Value} {oo : Obj} {l0 : Addr} {p q : Value}, v0 = .ref l0 → v0 ∈ vs → s.heap.get? l0 = some oo → oo.data = .seq ys m → ys.toList = [p, q] → p ∈ fs := fun e hm g1 g2 g3 => by
        obtain ⟨l1, o1, ys1, m1, p1, q1, e1, e2, e3, e4, e5⟩ := t4 _ hm
        rw [e] at e1
        cases e1
        rw [g1] at e2; cases e2
        rw [g2] at e3; cases e3
        rw [g3] at e4
        simp only [List.cons.injEq, and_true] at e4
        rw [e4.1]; exact e5
      rw [one u (inn rfl mx h1 h3 h4), one u' (inn rfl my k1 k3 k4)]
    refine kat_lt h1 h3 k1 k3 ?_
    rw [h4, k4, sx, sy]
    refine kat_cons (nu_eq h5 k5 prog w _ _ ?_)
    by_cases c1 : a1 = b1
    · rw [decide_eq_true c1]
      rw [if_pos c1] at hq'
      refine kat_yes (kat_cons (nu_eq h6 k6 prog w _ _ ?_))
      by_cases c2 : a2 = b2
      · rw [decide_eq_true c2]
        rw [if_pos c2] at hq'
        exact kat_yes (kat_nil hq')
      · rw [decide_eq_false c2]
        rw [if_neg c2] at hq'
        exact kat_no (nu_one h6 k6 (fun z => by simp at z) hq')
    · rw [decide_eq_false c1]
      rw [if_neg c1] at hq'
      exact kat_no (nu_one h5 k5 (fun z => same (by simpa using z)) hq')
end
end Mp

set_option Elab.async false
set_option linter.all false
set_option maxRecDepth 100000
set_option maxHeartbeats 1000000
/-! sorted of a tuple. -/
namespace Mp
open PySem PySem.Calls PySem.W PyProof.Rows
section
variable {prog : Program} {w : World} {A : Around} {E : Value → Shared → Prop} {s : Shared}
theorem collectTup {l : Addr} {vs : List Value} {Q : List Value → Shared → Prop} (hl : s.heap.IsTuple l vs.toArray) (hsz : vs.length ≤ sizeLine)
    (h : Q vs { s with heap := (s.heap.push (seqObj "list" #[] 0)).update s.heap.objs.size (Obj.mapSeq (· ++ vs.toArray)) }) : wpAny (model prog w) A (collect (.ref l)) Q E s := by
  obtain ⟨o, ho, hc, n, hd⟩ := hl
  unfold collect
  refine wpAny_bind ?_
  refine wpAny_runValue (codeAny_builtin entry_proto_collect' ?_)
  show wpAny (model prog w) A.in1 (do again (.builtin "list.__iadd__" ⟨[← newList [], .ref l], []⟩)) _ _ s
  refine wpAny_bind (wpAny_newList (wpAny_pure ?_))
  refine ⟨Code.quiet_builtin _ (by decide +kernel), ?_⟩
  refine codeAny_builtin entry_list_iadd' ?_
  show wpAny (model prog w) _ (Builtin.List.listExtendWith (.ref s.heap.objs.size) (.ref l) (.ref s.heap.objs.size)) _ _ { s with heap := s.heap.push (seqObj "list" #[] 0) }
  unfold Builtin.List.listExtendWith
  have g1 : (s.heap.push (seqObj "list" #[] 0)).get? l = some o := Heap.get?_push_of_some _ ho
  refine wpAny_bind (wpAny_typeOf (T := "tuple") ⟨o, g1, hc⟩ ?_)
  have g2 : (Value.type "tuple" == Value.type "tuple") = true := by rfl
  rw [if_pos (by simp [g2])]
  refine wpAny_bind (listItems_at g1 hd ?_)
  refine wpAny_bind (listItems_at (n := 0) (xs := #[]) (Heap.get?_push_size _ rfl) rfl ?_)
  rw [if_neg (by simp)]
  have g3 : (#[] ++ vs.toArray).size ≤ sizeLine + 1 := by
    simp only [Array.size_append, List.size_toArray, List.length_nil]
    omega
  refine wpAny_bind (listUpdate_at (n := 0) (xs := #[]) (Heap.get?_push_size _ rfl) rfl ?_ (Nat.zero_le _) g3)
  refine wpAny_pure ?_
  show wpAny (model prog w) A (do
      let o ← load s.heap.objs.size
      match o.data with
      | .seq xs _ => pure xs.toList
      | _ => unsupported "internal:collect") Q E { s with heap := (s.heap.push (seqObj "list" #[] 0)).update s.heap.objs.size (Obj.mapSeq (· ++ vs.toArray)) }
  refine wpAny_bind (wpAny_load (get?_update_seq (Heap.get?_push_size _ rfl) _) ?_)
  have g4 : ((#[] : Array Value) ++ vs.toArray).toList = vs := by simp
  show wpAny _ _ (pure ((#[] : Array Value) ++ vs.toArray).toList) Q E _
  rw [g4]
  exact wpAny_pure h
theorem sorted_tup {l : Addr} {vs : List Value} {κ : PyProof.Rows.KeyKind} {Q : Value → Shared → Prop} (hl : s.heap.IsTuple l vs.toArray) (hL : vs.length ≤ sizeLine)
    (S : SortsAt prog w A.in1.in1 { s with heap := sortingHeap (copyHeap s.heap vs) (s.heap.objs.size + 1) vs } κ vs)
    (h : Q (.ref (s.heap.objs.size + 1)) { s with heap := sortedAll s.heap vs (sortVals κ false vs vs).toArray }) : wpAny (model prog w) A (call (.builtin "sorted") [.ref l]) Q E s := by
  refine call_function_entry_kw kind_sorted plain_sorted entry_sorted (args_sorted1 _) ?_
  unfold Builtin.«sorted»
  refine wpAny_bind (m := checkCount "sorted" 1 1 _) ?_
  refine wpAny_pure ?_
  refine wpAny_bind (collectTup hl hL ?_)
  refine wpAny_bind (wpAny_newList ?_ hL)
  have sz : ((s.heap.push (seqObj "list" #[] 0)).update s.heap.objs.size (Obj.mapSeq (· ++ vs.toArray))).objs.size = s.heap.objs.size + 1 := (Heap.size_update ..).trans (size_push' ..)
  show wpAny _ _ _ _ _ { s with heap := copyHeap s.heap vs }
  rw [sz]
  refine wpAny_bind ?_
  refine wpAny_holding ?_
  refine wpAny_call_entry_kw slot_list_sort ⟨_, copyHeap_at s.heap vs, rfl⟩ entry_list_sort ?body (args_list_sort _)
  case body =>
    refine wpAny_mono (list_sort_vals (s := { s with heap := copyHeap s.heap vs }) (P := fun f s' => f = .done (.ret .none) ∧ Q (.ref (s.heap.objs.size + 1)) s') (copyHeap_at s.heap vs) S hL ⟨rfl, h⟩) (fun f s' z => ?_) fun _ _ e => e
    obtain ⟨rfl, hq⟩ := z
    exact ⟨_, rfl, wpAny_pure ⟨_, rfl, hq⟩⟩
theorem PrAt.up {h h' : Heap} {v : Value} {a b : Int} (k : ∀ x o, h.get? x = some o → h'.get? x = some o) (p : PrAt h v a b) : PrAt h' v a b := by
  obtain ⟨l, o, xs, n, x, y, e, h1, r⟩ := p.ex
  exact ⟨⟨l, o, xs, n, x, y, e, k _ _ h1, r⟩⟩
theorem each_in {α : Type} {R : Value → α → Prop} : ∀ {vs : List Value} {bs : List α}, EachIs R vs bs → ∀ v ∈ vs, ∃ b, R v b
  | _, _, .nil, v, h => by simp at h
  | _, _, .cons r t, v, h => by
    rcases List.mem_cons.mp h with rfl | h
    · exact ⟨_, r⟩
    · exact each_in t v h
theorem each_mem' {α : Type} {R : Value → α → Prop} : ∀ {vs ws : List Value} {bs : List α}, (∀ v ∈ vs, v ∈ ws) → EachIs R vs bs → EachIs (fun v b => v ∈ ws ∧ R v b) vs bs
  | _, _, _, _, .nil => .nil
  | _, _, _, h, .cons r t => .cons ⟨h _ (List.mem_cons_self ..), r⟩ (each_mem' (fun v hv => h v (List.mem_cons_of_mem _ hv)) t)
def keyP (p : Int × Int) : List (Int ⊕ List Nat) := [.inl p.1, .inl p.2]
/-- sorted of a tuple of pairs of numbers -/
theorem sorted_prs {β : Type} {R : Value → β → Prop} (k : β → Int × Int) {l : Addr} {vs : List Value} {bs : List β} {Q : Value → Shared → Prop} (hl : s.heap.IsTuple l vs.toArray) (hL : vs.length ≤ sizeLine) (e : EachIs R vs bs) (hp : EachIs (fun v b => PrAt s.heap v (k b).1 (k b).2) vs bs)
    (h : ∀ out : List Value, out.length = vs.length → EachIs R out (bs.mergeSort (sortLe (listOrd itemOrd) false fun b => keyP (k b))) → Q (.ref (s.heap.objs.size + 1)) { s with heap := sortedAll s.heap vs out.toArray }) : wpAny (model prog w) A (call (.builtin "sorted") [.ref l]) Q E s := by
  have up : ∀ {v : Value} {a b : Int}, PrAt s.heap v a b → PrAt (sortingHeap (copyHeap s.heap vs) (s.heap.objs.size + 1) vs) v a b := fun p => p.up fun _ _ => sorting_copy_old
  refine sorted_tup hl hL (SortsAt.pairs (s := { s with heap := sortingHeap (copyHeap s.heap vs) (s.heap.objs.size + 1) vs }) fun v hv => ?_) (h _ (sortVals_length false rfl) ?_)
  · obtain ⟨b, p⟩ := each_in hp v hv
    exact ⟨_, _, up p⟩
  · refine sortVals_each (κ := prKind (sortingHeap (copyHeap s.heap vs) (s.heap.objs.size + 1) vs) vs) (fun b => keyP (k b)) e ?_
    refine (each_mem' (ws := vs) (fun v hv => hv) hp).mono fun v b z => ?_
    exact prKind_some z.1 (up z.2)
end
end Mp

set_option Elab.async false
set_option linter.all false
set_option maxRecDepth 100000
set_option maxHeartbeats 1000000
/-! sorted of a tuple of pairs of numbers: the rule. -/
namespace Mp
open PySem PySem.Spec PyProof.Rows L2
inductive NuV : V → Int → Prop
  | int (a : Int) : NuV (.int a) a
  | bl (b : Bool) : NuV (.bl b) (bi b)
theorem NuV.nu {v : V} {u : Value} {a : Int} (h : NuV v a) (r : RelV v u) : Nu u a := by
  cases h with
  | int a =>
    obtain ⟨t, rfl⟩ := r
    exact .int a t
  | bl b =>
    have e : u = Value.bool b := r
    subst e
    exact .bl b
def PrV (K : PySem.W.Frag) (H : Hp) (v : V) (k : Int × Int) : Prop := ∃ (c : Addr) (x y : V), v = .ref c ∧ SqT K H c [x, y] ∧ NuV x k.1 ∧ NuV y k.2
abbrev Bp := V × Int × Int
noncomputable def leB (b c : Bp) : Bool := PySem.W.sortLe (listOrd itemOrd) false (fun b : Bp => keyP b.2) b c
def rSortP (K : PySem.W.Frag) : List V → Hp → VK → Prop := fun vs H Q => ∃ (a : Addr) (bs : List Bp), vs = [V.ref a] ∧ SqT K H a (bs.map (·.1)) ∧ (∀ p ∈ bs, PrV K H p.1 p.2) ∧ bs.length ≤ sizeLine ∧ ∀ p, H p = none → Q (.ref p) (upd H p (.lst ((bs.mergeSort leB).map (·.1))))
theorem bp_each {bs : List Bp} {us : List Value} : PySem.W.EachIs (fun (v : Value) (b : Bp) => RelV b.1 v) us bs → Vals (bs.map (·.1)) us := by
  intro h
  induction h with
  | nil => exact .nil
  | cons a _ ih => exact .cons a ih
section
variable {X : Cx} {Y : Sy} {W : WX} {p pos : Pos} {e : Expr} {ga : En → Store → Out (List Val)}
theorem prV_at {pins : List (Addr × Obj)} {s : Shared} {σ : L2.St} {H : Hp} (I : Inv X pins σ H s) {v : V} {u : Value} {k : Int × Int} (h : PrV X.K H v k) (r : RelV v u) : PrAt s.heap u k.1 k.2 := by
  obtain ⟨c, x, y, rfl, hq, hx, hy⟩ := h
  have e : u = .ref c := r
  subst e
  obtain ⟨its, rv, ht, _⟩ := I.tuple hq
  obtain ⟨o, g1, g2, n, g3⟩ := ht
  match its, rv with
  | [i, j], .cons r1 (.cons r2 .nil) => exact ⟨⟨c, o, _, n, i, j, rfl, g1, g2, g3, by simp, hx.nu r1, hy.nu r2⟩⟩
theorem cr_sortP : CallR X (.builtin "sorted") (rSortP X.K) := by
  intro pins s σ H vs us Q I r h
  obtain ⟨a, bs, rfl, hs, hd, hl, q⟩ := h
  obtain ⟨its, rv, hL, _⟩ := I.tuple hs
  rw [Vals.ref1 r]
  have hlen : its.length = bs.length := by rw [← rv.length, List.length_map]
  have each : ∀ (i : Nat) (v : Value) (b : Bp), its[i]? = some v → bs[i]? = some b → RelV b.1 v := fun i v b h1 h2 => by
    obtain ⟨u, h3, h4⟩ := rv.get (i := i) (x := b.1) (by rw [List.getElem?_map, h2]; rfl)
    rw [h1] at h3
    cases h3
    exact h4
  have e1 : PySem.W.EachIs (fun (v : Value) (b : Bp) => RelV b.1 v) its bs := each_of hlen each
  have e2 : PySem.W.EachIs (fun (v : Value) (b : Bp) => PrAt s.heap v b.2.1 b.2.2) its bs := each_of hlen fun i v b h1 h2 => prV_at I (hd b (List.mem_of_getElem? h2)) (each i v b h1 h2)
  refine sorted_prs (k := fun b : Bp => b.2) hL (by omega) e1 e2 fun out h1 h2 => ?_
  obtain ⟨ep, he'⟩ := PyProof.Rows.sortedAll_at s.heap its out.toArray
  have hlen2 : ((bs.mergeSort leB).map (·.1)).length ≤ sizeLine := by rw [List.length_map, List.length_mergeSort]; exact hl
  refine ⟨.ref _, upd H (s.heap.objs.size + 1) (.lst _), I.laid (t' := s.toks) (fun _ _ => PyProof.Rows.sortedAll_old) (Nat.le_succ _) ⟨hlen2, out, ep, bp_each h2, ?_⟩, rfl, q _ (I.hok.fresh (Nat.le_succ _))⟩
  simpa using he'
def numV : Val → Option Int
  | .int i => some i
  | .bl b => some (bi b)
  | _ => none
def prV : Val → Option (Int × Int)
  | .tup [x, y] => (numV x).bind fun a => (numV y).map fun b => (a, b)
  | _ => none
noncomputable def leP (x y : Val) : Bool := PySem.W.sortLe (listOrd itemOrd) false (fun v : Val => keyP ((prV v).getD (0, 0))) x y
open Classical in
noncomputable def fSortedP : Fn := fun vs S => match vs with
  | [.tup xs] => if (∀ x ∈ xs, ∃ k, prV x = some k) ∧ xs.length ≤ LIM then .ok (.ref S.length) (S ++ [.lst (xs.mergeSort leP)]) else .bad
  | _ => .bad
theorem numV_rep {ρ : List Addr} {H : Hp} {v : V} {x : Val} {a : Int} (r : Rep X.K ρ H v x) (h : numV x = some a) : NuV v a := by
  cases r <;> simp [numV] at h
  · subst h; exact .bl _
  · subst h; exact .int _
theorem prV_rep {ρ : List Addr} {H : Hp} {v : V} {x : Val} {k : Int × Int} (r : Rep X.K ρ H v x) (h : prV x = some k) : PrV X.K H v k := by
  cases r with
  | @tup c ws ys e rs =>
    match ys, rs, h with
    | [], _, h => simp [prV] at h
    | [_], _, h => simp [prV] at h
    | _ :: _ :: _ :: _, _, h => simp [prV] at h
    | [x, y], .cons r1 (.cons r2 .nil), h =>
      simp only [prV, Option.bind_eq_some_iff, Option.map_eq_some_iff] at h
      obtain ⟨a, h1, b, h2, rfl⟩ := h
      exact ⟨c, _, _, rfl, SqT.of e, numV_rep r1 h1, numV_rep r2 h2⟩
  | _ => simp [prV] at h
theorem se_sortedP (hg : Gl X "sorted") (hm : X.mg "sorted" = none) (ha : SA X Y W [e] ga) (he : starEach [e] X.env = [(false, eval e X.env)] := by rfl) : SE X Y W (.Call (.Name "sorted" p) [e] [] pos) (eCall fSortedP ga) := by
  refine se_b cr_sortP (fun W' ρ H S vs xs Q hs rx h => ?_) hg hm (by decide +kernel) ha (he := he)
  unfold fSortedP at h
  split at h
  · rename_i ys
    split at h
    · rename_i hc
      obtain ⟨hk, hl⟩ := hc
      obtain ⟨v, rfl, rv⟩ := reps1 rx
      cases rv with
      | @tup a ws _ e0 r =>
        let cs : List (V × Val) := ws.zip ys
        have hz : cs.map (·.1) = ws := by rw [List.map_fst_zip]; rw [r.length]; exact Nat.le_refl _
        have hz2 : cs.map (·.2) = ys := by rw [List.map_snd_zip]; rw [r.length]; exact Nat.le_refl _
        let bs : List Bp := cs.map fun p => (p.1, (prV p.2).getD (0, 0))
        have hb1 : bs.map (·.1) = ws := by
          show (cs.map _).map _ = _
          rw [List.map_map]
          exact hz
        have hrep : ∀ p ∈ cs, Rep X.K ρ H p.1 p.2 := fun p hp => by
          obtain ⟨i, hi⟩ := List.mem_iff_getElem?.mp hp
          have h1 : (cs.map (·.1))[i]? = some p.1 := by rw [List.getElem?_map, hi]; rfl
          have h2 : (cs.map (·.2))[i]? = some p.2 := by rw [List.getElem?_map, hi]; rfl
          rw [hz] at h1
          rw [hz2] at h2
          obtain ⟨v, h3, h4⟩ := r.get h2
          rw [h1] at h3
          cases h3
          exact h4
        have hsort : bs.mergeSort leB = (cs.mergeSort (fun p q => leP p.2 q.2)).map fun p => (p.1, (prV p.2).getD (0, 0)) :=
          (PySem.W.sort_maps (fun p : V × Val => ((p.1, (prV p.2).getD (0, 0)) : Bp)) (l := cs) (r := fun p q => leP p.2 q.2) (s := leB) fun _ _ _ _ => rfl).symm
        have hsy : (cs.mergeSort (fun p q => leP p.2 q.2)).map (·.2) = ys.mergeSort leP := by
          rw [← hz2]
          exact PySem.W.sort_maps (fun p : V × Val => p.2) (l := cs) (r := fun p q => leP p.2 q.2) (s := leP) fun _ _ _ _ => rfl
        refine ⟨a, bs, rfl, by rw [hb1]; exact SqT.of e0, fun p hp => ?_, ?_, fun p hn => ?_⟩
        · obtain ⟨c, hc, rfl⟩ := List.mem_map.mp hp
          have hy : c.2 ∈ ys := by rw [← hz2]; exact List.mem_map.mpr ⟨c, hc, rfl⟩
          obtain ⟨k, hk'⟩ := hk c.2 hy
          have := prV_rep (hrep c hc) hk'
          show PrV X.K H c.1 ((prV c.2).getD (0, 0))
          rw [hk']
          exact this
        · have : bs.length = ys.length := by
            have h9 := congrArg List.length hb1
            rw [List.length_map] at h9
            exact h9.trans r.length
          rw [this]
          exact lim_le hl
        · have en := Ext.new (o := .lst ((bs.mergeSort leB).map (·.1))) hn
          refine h _ (ρ ++ [p]) _ (Pre.snoc _ _) en (hs.new hn ⟨_, upd_same, ?_⟩) (rep_new hs.len.symm)
          rw [hsort, List.map_map]
          have hr : ∀ l : List (V × Val), (∀ p ∈ l, Rep X.K ρ H p.1 p.2) → Reps X.K ρ H (l.map ((fun (x : Bp) => x.1) ∘ fun (p : V × Val) => (p.1, (prV p.2).getD (0, 0)))) (l.map (·.2)) := by
            intro l
            induction l with
            | nil => intro _; exact .nil
            | cons q l ih => intro hl; exact .cons (hl q (by simp)) (ih fun p hp => hl p (by simp [hp]))
          rw [← hsy]
          rw [hsort, List.map_map] at en
          exact (hr _ fun p hp => hrep p ((List.mergeSort_perm _ _).mem_iff.mp hp)).up (Pre.snoc _ _) en
    · exact h.elim
  · exact h.elim
end
theorem wO_sortedP {S : Store} {xs : List Val} {P : Val → Store → Prop} {E : XO} (h : ∀ x ∈ xs, ∃ k, prV x = some k) (hl : xs.length ≤ LIM) : wO (fSortedP [.tup xs] S) P E = P (.ref S.length) (S ++ [.lst (xs.mergeSort leP)]) := by
  unfold fSortedP
  simp only [if_pos (And.intro h hl)]
  rfl
end Mp

set_option Elab.async false
set_option linter.all false
set_option maxRecDepth 100000
set_option maxHeartbeats 1000000
/-! methods of own objects: o.m(e, ..), o.m(), by the receiver's class. -/
namespace Mp
open PySem PySem.Spec PyProof.Rows L2
/-- the class c's method m of n parameters (self among them) does what g says, in k calls' room -/
structure MeAt (P : Program) (w : World) (K : PySem.W.Frag) (mg : Str → Option Value) (base : Heap) (Y : Sy) (k n : Nat) (c m : Str) (g : Fn) : Prop where
  ex : ∃ C f fd ps, Y.cl c = some C ∧ Meth K C m f ∧ FnOk P w K mg base (L2.CX P w) k f fd ps (spOf K Y n g) ∧ Binds K fd ps []
  ar : Arity n g
theorem RepK.xnone {κ : Type} [BEq κ] [LawfulBEq κ] {K : PySem.W.Frag} {ρ : List Addr} {H : Hp} {f : κ} : ∀ {gs : List (κ × V)} {fs : List (κ × Val)}, RepK K ρ H gs fs → fs.lookup f = none → gs.lookup f = none
  | _, _, .nil, _ => rfl
  | (a, v) :: gs, (b, z) :: fs, .cons h r, e => by
    obtain ⟨h1, h2⟩ := h
    obtain rfl : a = b := h1
    simp only [List.lookup] at e ⊢
    cases hq : (f == a) with
    | true => rw [hq] at e; cases e
    | false => rw [hq] at e; exact RepK.xnone r e
def pickM (l : List (Str × Fn)) (m : Str) (S1 : Store) (x : Val) : Option Fn := match insOf S1 x with
  | some (c, fs) => if fs.lookup m = none then l.lookup c else none
  | none => none
def eMeth (m : Str) (l : List (Str × Fn)) (fo : En → Store → Out Val) (ga : En → Store → Out (List Val)) : En → Store → Out Val := fun env S => (fo env S).bind fun x S1 => match pickM l m S1 x with
  | some g => (ga env S1).bind fun xs S2 => g (x :: xs) S2
  | none => .bad
theorem wO_eMeth {m : Str} {l : List (Str × Fn)} {fo : En → Store → Out Val} {ga : En → Store → Out (List Val)} {env : En} {S : Store} {P : Val → Store → Prop} {E : XO} : wO (eMeth m l fo ga env S) P E = wO (fo env S) (fun x S1 => wP (pickM l m S1 x) fun g => wO (ga env S1) (fun xs S2 => wO (g (x :: xs) S2) P E) E) E := by
  unfold eMeth
  refine wO_bind.trans (wO_ext fun x S1 => ?_)
  cases pickM l m S1 x with
  | none => rfl
  | some g => exact wO_bind
section
variable {X : Cx} {Y : Sy} {W : WX} {kc : Nat} {m : Str} {l : List (Str × Fn)} {e o : Expr} {es : List Expr} {fo : En → Store → Out Val} {ga : En → Store → Out (List Val)} {pos apos : Pos}
theorem pickM_rep {ρ : List Addr} {H : Hp} {S : Store} {v : V} {x : Val} {g : Fn} (hs : Sim X.K Y ρ H S) (r : Rep X.K ρ H v x) (h : pickM l m S x = some g) :
    ∃ c a C dx gs, v = .ref a ∧ Y.cl c = some C ∧ H a = some (.ins C dx gs) ∧ gs.lookup m = none ∧ l.lookup c = some g := by
  unfold pickM at h
  split at h
  · rename_i c fs e1
    split at h
    · rename_i hn
      obtain ⟨i, a, C, dx, gs, rfl, e2, rfl, hi, hC, ea, rk⟩ := insOf_rep hs r e1
      exact ⟨c, a, C, dx, gs, rfl, hC, ea, rk.xnone hn, h⟩
    · cases h
  · cases h
/-- the object's side: what stands behind o -/
def mM (X : Cx) (Y : Sy) (W : WX) (m : Str) (l : List (Str × Fn)) (σ : L2.St) (Q : VK) (ga : En → Store → Out (List Val)) : V → Hp → Prop := fun v H1 => ∃ c a C dx gs g, v = .ref a ∧ Y.cl c = some C ∧ H1 a = some (.ins C dx gs) ∧ gs.lookup m = none ∧ l.lookup c = some g ∧
  ∀ n, Arity n g → tG X.K Y W (RL X.K) ga σ H1 (fun vs H2 => spOf X.K Y n g (.ref a :: vs) H2 Q (WE W σ))
theorem mM_of {σ : L2.St} {H : Hp} {Q : VK} (h : tG X.K Y W (RV X.K) (eMeth m l fo ga) σ H Q) : tG X.K Y W (RV X.K) fo σ H (mM X Y W m l σ Q ga) := by
  refine tG.bind (k := fun env x S1 => match pickM l m S1 x with
    | some g => (ga env S1).bind fun xs S2 => g (x :: xs) S2
    | none => .bad) h fun ρ env v x H1 S1 he hs rx hp => ?_
  split at hp
  · rename_i g eg
    obtain ⟨c, a, C, dx, gs, rfl, hC, ea, hn, hl⟩ := pickM_rep hs rx eg
    refine ⟨c, a, C, dx, gs, g, rfl, hC, ea, hn, hl, fun n har => ?_⟩
    refine tG.go he hs hp fun ρ2 vs xs H2 S2 p2 e2 he2 hs2 rxs hp2 => ?_
    have rs : Reps X.K ρ2 H2 (.ref a :: vs) (x :: xs) := .cons (rx.up p2 e2) rxs
    refine ⟨?_, ρ2, _, S2, rs, hs2, hp2⟩
    by_cases hl2 : (x :: xs).length = n
    · rw [rs.length]; exact hl2
    · rw [har _ _ hl2] at hp2
      exact hp2.elim
  · exact hp.elim
theorem se_meth {pl : Sem Bool} (cc : Cc X Y W kc) (hK : Kls X.K Y) (hl : ∀ c g, l.lookup c = some g → ∃ k n, MeAt X.prog X.w X.K X.mg X.base Y k n c m g ∧ k ≤ kc) (ho : SE X Y W o fo) (ha : SA X Y W (e :: es) ga)
    (hst : starEach (e :: es) X.env = (false, eval e X.env) :: starEach es X.env := by rfl) (hpl : (backTo pos (starEach es X.env)).any (·.1) = false := by rfl)
    (ht : eval (.Call (.Attribute o m apos) (e :: es) [] pos) X.env = (do
      let ov ← eval o X.env
      standAt apos.atName
      let (f, first) ← holding [ov] (getMethod ov m pl)
      callWith pos f first (backTo pos (starEach (e :: es) X.env)) (backToKw pos (keywordEach [] X.env))) := by rfl) : SE X Y W (.Call (.Attribute o m apos) (e :: es) [] pos) (eMeth m l fo ga) := by
  refine ⟨fun pins s σ H Q I h => ?_⟩
  refine PySem.W.methodCall_KW (pl := pl) (thn (ho.run pins s σ H _ I (mM_of h)) fun u s1 ⟨x, H1, I1, rx, z⟩ => ?_) ht
  obtain ⟨c, a, C, dx, gs, g, rfl, hC, ea, hn, hlk, q⟩ := z
  obtain rfl : u = Value.ref a := rx
  obtain ⟨k, n, F, hk⟩ := hl c g hlk
  obtain ⟨C', f, fd, ps, h1, h2, h3, h4⟩ := F.ex
  rw [hC] at h1
  cases h1
  refine getmeth_ok I1 ea (hK c C hC).cls h2 hn ?_
  refine PySem.W.callWith_K (first := [.ref a]) (h₀ := X.base) I.ok.mod.kin h2.kp (thn (ha.run pos pins s1 σ H1 _ I1 (q n F.ar)) fun us s2 ⟨vs, H2, I2, r, q2⟩ => ⟨I2.kIn, ?_⟩) hst hpl
  exact run_fnS (E := WE W) (h3.mono hk) cc.room h4 (passAt cc.tk σ) I2 (us := .ref a :: us) (vs := .ref a :: vs) (.cons rfl r) q2
theorem se_meth0 {pl : Sem Bool} (cc : Cc X Y W kc) (hK : Kls X.K Y) (hl : ∀ c g, l.lookup c = some g → ∃ k n, MeAt X.prog X.w X.K X.mg X.base Y k n c m g ∧ k ≤ kc) (ho : SE X Y W o fo)
    (ht : eval (.Call (.Attribute o m apos) [] [] pos) X.env = (do
      let ov ← eval o X.env
      standAt apos.atName
      let (f, first) ← holding [ov] (getMethod ov m pl)
      callWith pos f first (backTo pos (starEach [] X.env)) (backToKw pos (keywordEach [] X.env))) := by rfl) : SE X Y W (.Call (.Attribute o m apos) [] [] pos) (eMeth m l fo aNil) := by
  refine ⟨fun pins s σ H Q I h => ?_⟩
  refine PySem.W.methodCall_KW (pl := pl) (thn (ho.run pins s σ H _ I (mM_of h)) fun u s1 ⟨x, H1, I1, rx, z⟩ => ?_) ht
  obtain ⟨c, a, C, dx, gs, g, rfl, hC, ea, hn, hlk, q⟩ := z
  obtain rfl : u = Value.ref a := rx
  obtain ⟨k, n, F, hk⟩ := hl c g hlk
  obtain ⟨C', f, fd, ps, h1, h2, h3, h4⟩ := F.ex
  rw [hC] at h1
  cases h1
  refine getmeth_ok I1 ea (hK c C hC).cls h2 hn ?_
  have q0 : spOf X.K Y n g [.ref a] H1 Q (WE W σ) := by
    obtain ⟨ρ, env, S, he, hs, hp⟩ := q n F.ar
    exact hp [] ρ H1 (Pre.refl _) (Ext.refl _) hs .nil
  exact PySem.W.callWith_K0 (first := [.ref a]) I1.kIn h2.kp (run_fnS (E := WE W) (us := [.ref a]) (vs := [.ref a]) (h3.mono hk) cc.room h4 (passAt cc.tk σ) I1 (.cons rfl .nil) q0)
end
end Mp

set_option Elab.async false
set_option linter.all false
set_option maxRecDepth 100000
set_option maxHeartbeats 1000000
/-! o.f += value, whole numbers. -/
namespace Mp
open PySem PySem.Spec PyProof.Rows L2
def kInc2 (f : Str) (c : Str) (i : Int) (env : En) (x : Val) (y : Val) (S2 : Store) : Res := match x, y with
  | .ref r, .int j => (match S2[r]? with
    | some (.ins c' fs) => if c' = c ∧ fs.length < 1000 then .nx env (S2.set r (.ins c' (putS f (.int (i + j)) fs))) else .bad
    | _ => .bad)
  | _, _ => .bad
def incOf (cs : List Str) (f : Str) (S1 : Store) (x : Val) : Option (Str × Int) := match insOf S1 x with
  | some (c, fs) => if c ∈ cs then (match fs.lookup f with
    | some (.int i) => some (c, i)
    | _ => none) else none
  | none => none
def kInc (cs : List Str) (f : Str) (gv : En → Store → Out Val) (env : En) (x : Val) (S1 : Store) : Res := match incOf cs f S1 x with
  | some (c, i) => (gv env S1).toS env (kInc2 f c i env x)
  | none => .bad
def sFldInc (cs : List Str) (f : Str) (go gv : En → Store → Out Val) : En → Store → Res := fun env S => (go env S).toS env (kInc cs f gv env)
section
variable {X : Cx} {Y : Sy} {W : WX} {cs : List Str} {f : Str} {go gv : En → Store → Out Val} {o value : Expr} {pos tpos : Pos}
theorem incOf_rep {ρ : List Addr} {H : Hp} {S : Store} {v : V} {x : Val} {c : Str} {i : Int} (hs : Sim X.K Y ρ H S) (r : Rep X.K ρ H v x) (h : incOf cs f S x = some (c, i)) :
    ∃ k a C dx gs, x = .ref k ∧ v = .ref a ∧ ρ[k]? = some a ∧ Y.cl c = some C ∧ H a = some (.ins C dx gs) ∧ gs.lookup f = some (.int i) ∧ c ∈ cs := by
  unfold incOf at h
  split at h
  · rename_i c' fs e1
    split at h
    · rename_i hc
      split at h
      · rename_i i' e2
        simp only [Option.some.injEq, Prod.mk.injEq] at h
        obtain ⟨rfl, rfl⟩ := h
        obtain ⟨k, a, C, dx, gs, rfl, e3, rfl, hi, hC, ea, rk⟩ := insOf_rep hs r e1
        obtain ⟨u, l, ru⟩ := rk.xlook e2
        cases ru
        exact ⟨k, a, C, dx, gs, rfl, rfl, hi, hC, ea, l, hc⟩
      · cases h
    · cases h
  · cases h
theorem ss_fldinc (hK : Kls X.K Y) (hn : NoF X.K Y cs f) (ho : SE X Y W o go) (hv : SE X Y W value gv) : SS X Y W (.AugAssign (.Attribute o f tpos) .Add value pos) (sFldInc cs f go gv) := by
  refine PS.imp (ps_fldaug ho hv in_add) fun D σ H h => ?_
  refine tS.go (k := fun env x S1 => kInc cs f gv env x S1) h fun ρ env v x H1 S1 he1 hs1 rx hp => ?_
  unfold kInc at hp
  split at hp
  · rename_i c i e1
    obtain ⟨k, a, C, dx, gs, rfl, rfl, hk, hC, ea, hl, hc⟩ := incOf_rep hs1 rx e1
    refine ⟨a, C, dx, gs, .int i, rfl, ea, (hK c C hC).cls, hn c C hc hC, hl, ρ, env, S1, he1, hs1, ?_⟩
    generalize gv env S1 = oo at hp
    cases oo with
    | bad => exact hp
    | err c fs S2 => exact fun cls d ρ2 H2 p2 e2 s2 r2 => hp cls d σ ρ2 H2 p2 e2 (he1.up p2 e2) s2 r2
    | ok y S2 =>
      intro w ρ2 H2 p2 e2 s2 ry
      simp only [Out.toS, kInc2] at hp
      cases ry <;> try (exact hp.elim)
      rename_i j
      dsimp only at hp
      split at hp
      · rename_i c' fs e4
        split at hp
        · rename_i hc2
          obtain ⟨rfl, hlen⟩ := hc2
          have hi2 := p2 _ _ hk
          obtain ⟨C', dx', gs', h1, h2, h3⟩ := (s2.ob k a _ hi2 e4 : ObRep X.K Y ρ2 H2 a (.ins c' fs))
          rw [hC] at h1
          cases h1
          refine ⟨i, j, rfl, rfl, dx', gs', h2, by rw [h3.length]; exact hlen, ?_⟩
          obtain ⟨e5, s5⟩ := s2.put (u := .ins C dx' (putF f (.int (i + j)) gs')) (o := .ins c' (putS f (.int (i + j)) fs)) hi2 ⟨C, dx', _, hC, upd_same, ((RepK.putS (.int (i + j)) h3).up (Pre.refl _) (Ext.mut h2 fun z => z))⟩
          exact hp σ ρ2 _ p2 (e2.trans e5) (he1.up p2 (e2.trans e5)) s5
        · exact hp.elim
      · exact hp.elim
  · exact hp.elim
end
end Mp

set_option Elab.async false
set_option linter.all false
set_option maxRecDepth 100000
set_option maxHeartbeats 1000000
/-! d.get(k), d.get(k, x). -/
namespace Mp
open PySem PySem.Spec PyProof.Rows L2
def isDct (S : Store) : Val → Bool
  | .ref i => (match S[i]? with
    | some (.dk _) => true
    | some (.dt _) => true
    | _ => false)
  | _ => false
theorem isDct_rep {K : PySem.W.Frag} {Y : Sy} {ρ : List Addr} {H : Hp} {S : Store} {v : V} {x : Val} (hs : Sim K Y ρ H S) (r : Rep K ρ H v x) (h : isDct S x = true) : ∃ a, v = .ref a ∧ IsD H a := by
  cases r <;> try (simp [isDct] at h; done)
  case ref a i hi =>
    simp only [isDct] at h
    split at h
    · rename_i kvs e
      obtain ⟨ws, q, _⟩ := hs.dk hi e
      exact ⟨a, rfl, .inl ⟨_, .inl q⟩⟩
    · rename_i kvs e
      obtain ⟨ws, q, _⟩ := hs.dt hi e
      exact ⟨a, rfl, .inr ⟨_, .inl q⟩⟩
    · cases h
def kGet (x y z : Val) (S : Store) : Out Val := match dLook S x y with
  | some (some v) => .ok v S
  | some none => .ok z S
  | none => .bad
def eGet1 (fo fk : En → Store → Out Val) : En → Store → Out Val := fun env S => (fo env S).bind fun x S1 => if isDct S1 x = true then (fk env S1).bind fun y S2 => kGet x y .non S2 else .bad
def eGet2 (fo fk fd : En → Store → Out Val) : En → Store → Out Val := fun env S => (fo env S).bind fun x S1 => if isDct S1 x = true then (fk env S1).bind fun y S2 => (fd env S2).bind fun z S3 => kGet x y z S3 else .bad
section
variable {X : Cx} {Y : Sy} {W : WX} {o e f : Expr} {fo fk fd : En → Store → Out Val} {apos cpos : Pos}
theorem se_get1 (hu : X.A.units + 1 < cLine) (ho : SE X Y W o fo) (he : SE X Y W e fk) (m : M1 X o "get" apos e cpos) : SE X Y W (.Call (.Attribute o "get" apos) [e] [] cpos) (eGet1 fo fk) := by
  refine PE.imp (pe_dget1 hu ho he m) fun σ H Q h => ?_
  refine tG.bind (k := fun env x S1 => if isDct S1 x = true then (fk env S1).bind fun y S2 => kGet x y .non S2 else .bad) h fun ρ env v x H1 S1 he1 hs1 rx hp => ?_
  split at hp
  · rename_i hd
    obtain ⟨a, rfl, id⟩ := isDct_rep hs1 rx hd
    refine ⟨a, rfl, id, ?_⟩
    refine tG.go he1 hs1 hp fun ρ2 w y H2 S2 p2 e2 he2 hs2 ry hp2 => ?_
    unfold kGet at hp2
    have rx2 := rx.up p2 e2
    split at hp2
    · rename_i v' hl
      obtain ⟨a', o', ha, g, z⟩ := dLook_rep hs2 rx2 ry hl
      cases ha
      rcases z with ⟨z1, _⟩ | ⟨x1, y1, z1, z2, z3⟩
      · cases z1
      · cases z1
        subst z2
        exact ⟨_, g, hp2 _ ρ2 H2 (Pre.refl _) (Ext.refl _) hs2 z3⟩
    · rename_i hl
      obtain ⟨a', o', ha, g, z⟩ := dLook_rep hs2 rx2 ry hl
      cases ha
      rcases z with ⟨_, z1⟩ | ⟨x1, y1, z1, _⟩
      · subst z1
        exact ⟨_, g, hp2 _ ρ2 H2 (Pre.refl _) (Ext.refl _) hs2 .non⟩
      · cases z1
    · exact hp2.elim
  · exact hp.elim
theorem se_get2 (hu : X.A.units + 1 < cLine) (ho : SE X Y W o fo) (he : SE X Y W e fk) (hf : SE X Y W f fd) (m : M2 X o "get" apos e f cpos) : SE X Y W (.Call (.Attribute o "get" apos) [e, f] [] cpos) (eGet2 fo fk fd) := by
  refine PE.imp (pe_dget2 hu ho he hf m) fun σ H Q h => ?_
  refine tG.bind (k := fun env x S1 => if isDct S1 x = true then (fk env S1).bind fun y S2 => (fd env S2).bind fun z S3 => kGet x y z S3 else .bad) h fun ρ env v x H1 S1 he1 hs1 rx hp => ?_
  split at hp
  · rename_i hd
    obtain ⟨a, rfl, id⟩ := isDct_rep hs1 rx hd
    refine ⟨a, rfl, id, ?_⟩
    refine tG.go he1 hs1 hp fun ρ2 w y H2 S2 p2 e2 he2 hs2 ry hp2 => ?_
    refine tG.go he2 hs2 hp2 fun ρ3 u zz H3 S3 p3 e3 he3 hs3 rz hp3 => ?_
    unfold kGet at hp3
    have rx3 := (rx.up p2 e2).up p3 e3
    have ry3 := ry.up p3 e3
    split at hp3
    · rename_i v' hl
      obtain ⟨a', o', ha, g, z⟩ := dLook_rep hs3 rx3 ry3 hl
      cases ha
      rcases z with ⟨z1, _⟩ | ⟨x1, y1, z1, z2, z3⟩
      · cases z1
      · cases z1
        subst z2
        exact ⟨_, g, hp3 _ ρ3 H3 (Pre.refl _) (Ext.refl _) hs3 z3⟩
    · rename_i hl
      obtain ⟨a', o', ha, g, z⟩ := dLook_rep hs3 rx3 ry3 hl
      cases ha
      rcases z with ⟨_, z1⟩ | ⟨x1, y1, z1, _⟩
      · subst z1
        exact ⟨_, g, hp3 _ ρ3 H3 (Pre.refl _) (Ext.refl _) hs3 rz⟩
      · cases z1
    · exact hp3.elim
  · exact hp.elim
end
end Mp

set_option Elab.async false
set_option linter.all false
set_option maxRecDepth 100000
set_option maxHeartbeats 1000000
/-! x += value, x a local name, whole numbers. -/
namespace Mp
open PySem PySem.Spec PyProof.Rows L2
def tInc (i : Nat) (tv : TE) : TS := fun D σ H => ∃ v, σ[i]? = some (some v) ∧ tv σ H fun y H1 => rAdd v y H1 fun z H2 => D.nx (σ.set i (some z)) H2
section
variable {X : Cx} {Y : Sy} {W : WX} {i : Nat} {x : Str} {value : Expr} {gv : En → Store → Out Val} {pos pos' : Pos} {tv : TE}
theorem ps_inc (hN : X.N.Nodup) (hi : X.N[i]? = some x) (hx : X.env.scope.names.lookup x = some .local) (hv : PE X value tv) (hcd : (x == ("__classdict__" : Str)) = false := by decide) : PS X (.AugAssign (.Name x pos') .Add value pos) (tInc i tv) := by
  refine ⟨fun pins s σ H D I h => ?_⟩
  obtain ⟨v, e, h⟩ := h
  obtain ⟨m, hn, hl⟩ := I.loc
  obtain ⟨u, r, l⟩ := hl i x v hi e (.inl hx)
  have rest : wpAny (model X.prog X.w) X.A (eval value X.env) (fun v1 s₂ => wpAny (model X.prog X.w) X.A (inplaceOp .Add u v1) (fun r1 s₃ => wpAny (model X.prog X.w) X.A (storeName X.env x r1) (fun _ => SP X pins D .next) X.xe s₃) X.xe s₂) X.xe s := by
    refine thn (hv.run pins s σ H _ I h) fun w s2 ⟨y, H2, I2, ry, q2⟩ => ?_
    refine thn (in_add pins s2 σ H2 v y u w _ I2 r ry q2) fun r1 s3 ⟨z, H3, I3, rz, q3⟩ => ?_
    exact store_ok I3 hN hi (.inl hx) rz (fun s4 I4 => ⟨_, H3, I4, q3⟩) (.inr hx)
  rcases l with ⟨hk, hm⟩ | ⟨hk, c, hc, hcell⟩
  · exact wpAny_AugAssign_Name (wpAny_loadName_local I.ok.kind hk hn hm rest)
  · rcases hk with hk | hk
    · exact wpAny_AugAssign_Name (wpAny_loadName_cell I.ok.kind hk hc hcell rest)
    · exact wpAny_AugAssign_Name (wpAny_loadName_free I.ok.kind hk hc hcell rest hcd)
def kIncN (i : Nat) (a : Int) (env : En) (y : Val) (S : Store) : Res := match y with
  | .int j => .nx (env.set i (some (.int (a + j)))) S
  | _ => .bad
def sInc (i : Nat) (gv : En → Store → Out Val) : En → Store → Res := fun env S => match env[i]? with
  | some (some (.int a)) => (gv env S).toS env (kIncN i a env)
  | _ => .bad
theorem ss_inc (hy : Y.xi = none) (hN : X.N.Nodup) (hi : X.N[i]? = some x) (hx : X.env.scope.names.lookup x = some .local) (hv : SE X Y W value gv) (hcd : (x == ("__classdict__" : Str)) = false := by decide) : SS X Y W (.AugAssign (.Name x pos') .Add value pos) (sInc i gv) := by
  refine PS.imp (ps_inc hN hi hx hv hcd) fun D σ H h => ?_
  obtain ⟨ρ, env, S, he, hs, hp⟩ := h
  unfold sInc at hp
  split at hp
  · rename_i a ea
    obtain ⟨v, ev, r⟩ := he.at_ i _ ea
    cases r
    refine ⟨_, ev, ρ, env, S, he, hs, ?_⟩
    generalize gv env S = oo at hp
    cases oo with
    | bad => exact hp
    | err c fs S2 => exact fun cls d ρ2 H2 p2 e2 s2 r2 => hp cls d σ ρ2 H2 p2 e2 (he.up p2 e2) s2 r2
    | ok y S2 =>
      intro w ρ2 H2 p2 e2 s2 ry
      simp only [Out.toS, kIncN] at hp
      cases ry <;> try (exact hp.elim)
      rename_i j
      exact ⟨a, j, rfl, rfl, hp _ ρ2 H2 p2 e2 ((he.up p2 e2).set (.int (a + j)) hy) s2⟩
  · exact hp.elim
end
end Mp

set_option Elab.async false
set_option linter.all false
set_option maxRecDepth 100000
set_option maxHeartbeats 1000000
/-! words for Mp31 to Mp34. -/
namespace Mp
open PySem PySem.Spec PyProof.Rows L2
def intOf : Val → Option Int
  | .int j => some j
  | _ => none
@[simp] theorem intOf_int {j : Int} : intOf (.int j) = some j := rfl
variable {env : En} {S : Store} {R : RP} {P : Val → Store → Prop} {E : XO}
@[simp] theorem wR_sInc {i : Nat} {gv : En → Store → Out Val} : wR (sInc i gv env S) R = wP ((env[i]?).bind fun o => o.bind intOf) fun a => wO (gv env S) (fun y S1 => wP (intOf y) fun j => R.nx (env.set i (some (.int (a + j)))) S1) (fun c fs S1 => R.er c fs env S1) := by
  unfold sInc
  cases h : env[i]? with
  | none => rfl
  | some o => cases o with
    | none => rfl
    | some x => cases x with
      | int a =>
        refine wR_toS.trans (wO_ext fun y S1 => ?_)
        cases y <;> rfl
      | _ => rfl
theorem wO_kGet {x y z : Val} : wO (kGet x y z S) P E = wP (dLook S x y) fun o => P (o.getD z) S := by
  unfold kGet
  cases dLook S x y with
  | none => rfl
  | some o => cases o <;> rfl
@[simp] theorem wO_eGet2 {fo fk fd : En → Store → Out Val} : wO (eGet2 fo fk fd env S) P E = wO (fo env S) (fun x S1 => isDct S1 x = true ∧ wO (fk env S1) (fun y S2 => wO (fd env S2) (fun z S3 => wP (dLook S3 x y) fun o => P (o.getD z) S3) E) E) E := by
  refine wO_bind.trans (wO_ext fun x S1 => ?_)
  by_cases h : isDct S1 x = true
  · simp only [h, if_true, true_and]
    refine wO_bind.trans (wO_ext fun y S2 => wO_bind.trans (wO_ext fun z S3 => wO_kGet))
  · have h' : isDct S1 x = false := by simpa using h
    simp only [h', Bool.false_eq_true, if_false, false_and]
    rfl
@[simp] theorem wO_eGet1 {fo fk : En → Store → Out Val} : wO (eGet1 fo fk env S) P E = wO (fo env S) (fun x S1 => isDct S1 x = true ∧ wO (fk env S1) (fun y S2 => wP (dLook S2 x y) fun o => P (o.getD .non) S2) E) E := by
  refine wO_bind.trans (wO_ext fun x S1 => ?_)
  by_cases h : isDct S1 x = true
  · simp only [h, if_true, true_and]
    exact wO_bind.trans (wO_ext fun y S2 => wO_kGet)
  · have h' : isDct S1 x = false := by simpa using h
    simp only [h', Bool.false_eq_true, if_false, false_and]
    rfl
@[simp] theorem wR_sFldInc {cs : List Str} {f : Str} {go gv : En → Store → Out Val} : wR (sFldInc cs f go gv env S) R = wO (go env S) (fun x S1 => wP (incOf cs f S1 x) fun q => wO (gv env S1) (fun y S2 => wR (kInc2 f q.1 q.2 env x y S2) R) (fun c fs S2 => R.er c fs env S2)) (fun c fs S1 => R.er c fs env S1) := by
  refine wR_toS.trans (wO_ext fun x S1 => ?_)
  unfold kInc
  cases incOf cs f S1 x with
  | none => rfl
  | some q => exact wR_toS
theorem wR_kInc2 {f c : Str} {i j : Int} {r : Nat} {fs : List (Str × Val)} (h : S[r]? = some (.ins c fs)) (hl : fs.length < 1000) : wR (kInc2 f c i env (.ref r) (.int j) S) R = R.nx env (S.set r (.ins c (putS f (.int (i + j)) fs))) := by
  unfold kInc2
  simp only [h, hl, and_self, if_true]
  rfl
end Mp

set_option Elab.async false
set_option linter.all false
set_option maxRecDepth 100000
set_option maxHeartbeats 1000000
/-! methods by class, from their defs. -/
namespace Mp
open PySem PySem.Spec PyProof.Rows L2
theorem MeAt.of {P : Program} {w : World} {K : PySem.W.Frag} {mg : Str → Option Value} {base : Heap} {Y : Sy} {c m qual : Str} {st : Stmt} {C f : Addr} {fd : FuncData} {N ps : List Str} {k : Nat} {g : En → Store → Res} (F : FunS K m qual st f fd) (hc : Y.cl c = some C) (mt : Meth K C m f) (S : FnScope N ps (defScope st)) (hb : BindsS m qual st ps) (hy : Y.xi = none)
    (h : ∀ cdv A outer s H E, Cc (cxOf (L2.CX P w) P w K mg base N qual (defScope st) f cdv A outer s H E) Y (fun cls d _ H' => E cls d H') k →
      SSs (cxOf (L2.CX P w) P w K mg base N qual (defScope st) f cdv A outer s H E) Y (fun cls d _ H' => E cls d H') (defBody st) g) : MeAt P w K mg base Y (k + 1) ps.length c m (fnB N.length ps.length g) :=
  ⟨⟨C, f, fd, ps, hc, mt, fn_ok F.fun S hy h, F.fun.binds hb⟩, arity_fnB⟩
section
variable {P : Program} {w : World} {K : PySem.W.Frag} {mg : Str → Option Value} {base : Heap} {Y : Sy} {m : Str} {kc : Nat}
/-- what se_meth asks of its list, class by class -/
def MeL (P : Program) (w : World) (K : PySem.W.Frag) (mg : Str → Option Value) (base : Heap) (Y : Sy) (kc : Nat) (m : Str) (l : List (Str × Fn)) : Prop := ∀ c g, l.lookup c = some g → ∃ k n, MeAt P w K mg base Y k n c m g ∧ k ≤ kc
theorem mel_nil : MeL P w K mg base Y kc m [] := fun c g h => by cases h
theorem mel_cons {c : Str} {g : Fn} {k n : Nat} {l : List (Str × Fn)} (F : MeAt P w K mg base Y k n c m g) (hk : k ≤ kc) (r : MeL P w K mg base Y kc m l) : MeL P w K mg base Y kc m ((c, g) :: l) := fun d g' h => by
  simp only [List.lookup] at h
  cases hq : (d == c) with
  | true =>
    rw [hq] at h
    cases h
    have e : d = c := eq_of_beq hq
    subst e
    exact ⟨k, n, F, hk⟩
  | false =>
    rw [hq] at h
    exact r d g' h
end
/-- an own object is the receiver: its method by its class -/
theorem pickM_at {m : Str} {l : List (Str × Fn)} {S : Store} {i : Nat} {c : Str} {fs : List (Str × Val)} {g : Fn} (h : S[i]? = some (.ins c fs)) (hn : fs.lookup m = none) (hl : l.lookup c = some g) : pickM l m S (.ref i) = some g := by
  unfold pickM
  rw [insOf_at h]
  simp only [hn, if_true, hl]
end Mp

set_option Elab.async false
set_option linter.all false
set_option maxRecDepth 100000
set_option maxHeartbeats 1000000
/-! del d[k]; sum, min, max of a list or a tuple; (x, ..) * n. -/
namespace Mp
open PySem PySem.Spec PyProof.Rows L2

/-! ### del d[k] -/
def dropD {κ : Type} [DecidableEq κ] (kvs : List (κ × Val)) (k : κ) : List (κ × Val) := kvs.filter fun kv => decide (kv.1 ≠ k)
theorem RepK.drop {κ : Type} [DecidableEq κ] {K : PySem.W.Frag} {ρ : List Addr} {H : Hp} (k : κ) : ∀ {ws : List (κ × V)} {kvs : List (κ × Val)}, RepK K ρ H ws kvs → RepK K ρ H (dropK ws k) (dropD kvs k)
  | _, _, .nil => .nil
  | p :: ws, q :: kvs, .cons h r => by
    by_cases e : p.1 = k
    · have e' : q.1 = k := by rw [← h.1]; exact e
      have z1 : dropK (p :: ws) k = dropK ws k := List.filter_cons_of_neg (by simp [e])
      have z2 : dropD (q :: kvs) k = dropD kvs k := List.filter_cons_of_neg (by simp [e'])
      rw [z1, z2]
      exact RepK.drop k r
    · have e' : ¬ q.1 = k := by rw [← h.1]; exact e
      have z1 : dropK (p :: ws) k = p :: dropK ws k := List.filter_cons_of_pos (by simp [e])
      have z2 : dropD (q :: kvs) k = q :: dropD kvs k := List.filter_cons_of_pos (by simp [e'])
      rw [z1, z2]
      exact .cons h (RepK.drop k r)
section
variable {X : Cx} {pins : List (Addr × Obj)} {σ : L2.St} {H : Hp} {s : Shared} {a b : Addr} {kvs : List (List Key × V)} {k : List Key} {A : Around} {E : Value → Shared → Prop}
theorem d_delItemT {Q : Unit → Shared → Prop} (hu : A.units + 1 < cLine) (I : Inv X pins σ H s) (e : H a = some (.dT kvs)) (eb : H b = some (.tup (k.map kV))) (l : (valV kvs k).isSome = true)
    (h : ∀ s', Inv X pins σ (upd H a (.dT (dropK kvs k))) s' → Q () s') : wpAny (model X.prog X.w) A (delItem (.ref a) (.ref b)) Q E s := by
  obtain ⟨z, hd, xs, rel, dd⟩ := dt_of I.hok e
  have hz : xs.length ≤ sizeLine := by rw [← Paired.length rel]; exact z
  obtain ⟨v, hv⟩ := Option.isSome_iff_exists.mp l
  obtain ⟨w', hw, _⟩ := RelO.some_of (v := v) (o := (atKey xs k).map (·.2)) (by rw [← hv]; exact rel.val k)
  obtain ⟨p, hp, _⟩ := Option.map_eq_some_iff.mp hw
  refine wpAny_delItem_heap (hsz := hz) (tupleKind_room_in1 hu) (key_of I.hok eb) hd dd hp fun h' dd' hs => h _ ?_
  obtain ⟨q, es, ep, hq, h2, h3, h4, _, h5⟩ := dd'
  refine d_write I (by rw [e]; exact True.intro) hs ⟨q, hq⟩ ⟨Nat.le_trans (dropK_le kvs k) z, hd, _, (L2.DX.KT_drop k rel).keeps fun c ys ec => ?_, q, es, ep, hq, h2, h3, h4, h5⟩
  rw [upd_ne (ne_of ec e (fun z => nomatch z))]
  exact ec
end
def dDel (d k : Val) (S : Store) : Option Store := match d with
  | .ref n => match S[n]? with
    | some (.dk kvs) => (keyOf k).bind fun k => if (lookK kvs k).isSome = true then some (S.set n (.dk (dropD kvs k))) else none
    | some (.dt kvs) => (tkeyOf k).bind fun k => if (lookK kvs k).isSome = true then some (S.set n (.dt (dropD kvs k))) else none
    | _ => none
  | _ => none
def kDel (d i : Val) (env : En) (S : Store) : Res := match dDel d i S with
  | some S' => .nx env S'
  | none => .bad
def sDel (fo fi : En → Store → Out Val) : En → Store → Res := fun env S => (fo env S).toS env fun d S2 => (fi env S2).toS env fun i S3 => kDel d i env S3
section
variable {X : Cx} {Y : Sy} {W : WX} {o i : Expr} {fo fi : En → Store → Out Val} {pos tpos : Pos}
theorem ss_del (hu : X.A.units + 1 < cLine) (ho : SE X Y W o fo) (hi : SE X Y W i fi) : SS X Y W (.Delete [.Subscript o i tpos] pos) (sDel fo fi) := by
  refine ⟨fun pins s σ H D I h => ?_⟩
  have h1 : tG X.K Y W (RV X.K) fo σ H fun v H1 => tG X.K Y W (RV X.K) fi σ H1 fun j H2 => ∃ a, v = .ref a ∧
      ((∃ kvs k, H2 a = some (.dK kvs) ∧ j = kV k ∧ (valV kvs k).isSome = true ∧ D.nx σ (upd H2 a (.dK (dropK kvs k)))) ∨
       (∃ kvs k b, H2 a = some (.dT kvs) ∧ j = .ref b ∧ H2 b = some (.tup (k.map kV)) ∧ (valV kvs k).isSome = true ∧ D.nx σ (upd H2 a (.dT (dropK kvs k))))) := by
    refine tS.go (k := fun env d S2 => (fi env S2).toS env fun i S3 => kDel d i env S3) h fun ρ env v d H1 S1 he hs rd hp => ?_
    refine tS.in he hs hp fun ρ2 j jj H2 S2 p2 e2 he2 hs2 rj hp2 => ?_
    unfold kDel at hp2
    split at hp2
    · rename_i S' es
      unfold dDel at es
      split at es
      · rename_i n
        cases rd with
        | @ref a _ hn =>
        have hn2 := p2 _ _ hn
        refine ⟨a, rfl, ?_⟩
        split at es
        · rename_i kvs ex
          obtain ⟨k, ek, es⟩ := Option.bind_eq_some_iff.mp es
          split at es
          · rename_i hl
            cases es
            obtain ⟨ws, ew, r⟩ := hs2.dk hn2 ex
            have e3 := keyOf_rep rj ek
            subst e3
            have hl2 : (valV ws k).isSome = true := by
              rcases r.look k with ⟨q1, q2⟩ | ⟨v, x, q1, q2, q3⟩
              · rw [q1] at hl; cases hl
              · rw [q2]; rfl
            have e1 : Ext H2 (upd H2 a (.dK (dropK ws k))) := Ext.mut ew (fun z => z)
            obtain ⟨q1, q2⟩ := hs2.put (u := .dK (dropK ws k)) (o := .dk (dropD kvs k)) hn2 ⟨_, upd_same, (r.drop k).up (Pre.refl _) e1⟩
            exact .inl ⟨ws, k, ew, rfl, hl2, hp2 σ ρ2 _ (Pre.refl _) q1 (he2.up (Pre.refl _) q1) q2⟩
          · cases es
        · rename_i kvs ex
          obtain ⟨k, ek, es⟩ := Option.bind_eq_some_iff.mp es
          split at es
          · rename_i hl
            cases es
            obtain ⟨ws, ew, r⟩ := hs2.dt hn2 ex
            obtain ⟨b, rfl, eb⟩ := tkeyOf_rep rj ek
            have hl2 : (valV ws k).isSome = true := by
              rcases r.look k with ⟨q1, q2⟩ | ⟨v, x, q1, q2, q3⟩
              · rw [q1] at hl; cases hl
              · rw [q2]; rfl
            have e1 : Ext H2 (upd H2 a (.dT (dropK ws k))) := Ext.mut ew (fun z => z)
            obtain ⟨q1, q2⟩ := hs2.put (u := .dT (dropK ws k)) (o := .dt (dropD kvs k)) hn2 ⟨_, upd_same, (r.drop k).up (Pre.refl _) e1⟩
            exact .inr ⟨ws, k, b, ew, rfl, eb, hl2, hp2 σ ρ2 _ (Pre.refl _) q1 (he2.up (Pre.refl _) q1) q2⟩
          · cases es
        · cases es
      · cases es
    · exact hp2.elim
  refine wpAny_Delete (wpAny_deleteEach_cons (wpAny_delete_Subscript (thn (ho.run pins s σ H _ I h1) fun u s1 ⟨x, H1, I1, rx, q1⟩ => thn (hi.run pins s1 σ H1 _ I1 q1) fun iv s2 ⟨y, H2, I2, ry, a, ex, q2⟩ => ?_)))
  subst ex
  obtain rfl : u = Value.ref a := rx
  rcases q2 with ⟨kvs, k, e, rfl, l, q3⟩ | ⟨kvs, k, b, e, rfl, eb, l, q3⟩
  · exact d_delItem I2 e ry l fun s3 I3 => wpAny_deleteEach_nil ⟨σ, _, I3, q3⟩
  · obtain rfl : iv = Value.ref b := ry
    exact d_delItemT hu I2 e eb l fun s3 I3 => wpAny_deleteEach_nil ⟨σ, _, I3, q3⟩
end
section
variable {env : En} {S : Store} {R : RP}
@[simp] theorem wR_sDel {fo fi : En → Store → Out Val} : wR (sDel fo fi env S) R = wO (fo env S) (fun d S2 => wO (fi env S2) (fun i S3 => wP (dDel d i S3) fun S4 => R.nx env S4) fun c fs S1 => R.er c fs env S1) (fun c fs S1 => R.er c fs env S1) := by
  refine wR_toS.trans (wO_ext fun d S2 => wR_toS.trans (wO_ext fun i S3 => ?_))
  unfold kDel
  cases dDel d i S3 <;> rfl
end

/-! ### sum, min, max of a list or a tuple -/
def getLT (S : Store) (x : Val) : Option (List Val) := match x with
  | .tup xs => some xs
  | x => getL S x
theorem getLT_rep {K : PySem.W.Frag} {Y : Sy} {ρ : List Addr} {H : Hp} {S : Store} {v : V} {x : Val} {xs : List Val} (s : Sim K Y ρ H S) (r : Rep K ρ H v x) (h : getLT S x = some xs) : ∃ a vs, v = .ref a ∧ (SqT K H a vs ∨ SqL K H a vs) ∧ Reps K ρ H vs xs := by
  unfold getLT at h
  split at h
  · cases h
    cases r with
    | @tup a ws _ e r => exact ⟨a, ws, rfl, .inl (SqT.of e), r⟩
  · obtain ⟨a, vs, e, h1, h2⟩ := getL_rep s r h
    exact ⟨a, vs, e, .inr h1, h2⟩
def rSumT (K : PySem.W.Frag) : List V → Hp → VK → Prop := fun vs H Q => ∃ (a : Addr) (ns : List Int), vs = [V.ref a] ∧ (SqT K H a (ns.map V.int) ∨ SqL K H a (ns.map V.int)) ∧ Q (.int ns.sum) H
section
variable {X : Cx} {Y : Sy} {W : WX} {p pos : Pos} {e : Expr} {ga : En → Store → Out (List Val)}
theorem cr_sumT (hc : X.calm = true) : CallR X (.builtin "sum") (rSumT X.K) := by
  intro pins s σ H vs us Q I r h
  obtain ⟨a, ns, rfl, hs, q⟩ := h
  rcases hs with hs | hs
  · obtain ⟨its, rv, hl, _⟩ := I.tuple hs
    rw [Vals.ref1 r]
    have hi := rv.ints
    obtain ⟨xs, hx⟩ := hi.allInts.items
    have hn : numsOf its.toArray.toList = ns := by rw [show its.toArray.toList = its from rfl, hi.numsOf]
    rw [hx] at hl hn
    rw [nums_intItems] at hn
    refine PySem.W.ktm_sumG (I.ok.hd hc) hl fun h' tk t' hk => ⟨.int _, H, I.kept hk, ⟨t', ?_⟩, q⟩
    rw [preSum_eq, List.take_of_length_le (by simp), hn]
  · exact cr_sum hc pins s σ H _ us Q I r ⟨a, ns, rfl, hs, q⟩
def fSumT : Fn := fun vs S => match vs with
  | [x] => match (getLT S x).bind intsOf with
    | some ns => .ok (.int ns.sum) S
    | none => .bad
  | _ => .bad
theorem se_sumT (hc : X.calm = true) (hg : Gl X "sum") (hm : X.mg "sum" = none) (ha : SA X Y W [e] ga) (he : starEach [e] X.env = [(false, eval e X.env)] := by rfl) : SE X Y W (.Call (.Name "sum" p) [e] [] pos) (eCall fSumT ga) := by
  refine se_b (cr_sumT hc) (fun W' ρ H S vs xs Q hs rx h => ?_) hg hm (by decide +kernel) ha (he := he)
  unfold fSumT at h
  split at h
  · split at h
    · rename_i x ns en
      obtain ⟨ys, e1, e2⟩ := Option.bind_eq_some_iff.mp en
      obtain ⟨v, rfl, rv⟩ := reps1 rx
      obtain ⟨a, ws, rfl, hq, r⟩ := getLT_rep hs rv e1
      have := intsOf_rep r e2
      subst this
      exact ⟨a, ns, rfl, hq, h _ ρ H (Pre.refl _) (Ext.refl _) hs (.int _)⟩
    · exact h.elim
  · exact h.elim
theorem wO_sumT {S : Store} {x : Val} {ns : List Int} {P : Val → Store → Prop} {E : XO} (h : (getLT S x).bind intsOf = some ns) : wO (fSumT [x] S) P E = P (.int ns.sum) S := by
  unfold fSumT
  simp only [h]
  rfl
/-- min (hi = false) or max of whole numbers -/
def extI (hi : Bool) (n : Int) (ns : List Int) : Int := if hi = true then ns.foldl max n else ns.foldl min n
def rExt (hi : Bool) (K : PySem.W.Frag) : List V → Hp → VK → Prop := fun vs H Q => ∃ (a : Addr) (n : Int) (ns : List Int), vs = [V.ref a] ∧ (SqT K H a ((n :: ns).map V.int) ∨ SqL K H a ((n :: ns).map V.int)) ∧ Q (.int (extI hi n ns)) H
theorem dpAll_ints {K : PySem.W.Frag} {H : Hp} : ∀ ns : List Int, DpAll K H (ns.map V.int) (ns.map PyData.int)
  | [] => .nil
  | n :: r => .cons (.int n) (dpAll_ints r)
theorem alike_ints (ns : List Int) : PySem.W.AlikeAll (ns.map PyData.int) := by
  refine ⟨fun d hd d' hd' => ?_, fun d hd => ?_⟩
  · obtain ⟨a, _, rfl⟩ := List.mem_map.mp hd
    obtain ⟨b, _, rfl⟩ := List.mem_map.mp hd'
    simp [PySem.W.alike]
  · obtain ⟨a, _, rfl⟩ := List.mem_map.mp hd
    simp
theorem reads_int {h : Heap} {v : Value} {n : Int} {bs : List Addr} (r : Reads h v (.int n) bs) : ∃ t, v = .int n t := by
  cases r
  exact ⟨_, rfl⟩
theorem cr_ext (hi : Bool) (hc : X.calm = true) (hu : X.A.units + 64 < cLine) : CallR X (.builtin (if hi = true then "max" else "min")) (rExt hi X.K) := by
  intro pins s σ H vs us Q I r h
  obtain ⟨a, n, ns, rfl, hs, q⟩ := h
  have dp := depthAll_ints (n :: ns)
  rcases hs with hs | hs
  · obtain ⟨its, rv, hl, _⟩ := I.tuple hs
    obtain ⟨as, ra⟩ := Dp.readsAll I ((n :: ns).map PyData.int) ((n :: ns).map V.int) its (dpAll_ints _) rv
    rw [Vals.ref1 r]
    cases hi with
    | true =>
      refine PySem.W.max_tuple_data (I.ok.hd hc) hl (x := .int n) (xs := ns.map .int) (by simpa using ra) (alike_ints (n :: ns)) (by rw [show PyData.int n :: ns.map PyData.int = (n :: ns).map PyData.int from rfl, dp]; omega) fun i v h' tk bs hi rd kp => ?_
      rw [PySem.W.maxD_ints] at rd
      obtain ⟨t, rfl⟩ := reads_int rd
      exact ⟨.int _, H, I.kept kp, ⟨t, rfl⟩, q⟩
    | false =>
      refine PySem.W.min_tuple_data (I.ok.hd hc) hl (x := .int n) (xs := ns.map .int) (by simpa using ra) (alike_ints (n :: ns)) (by rw [show PyData.int n :: ns.map PyData.int = (n :: ns).map PyData.int from rfl, dp]; omega) fun i v h' tk bs hi rd kp => ?_
      rw [PySem.W.minD_ints] at rd
      obtain ⟨t, rfl⟩ := reads_int rd
      exact ⟨.int _, H, I.kept kp, ⟨t, rfl⟩, q⟩
  · obtain ⟨its, rv, hl, _⟩ := I.list hs
    obtain ⟨as, ra⟩ := Dp.readsAll I ((n :: ns).map PyData.int) ((n :: ns).map V.int) its (dpAll_ints _) rv
    rw [Vals.ref1 r]
    cases hi with
    | true =>
      refine PySem.W.max_list_data (I.ok.hd hc) hl.isList (x := .int n) (xs := ns.map .int) (by simpa using ra) (alike_ints (n :: ns)) (by rw [show PyData.int n :: ns.map PyData.int = (n :: ns).map PyData.int from rfl, dp]; omega) fun i v h' tk bs hi rd kp => ?_
      rw [PySem.W.maxD_ints] at rd
      obtain ⟨t, rfl⟩ := reads_int rd
      exact ⟨.int _, H, I.kept kp, ⟨t, rfl⟩, q⟩
    | false =>
      refine PySem.W.min_list_data (I.ok.hd hc) hl.isList (x := .int n) (xs := ns.map .int) (by simpa using ra) (alike_ints (n :: ns)) (by rw [show PyData.int n :: ns.map PyData.int = (n :: ns).map PyData.int from rfl, dp]; omega) fun i v h' tk bs hi rd kp => ?_
      rw [PySem.W.minD_ints] at rd
      obtain ⟨t, rfl⟩ := reads_int rd
      exact ⟨.int _, H, I.kept kp, ⟨t, rfl⟩, q⟩
def fExt (hi : Bool) : Fn := fun vs S => match vs with
  | [x] => match (getLT S x).bind intsOf with
    | some (n :: ns) => .ok (.int (extI hi n ns)) S
    | _ => .bad
  | _ => .bad
theorem fExt_ok {hi : Bool} {W' : Value → Option Addr → Hp → Prop} {ρ : List Addr} {H : Hp} {S : Store} {vs : List V} {xs : List Val} {Q : VK} (hs : Sim X.K Y ρ H S) (rx : Reps X.K ρ H vs xs) (h : Post X.K Y W' ρ H (RV X.K) Q (fExt hi xs S)) : rExt hi X.K vs H Q := by
  unfold fExt at h
  split at h
  · split at h
    · rename_i x n ns en
      obtain ⟨ys, e1, e2⟩ := Option.bind_eq_some_iff.mp en
      obtain ⟨v, rfl, rv⟩ := reps1 rx
      obtain ⟨a, ws, rfl, hq, r⟩ := getLT_rep hs rv e1
      have := intsOf_rep r e2
      subst this
      exact ⟨a, n, ns, rfl, hq, h _ ρ H (Pre.refl _) (Ext.refl _) hs (.int _)⟩
    · exact h.elim
  · exact h.elim
theorem se_max1 (hc : X.calm = true) (hu : X.A.units + 64 < cLine) (hg : Gl X "max") (hm : X.mg "max" = none) (ha : SA X Y W [e] ga) (he : starEach [e] X.env = [(false, eval e X.env)] := by rfl) : SE X Y W (.Call (.Name "max" p) [e] [] pos) (eCall (fExt true) ga) :=
  se_b (cr_ext true hc hu) (fun W' ρ H S vs xs Q hs rx h => fExt_ok hs rx h) hg hm (by decide +kernel) ha (he := he)
theorem se_min1 (hc : X.calm = true) (hu : X.A.units + 64 < cLine) (hg : Gl X "min") (hm : X.mg "min" = none) (ha : SA X Y W [e] ga) (he : starEach [e] X.env = [(false, eval e X.env)] := by rfl) : SE X Y W (.Call (.Name "min" p) [e] [] pos) (eCall (fExt false) ga) :=
  se_b (cr_ext false hc hu) (fun W' ρ H S vs xs Q hs rx h => fExt_ok hs rx h) hg hm (by decide +kernel) ha (he := he)
theorem wO_ext1 {hi : Bool} {S : Store} {x : Val} {n : Int} {ns : List Int} {P : Val → Store → Prop} {E : XO} (h : (getLT S x).bind intsOf = some (n :: ns)) : wO (fExt hi [x] S) P E = P (.int (extI hi n ns)) S := by
  unfold fExt
  simp only [h]
  rfl
end
end Mp

set_option Elab.async false
set_option linter.all false
set_option maxRecDepth 100000
set_option maxHeartbeats 1000000
/-! sorted(d); (x, ..) * n. -/
namespace Mp
open PySem PySem.Spec PyProof.Rows L2

/-! ### a dict's keys, in a row -/
section
variable {prog : Program} {w : World} {d : Addr} {o : Obj} {es : Array DictEntry} {ep : Nat}
theorem dictSrc (lo : (d == sysModules) = false) (hx : o.ExactDict) (hd : o.data = .dict es ep) :
    PySem.W.KdlSrc prog w "dict" d d es.size (fun i u => ∃ en : DictEntry, es[i]? = some en ∧ u = en.key) (fun h => h.get? d = some o) where
  type := fun _ z => ⟨o, z, hx.1⟩
  there := fun _ z => ⟨Heap.lt_size z, Heap.lt_size z⟩
  keep := fun _ _ z k => k d (.inl rfl) _ z
  notList := by decide
  notTuple := by decide
  hint := fun _ _ _ _ z q => PySem.W.kdl_hint_dict ⟨o, z, hx.1⟩ q
  iter := fun _ s hh z => ⟨_, _, fun _ _ q => PySem.wpAny_pyIter_dict_raw lo ⟨o, z, hx, hd⟩ q, walks_raw hh _ d (Nat.ne_of_lt (Heap.lt_size z)) hd, ⟨⟨_, Heap.get?_push_size _ rfl, rfl, rfl⟩, Heap.get?_push_of_some _ z⟩⟩
end
/-- what is asked of the items to be sorted -/
def SortRest (K : PySem.W.Frag) (H : Hp) (Q : VK) (bs : List (V × PyData)) : Prop :=
  (∀ p ∈ bs, Dp K H p.1 p.2) ∧ PySem.W.AllAlike (bs.map (·.2)) ∧ PySem.W.Sortable (bs.map (·.2)) ∧
  (∀ p ∈ bs, p.2.depth ≤ 64) ∧ bs.length ≤ sizeLine ∧ ∀ p, H p = none → Q (.ref p) (upd H p (.lst ((bs.mergeSort (PySem.W.dataLe false (·.2))).map (·.1))))
/-- sorted(d) of a dict -/
def rSortedD (K : PySem.W.Frag) : List V → Hp → VK → Prop := fun vs H Q => ∃ (a : Addr), vs = [V.ref a] ∧
  ((∃ kvs, H a = some (.dT kvs) ∧ ∀ cs, IsKeys H kvs cs → ∃ bs : List (V × PyData), bs.map (·.1) = cs.map V.ref ∧ SortRest K H Q bs) ∨ (∃ kvs, H a = some (.dK kvs) ∧ ∃ bs : List (V × PyData), bs.map (·.1) = kvs.map (fun kv => kV kv.1) ∧ SortRest K H Q bs))
section
variable {X : Cx} {Y : Sy} {W : WX} {p pos : Pos} {e : Expr} {ga : En → Store → Out (List Val)}
theorem sort_new {pins : List (Addr × Obj)} {s : Shared} {σ : L2.St} {H : Hp} {A : Around} {E : Value → Shared → Prop} {its : List Value} {bs : List (V × PyData)} {Q : Value → Shared → Prop} (I : Inv X pins σ H s) (hu : A.units + 65 < cLine) (rv : Vals (bs.map (·.1)) its)
    (hd : ∀ p ∈ bs, Dp X.K H p.1 p.2) (hal : PySem.W.AllAlike (bs.map (·.2))) (hk : PySem.W.Sortable (bs.map (·.2))) (hdp : ∀ p ∈ bs, p.2.depth ≤ 64) (hl : bs.length ≤ sizeLine)
    (q : ∀ s', Inv X pins σ (upd H s.heap.objs.size (.lst ((bs.mergeSort (PySem.W.dataLe false (·.2))).map (·.1)))) s' → Q (.ref s.heap.objs.size) s') :
    wpAny (model X.prog X.w) A (do
      let l ← newList its
      let _ ← holding [l] (call (.builtin "list.sort") [l] [])
      ret l) (fun r s' => ∃ v, r = .done (.ret v) ∧ Q v s') E s := by
  have hlen : its.length = bs.length := by rw [← rv.length, List.length_map]
  have e1 : PySem.W.EachIs (fun (v : Value) (b : V × PyData) => RelV b.1 v) its bs := each_of hlen fun i v b h1 h2 => by
    obtain ⟨u, h3, h4⟩ := rv.get (i := i) (x := b.1) (by rw [List.getElem?_map, h2]; rfl)
    rw [h1] at h3
    cases h3
    exact h4
  have e2 : PySem.W.EachIs (fun (v : Value) (b : V × PyData) => ∃ as, Reads s.heap v b.2 as) its bs := each_of hlen fun i v b h1 h2 => by
    obtain ⟨u, h3, h4⟩ := rv.get (i := i) (x := b.1) (by rw [List.getElem?_map, h2]; rfl)
    rw [h1] at h3
    cases h3
    exact Dp.reads I b.2 b.1 v (hd b (List.mem_of_getElem? h2)) h4
  refine wpAny_bind (wpAny_newList ?_ (by omega))
  have ho : (s.heap.push (seqObj "list" its.toArray 0)).get? s.heap.objs.size = some (seqObj "list" its.toArray 0) := Heap.get?_push_size _ rfl
  have e3 : PySem.W.EachIs (fun (v : Value) (b : V × PyData) => ∃ as, Reads (s.heap.push (seqObj "list" its.toArray 0)) v b.2 as ∧ s.heap.objs.size ∉ as) its bs :=
    e2.mono fun v b ⟨as, r⟩ => ⟨as, PyProof.Rows.Reads.keeps (fun _ _ z => Heap.get?_push_of_some _ z) r, fun hm => by
      obtain ⟨o, ho⟩ := PyProof.On.reads_mem_get r _ hm
      exact absurd (Heap.lt_size ho) (Nat.lt_irrefl _)⟩
  show wpAny _ _ _ _ _ { s with heap := s.heap.push (seqObj "list" its.toArray 0) }
  refine wpAny_bind (wpAny_holding (PySem.W.list_sort_data (s := { s with heap := s.heap.push (seqObj "list" its.toArray 0) }) (enc := fun b : V × PyData => b.2) ho e1 e3 hal hk hl (fun b hb => by have := hdp b hb; show A.units + 1 + b.2.depth < cLine; omega) fun out h1 h2 => ?_))
  refine wpAny_pure ⟨_, rfl, ?_⟩
  obtain ⟨e', he'⟩ := PyProof.Rows.sortedHeap_at (vs := its) (out := out.toArray) ho
  have hlen2 : ((bs.mergeSort (PySem.W.dataLe false (·.2))).map (·.1)).length ≤ sizeLine := by rw [List.length_map, List.length_mergeSort]; exact hl
  refine q _ (I.laid (t' := s.toks) (fun b u e => ?_) (Nat.le_refl _) ⟨hlen2, out, e', vals_each h2, ?_⟩)
  · have hb : b < s.heap.objs.size := Heap.lt_size e
    rw [PyProof.Rows.sortedHeap_old (Nat.ne_of_lt hb) (by rw [size_push']; exact Nat.lt_succ_of_lt hb)]
    exact Heap.get?_push_of_some _ e
  · simpa using he'
theorem cr_sortedD (hc : X.calm = true) (hu : X.A.units + 66 < cLine) : CallR X (.builtin "sorted") (rSortedD X.K) := by
  intro pins s σ H vs us Q I r h
  obtain ⟨a, rfl, hs⟩ := h
  rw [Vals.ref1 r]
  refine Calls.call_function_entry PyProof.Rows.kind_sorted PyProof.Rows.plain_sorted PyProof.Rows.entry_sorted (PyProof.Rows.args_sorted1 _) ?_
  unfold Builtin.«sorted»
  refine wpAny_bind (m := checkCount "sorted" 1 1 _) (wpAny_pure ?_)
  have fin : ∀ (h' : Heap) (tk : Nat) (its : List Value) (bs : List (V × PyData)), SortRest X.K H Q bs → (∀ b o, s.heap.get? b = some o → h'.get? b = some o) → Vals (bs.map (·.1)) its → wpAny (model X.prog X.w) X.A.in1 (do
      let l ← newList its
      let _ ← holding [l] (call (.builtin "list.sort") [l] [])
      ret l) (fun r s' => ∃ v, r = .done (.ret v) ∧ EP X pins σ Q v s') X.xe { s with heap := h', toks := tk } := fun h' tk its bs hr hk2 rv => by
    obtain ⟨hd, hal, hk, hdp, hl, q⟩ := hr
    have I1 : Inv X pins σ H { s with heap := h', toks := tk } := I.kept hk2
    exact sort_new I1 (by show X.A.units + 1 + 65 < cLine; omega) rv hd hal hk hdp hl fun s' I2 => ⟨.ref _, _, I2, rfl, q _ (I1.hok.fresh (Nat.le_refl _))⟩
  rcases hs with ⟨kvs, e, hb⟩ | ⟨kvs, e, bs, hb, hr⟩
  · obtain ⟨z, lo, ks, pr, o, es, ep, ho, hx, hdt, ents, nn⟩ := dt_of I.hok e
    have l1 : es.size = ks.length := size_of_entries ents
    have l2 : kvs.length = ks.length := Paired.length pr
    obtain ⟨bs, hb1, hr⟩ := hb _ (isKeys_of pr)
    refine wpAny_bind (PySem.W.kdu_collect (A := X.A.in1) (dictSrc lo hx hdt) (I.ok.hd hc) ho (by omega) fun h' tk acc hk2 it => fin h' tk acc.toList bs hr hk2 ?_)
    rw [hb1]
    have ea : acc.toList = (ks.map fun x => x.2.1).map Value.ref := by
      have hl : acc.toList.length = ks.length := by rw [Array.length_toList, it.1]; exact l1
      refine List.ext_getElem? fun j => ?_
      rw [List.map_map, List.getElem?_map]
      cases hb : ks[j]? with
      | none =>
        have := List.getElem?_eq_none_iff.mp hb
        rw [List.getElem?_eq_none (by omega)]; rfl
      | some b =>
        have hj : j < acc.toList.length := by rw [hl]; exact (List.getElem?_eq_some_iff.mp hb).1
        obtain ⟨en, hen, hv⟩ := it.2 j acc.toList[j] (by rw [← Array.getElem?_toList]; exact List.getElem?_eq_getElem hj)
        have qe := entry_at ents j
        rw [hen, hb] at qe
        rw [List.getElem?_eq_getElem hj, hv, show en = entryOfKey (tupleKind (mixKind X.prog X.w)) b from Option.some.inj qe]
        rfl
    rw [ea]
    exact vals_refs _
  · obtain ⟨z, lo, ks, rel, dd⟩ := dk_of I.hok e
    obtain ⟨ep, hat⟩ := dd.dictAt
    have ek : (kvs.map fun kv => kV kv.1) = ks.map fun p => kV p.1 := by
      have e := congrArg (List.map kV) rel.keys
      rw [List.map_map, List.map_map] at e
      exact e
    refine wpAny_bind (PySem.W.kdu_collect (A := X.A.in1) (PySem.W.kdl_dict (knd := mixKind X.prog X.w) (kvs := ks) (ep := ep) lo) (I.ok.hd hc) hat (by rw [← rel.length]; exact z) fun h' tk acc hk2 hacc => fin h' tk acc.toList bs hr hk2 ?_)
    rw [hb, ek]
    exact keys_at (by rw [Array.length_toList]; exact hacc.1) fun j v e => hacc.2 j v (by rw [← Array.getElem?_toList]; exact e)
/-- a dict's keys as data -/
def keyVals (S : Store) : Val → Option (List Val)
  | .ref n => (match S[n]? with
    | some (.dt kvs) => some (keysL kvs)
    | some (.dk kvs) => some (kvs.map fun kv => kVal kv.1)
    | _ => none)
  | _ => none
open Classical in
noncomputable def fSortedD : Fn := fun vs S => match vs with
  | [x] => match keyVals S x with
    | some xs => if (∃ ds, toDs xs = some ds ∧ PySem.W.AllAlike ds ∧ PySem.W.Sortable ds ∧ ∀ d ∈ ds, d.depth ≤ 64) ∧ xs.length ≤ LIM then .ok (.ref S.length) (S ++ [.lst (xs.mergeSort leV)]) else .bad
    | none => .bad
  | _ => .bad
theorem reps_keysK {K : PySem.W.Frag} {ρ : List Addr} {H : Hp} : ∀ {ws : List (Key × V)} {kvs : List (Key × Val)}, RepK K ρ H ws kvs → Reps K ρ H (ws.map fun kv => kV kv.1) (kvs.map fun kv => kVal kv.1)
  | _, _, .nil => .nil
  | (a, _) :: _, (b, _) :: _, .cons h r => by
    obtain ⟨h1, _⟩ := h
    obtain rfl : a = b := h1
    refine .cons ?_ (reps_keysK r)
    cases a with
    | inl i => exact .int i
    | inr x => exact .str x
theorem sortRest_of {ρ : List Addr} {H : Hp} {S : Store} {W' : Value → Option Addr → Hp → Prop} {ws : List V} {ys : List Val} {ds : List PyData} {Q : VK} (hs : Sim X.K Y ρ H S) (r : Reps X.K ρ H ws ys) (e1 : toDs ys = some ds) (e2 : PySem.W.AllAlike ds) (e3 : PySem.W.Sortable ds) (e4 : ∀ d ∈ ds, d.depth ≤ 64) (hl : ys.length ≤ LIM)
    (h : Post X.K Y W' ρ H (RV X.K) Q (.ok (.ref S.length) (S ++ [.lst (ys.mergeSort leV)]))) : ∃ bs : List (V × PyData), bs.map (·.1) = ws ∧ SortRest X.K H Q bs := by
  have hz : (ws.zip ys).map (·.1) = ws := by rw [List.map_fst_zip]; rw [r.length]; exact Nat.le_refl _
  have hz2 : (ws.zip ys).map (·.2) = ys := by rw [List.map_snd_zip]; rw [r.length]; exact Nat.le_refl _
  let cs : List (V × Val) := ws.zip ys
  let bs : List (V × PyData) := cs.map fun p => (p.1, dOf p.2)
  have hb1 : bs.map (·.1) = ws := by
    show (cs.map _).map _ = _
    rw [List.map_map]
    exact hz
  have hb2 : bs.map (·.2) = ds := by
    show (cs.map _).map _ = _
    rw [List.map_map]
    have : cs.map ((fun (x : V × PyData) => x.2) ∘ fun (p : V × Val) => (p.1, dOf p.2)) = (cs.map (·.2)).map dOf := by rw [List.map_map]; rfl
    rw [this, show cs.map (·.2) = ys from hz2, toDs_map e1]
  have hrep : ∀ p ∈ cs, Rep X.K ρ H p.1 p.2 := fun p hp => by
    obtain ⟨i, hi⟩ := List.mem_iff_getElem?.mp hp
    have h1 : (cs.map (·.1))[i]? = some p.1 := by rw [List.getElem?_map, hi]; rfl
    have h2 : (cs.map (·.2))[i]? = some p.2 := by rw [List.getElem?_map, hi]; rfl
    rw [show cs.map (·.1) = ws from hz] at h1
    rw [show cs.map (·.2) = ys from hz2] at h2
    obtain ⟨v, h3, h4⟩ := r.get h2
    rw [h1] at h3
    cases h3
    exact h4
  have hsort : (bs.mergeSort (PySem.W.dataLe false (·.2))) = (cs.mergeSort (fun p q => leV p.2 q.2)).map fun p => (p.1, dOf p.2) :=
    (PySem.W.sort_maps (fun p : V × Val => (p.1, dOf p.2)) (l := cs) (r := fun p q => leV p.2 q.2) (s := PySem.W.dataLe false (·.2)) fun _ _ _ _ => rfl).symm
  have hsy : (cs.mergeSort (fun p q => leV p.2 q.2)).map (·.2) = ys.mergeSort leV := by
    rw [← hz2]
    exact PySem.W.sort_maps (fun p : V × Val => p.2) (l := cs) (r := fun p q => leV p.2 q.2) (s := leV) fun _ _ _ _ => rfl
  refine ⟨bs, hb1, fun p hp => ?_, by rw [hb2]; exact e2, by rw [hb2]; exact e3, fun p hp => ?_, ?_, fun p hn => ?_⟩
  · obtain ⟨c, hc, rfl⟩ := List.mem_map.mp hp
    have hy : c.2 ∈ ys := by rw [← hz2]; exact List.mem_map.mpr ⟨c, hc, rfl⟩
    obtain ⟨d, h1, _⟩ := toDs_all e1 c.2 hy
    exact toD_dp (hrep c hc) (by rw [dOf_of h1]; exact h1)
  · exact e4 p.2 (by rw [← hb2]; exact List.mem_map.mpr ⟨p, hp, rfl⟩)
  · have : bs.length = ys.length := by
      have h9 := congrArg List.length hb1
      rw [List.length_map] at h9
      exact h9.trans r.length
    rw [this]
    exact lim_le hl
  · have en := Ext.new (o := .lst ((bs.mergeSort (PySem.W.dataLe false (·.2))).map (·.1))) hn
    refine h _ (ρ ++ [p]) _ (Pre.snoc _ _) en (hs.new hn ⟨_, upd_same, ?_⟩) (rep_new hs.len.symm)
    rw [hsort, List.map_map]
    have hr : ∀ l : List (V × Val), (∀ p ∈ l, Rep X.K ρ H p.1 p.2) → Reps X.K ρ H (l.map ((fun (x : V × PyData) => x.1) ∘ fun (p : V × Val) => (p.1, dOf p.2))) (l.map (·.2)) := by
      intro l
      induction l with
      | nil => intro _; exact .nil
      | cons q l ih => intro hl; exact .cons (hl q (by simp)) (ih fun p hp => hl p (by simp [hp]))
    rw [← hsy]
    rw [hsort, List.map_map] at en
    exact (hr _ fun p hp => hrep p ((List.mergeSort_perm _ _).mem_iff.mp hp)).up (Pre.snoc _ _) en
theorem se_sortedD (hc : X.calm = true) (hu : X.A.units + 66 < cLine) (hg : Gl X "sorted") (hm : X.mg "sorted" = none) (ha : SA X Y W [e] ga) (he : starEach [e] X.env = [(false, eval e X.env)] := by rfl) : SE X Y W (.Call (.Name "sorted" p) [e] [] pos) (eCall fSortedD ga) := by
  refine se_b (cr_sortedD hc hu) (fun W' ρ H S vs xs Q hs rx h => ?_) hg hm (by decide +kernel) ha (he := he)
  unfold fSortedD at h
  split at h
  · split at h
    · rename_i ys ey
      split at h
      · rename_i hcc
        obtain ⟨⟨ds, e1, e2, e3, e4⟩, hl⟩ := hcc
        obtain ⟨v, rfl, rv⟩ := reps1 rx
        unfold keyVals at ey
        split at ey
        · rename_i n
          cases rv with
          | @ref a _ hn =>
          refine ⟨a, rfl, ?_⟩
          split at ey
          · rename_i kvs ek
            cases ey
            obtain ⟨ws, e5, r⟩ := hs.dt hn ek
            exact .inl ⟨ws, e5, fun cs hcs => sortRest_of hs (reps_keys r hcs) e1 e2 e3 e4 hl h⟩
          · rename_i kvs ek
            cases ey
            obtain ⟨ws, e5, r⟩ := hs.dk hn ek
            exact .inr ⟨ws, e5, sortRest_of hs (reps_keysK r) e1 e2 e3 e4 hl h⟩
          · cases ey
        · cases ey
      · exact h.elim
    · exact h.elim
  · exact h.elim
end
theorem fSortedD_of {S : Store} {x : Val} {xs : List Val} {l : Nat} {P : Val → Store → Prop} {E : XO} (h : keyVals S x = some xs) (hs : ∀ S', wO (fSorted [.ref S'.length] (S' ++ [.lst xs])) (fun v S2 => S2 = (S' ++ [.lst xs]) ++ [.lst (xs.mergeSort leV)]) noX) : wO (fSortedD [x] S) P E = P (.ref S.length) (S ++ [.lst (xs.mergeSort leV)]) := by
  have h1 := hs S
  unfold fSorted at h1
  simp only [getL_ref, List.getElem?_append_right (Nat.le_refl _), Nat.sub_self, List.getElem?_cons_zero] at h1
  unfold fSortedD
  simp only [h]
  split at h1
  · rename_i hcc
    simp only [if_pos hcc]
    rfl
  · exact h1.elim
end Mp

set_option Elab.async false
set_option linter.all false
set_option maxRecDepth 100000
set_option maxHeartbeats 4000000
/-! (x, ..) * n. -/
namespace Mp
open PySem PySem.Spec PyProof.Rows L2
theorem tuple_mul1 (l : Addr) (items : Array Value) (n : Nat) (dd : Option Addr) (sl : Array (Option Value)) (u : Tok) :
    Meets (Builtin.«tuple.__mul__» ⟨[.ref l, .int 1 u], []⟩) (fun _ R s => s.heap.get? l = some { cls := .type "tuple", dict := dd, data := .seq items n, slots := sl } ∧ R (.ok (.ret (.ref l))) s) :=
  .of_wp fun prog w A R s h => by
    obtain ⟨hp, g, d, tk, os⟩ := s
    obtain ⟨hl, h⟩ := h
    have f1 := AutoSeq1.idx_int
    wp_walk using wpAny_loadPart' hl
    exact ⟨_, rfl, h⟩
def rRep1 (K : PySem.W.Frag) : R2 := fun x y H Q => ∃ l xs, x = .ref l ∧ y = .int 1 ∧ SqT K H l xs ∧ Q (.ref l) H
section
variable {X : Cx} {Y : Sy} {W : WX} {a b : Expr} {fa fb : En → Store → Out Val} {pos : Pos}
theorem op_rep1 : OpR X (binaryOp .Mult) (rRep1 X.K) := by
  intro pins s σ H x y v u Q I rx ry h
  obtain ⟨l, xs, rfl, rfl, hT, q⟩ := h
  cases rx
  obtain ⟨t, rfl⟩ := ry
  obtain ⟨its, r, ⟨⟨cls, dd, data, sl⟩, ho, hc, n, hd⟩, hs⟩ := I.tuple hT
  simp only at hc hd
  subst hc hd
  refine wpAny_binaryOp_repeat_ref (T := "tuple") (U := "int") (by decide) ⟨_, ho, rfl⟩ (fun s' => typeIs_int s' 1 t) noFill_tuple_mul F.fills_int_mul F.slot_int_rmul repeat_tuple F.slot_int_index.lookup
    (call_meets F.slot_int_rmul (typeIs_int s 1 t) F.entry_int_rmul (F.args_int_rmul_2 _ _) (int_rmul_tuple 1 t l its.toArray n dd sl)
      ⟨ho, rfl, ⟨_, ho, rfl⟩, call_meets F.slot_tuple_mul ⟨_, ho, rfl⟩ F.entry_tuple_mul (F.args_tuple_mul_2 _ _) (tuple_mul1 l its.toArray n dd sl t) ⟨ho, ?_⟩⟩)
  exact ⟨.ref l, H, I, rfl, q⟩
/-- (x, ..) * n -/
def vRepT : BOp := fun x y S => match x, y with
  | .tup xs, .int n => if xs ≠ [] ∧ xs.length ≤ 1000 ∧ 1 ≤ n ∧ n ≤ 1000 then .ok (.tup (List.replicate n.toNat xs).flatten) S else .bad
  | _, _ => .bad
theorem Reps.rep {K : PySem.W.Frag} {ρ : List Addr} {H : Hp} {vs : List V} {xs : List Val} (r : Reps K ρ H vs xs) : ∀ n, Reps K ρ H (List.replicate n vs).flatten (List.replicate n xs).flatten
  | 0 => .nil
  | n + 1 => by
    rw [List.replicate_succ, List.replicate_succ, List.flatten_cons, List.flatten_cons]
    exact r.append (Reps.rep r n)
theorem vRepT_ok : OpS X Y (rOr (rRep1 X.K) (rRepT X.K)) vRepT := by
  intro W' ρ H S v w x y Q hs rx ry h
  unfold vRepT at h
  split at h
  · rename_i xs n
    split at h
    · rename_i hc
      obtain ⟨hne, hl, h1, h2⟩ := hc
      cases ry
      cases rx with
      | @tup c ws _ e r =>
        by_cases hn : n = 1
        · subst hn
          refine .inl ⟨c, ws, rfl, rfl, SqT.of e, h _ ρ H (Pre.refl _) (Ext.refl _) hs ?_⟩
          have := Rep.tup e r
          simpa using this
        · refine .inr ⟨c, n, ws, rfl, rfl, SqT.of e, fun z => hne (by
            have := r.length
            rw [z] at this
            exact List.eq_nil_of_length_eq_zero this.symm), by omega, h2, by rw [r.length]; exact hl, fun p hp => ?_⟩
          have en := Ext.new (o := .tup (List.replicate n.toNat ws).flatten) hp
          exact h _ ρ _ (Pre.refl _) en (hs.other hp) (.tup upd_same ((r.rep _).up (Pre.refl _) en))
    · exact h.elim
  · exact h.elim
theorem se_repT (ha : SE X Y W a fa) (hb : SE X Y W b fb) : SE X Y W (.BinOp a .Mult b pos) (eB2 vRepT fa fb) := se_op (OpR.or2 op_rep1 op_repT) vRepT_ok ha hb
end
section
variable {S : Store} {P : Val → Store → Prop} {E : XO}
theorem wO_vRepT {xs : List Val} {n : Int} (h : xs ≠ [] ∧ xs.length ≤ 1000 ∧ 1 ≤ n ∧ n ≤ 1000) : wO (vRepT (.tup xs) (.int n) S) P E = P (.tup (List.replicate n.toNat xs).flatten) S := by
  show wO (if _ then _ else _) _ _ = _
  rw [if_pos h]
  rfl
end
end Mp

set_option Elab.async false
set_option linter.all false
set_option maxRecDepth 100000
set_option maxHeartbeats 1000000
/-! C(), f(). -/
namespace Mp
open PySem PySem.Spec PyProof.Rows L2
section
variable {X : Cx} {Y : Sy} {W : WX} {kc k n : Nat} {c x : Str} {C f : Addr} {fd : FuncData} {ps : List Str} {g : Fn} {p pos : Pos}
theorem se_make0 (cc : Cc X Y W kc) (mk : Mk X.K C f) (fo : FnOk X.prog X.w X.K X.mg X.base (L2.CX X.prog X.w) k f fd ps (spOf X.K Y n g)) (har : Arity n g) (hk : k + 1 ≤ kc) (hc : Y.cl c = some C) (hg : Gl X x) (hm : X.mg x = some (.ref C)) (hb : Binds X.K fd ps [])
    (hdb : (x == ("__debug__" : Str)) = false := by decide) : SE X Y W (.Call (.Name x p) [] [] pos) (eCall (fMake c g) aNil) := by
  refine ⟨fun pins s σ H Q I h => ?_⟩
  refine wpAny_Call_Name_kw (ld_glob I hg hm ?_ hdb)
  let M : List V → Hp → Prop := fun vs J => ∀ a dx, J a = none → J dx = none → dx ≠ a → spOf X.K Y n g (.ref a :: vs) (upd (upd J dx (.own a)) a (.ins C dx [])) (fun v J2 => v = .non ∧ Q (.ref a) J2) (WE W σ)
  have h2 : M [] H := by
    obtain ⟨ρ, env, S1, he, hs, hp⟩ := h
    have hp : Post X.K Y (fun cls d H' => W cls d σ H') ρ H (RV X.K) Q (fMake c g [] S1) := hp
    intro a dx fa fd ne
    have fa2 : upd H dx (.own a) a = none := by rw [upd_ne (Ne.symm ne)]; exact fa
    have e1 : Ext H (upd H dx (.own a)) := Ext.new fd
    have s1 := hs.other (o := .own a) fd
    have s2 : Sim X.K Y (ρ ++ [a]) (upd (upd H dx (.own a)) a (.ins C dx [])) (S1 ++ [.ins c []]) := s1.new fa2 ⟨C, dx, [], hc, upd_same, .nil⟩
    have e2 : Ext H (upd (upd H dx (.own a)) a (.ins C dx [])) := e1.trans (Ext.new fa2)
    have rs : Reps X.K (ρ ++ [a]) (upd (upd H dx (.own a)) a (.ins C dx [])) [.ref a] [.ref S1.length] := .cons (rep_new hs.len.symm) .nil
    unfold fMake at hp
    refine ⟨?_, ρ ++ [a], _, _, rs, s2, ?_⟩
    · by_cases hl : ([Val.ref S1.length] : List Val).length = n
      · rw [rs.length]; exact hl
      · rw [har _ _ hl] at hp
        exact hp.elim
    · generalize g [.ref S1.length] (S1 ++ [.ins c []]) = oo at hp
      cases oo with
      | bad => exact hp
      | err c2 fs S2 => exact Post.up (R := RV X.K) (o := .err c2 fs S2) (Pre.snoc _ _) e2 hp
      | ok r S2 =>
        intro v ρ2 H2 p2 x2 s3 r3
        cases r3 <;> try (exact hp.elim)
        exact ⟨rfl, hp _ ρ2 H2 ((Pre.snoc _ _).trans p2) (e2.trans x2) s3 (.ref (p2 _ _ (by rw [← hs.len]; simp)))⟩
  exact PySem.W.callWith_K0 I.kIn mk.kp (made_run (E := WE W) mk fo (cc.room.mono hk) hb (passAt cc.tk σ) I .nil h2)
theorem sx_make0 (cc : Cc X Y W kc) (F : MkAt X.prog X.w X.K X.mg X.base Y k n c g) (hk : k + 1 ≤ kc) (hg : Gl X c) (hdb : (c == ("__debug__" : Str)) = false := by decide) : SE X Y W (.Call (.Name c p) [] [] pos) (eCall (fMake c g) aNil) := by
  obtain ⟨C, f, fd, ps, h1, h2, h3, h4, h5⟩ := F.ex
  exact se_make0 cc h3 h4 F.ar hk h1 hg h2 h5 hdb
theorem se_call0 (c : Cc X Y W kc) (F : FnOk X.prog X.w X.K X.mg X.base (L2.CX X.prog X.w) k f fd ps (spOf X.K Y n g)) (har : Arity n g) (hk : k ≤ kc) (hg : Gl X x) (hm : X.mg x = some (.ref f)) (kp : PySem.W.keepIn X.K (.ref f) = true) (hb : Binds X.K fd ps [])
    (hdb : (x == ("__debug__" : Str)) = false := by decide) : SE X Y W (.Call (.Name x p) [] [] pos) (eCall g aNil) := by
  refine ⟨fun pins s σ H Q I h => ?_⟩
  refine wpAny_Call_Name_kw (ld_glob I hg hm ?_ hdb)
  have q0 : spOf X.K Y n g [] H Q (WE W σ) := by
    obtain ⟨ρ, env, S, he, hs, hp⟩ := h
    have hp : Post X.K Y (fun cls d H' => W cls d σ H') ρ H (RV X.K) Q (g [] S) := hp
    refine ⟨?_, ρ, [], S, .nil, hs, hp⟩
    by_cases hl : ([] : List Val).length = n
    · exact hl
    · rw [har [] S hl] at hp
      exact hp.elim
  exact PySem.W.callWith_K0 I.kIn kp (run_fnS (E := WE W) (us := []) (vs := []) (F.mono hk) c.room hb (passAt c.tk σ) I .nil q0)
theorem sx_call0 (cc : Cc X Y W kc) (F : FnAt X.prog X.w X.K X.mg X.base Y k n x g) (hk : k ≤ kc) (hg : Gl X x) (hdb : (x == ("__debug__" : Str)) = false := by decide) : SE X Y W (.Call (.Name x p) [] [] pos) (eCall g aNil) := by
  obtain ⟨f, fd, ps, h1, h2, h3, h4⟩ := F.ex
  exact se_call0 cc h1 F.ar hk hg h2 h3 h4 hdb
end
end Mp

set_option Elab.async false
set_option linter.all false
set_option maxRecDepth 100000
set_option maxHeartbeats 1000000
/-! lists of pairs as dicts; what stays of a store; sorted(d). -/
namespace Mp
open PySem PySem.Spec PyProof.Rows L2
section
variable {κ β γ : Type} [DecidableEq κ]
def getA (l : List (κ × β)) (k : κ) : Option β := (l.find? fun p => decide (p.1 = k)).map (·.2)
def putA (l : List (κ × β)) (k : κ) (b : β) : List (κ × β) := if l.any (fun p => decide (p.1 = k)) then l.map (fun p => if p.1 = k then (p.1, b) else p) else l ++ [(k, b)]
def delA (l : List (κ × β)) (k : κ) : List (κ × β) := l.filter fun p => decide (p.1 ≠ k)
@[simp] theorem getA_nil {k : κ} : getA ([] : List (κ × β)) k = none := rfl
theorem getA_cons {p : κ × β} {l : List (κ × β)} {k : κ} : getA (p :: l) k = if p.1 = k then some p.2 else getA l k := by
  unfold getA
  by_cases h : p.1 = k <;> simp [h]
theorem getA_mem {l : List (κ × β)} {k : κ} {b : β} (h : getA l k = some b) : (k, b) ∈ l := by
  unfold getA at h
  obtain ⟨p, hp, rfl⟩ := Option.map_eq_some_iff.mp h
  have h1 := List.find?_some hp
  have h2 := List.mem_of_find?_eq_some hp
  have : p.1 = k := of_decide_eq_true h1
  rw [← this]; exact h2
theorem getA_of {l : List (κ × β)} {k : κ} {b : β} (nd : (l.map (·.1)).Nodup) (h : (k, b) ∈ l) : getA l k = some b := by
  induction l with
  | nil => cases h
  | cons p r ih =>
    rw [List.map_cons, List.nodup_cons] at nd
    rw [getA_cons]
    rcases List.mem_cons.mp h with rfl | h
    · simp
    · have : ¬ p.1 = k := fun z => nd.1 (by rw [z]; exact List.mem_map.mpr ⟨_, h, rfl⟩)
      rw [if_neg this]; exact ih nd.2 h
theorem getA_none {l : List (κ × β)} {k : κ} : getA l k = none ↔ k ∉ l.map (·.1) := by
  induction l with
  | nil => simp
  | cons p r ih =>
    rw [getA_cons]
    by_cases h : p.1 = k
    · simp [h]
    · rw [if_neg h, ih]; simp [Ne.symm h]
theorem getA_some {l : List (κ × β)} {k : κ} : (getA l k).isSome = true ↔ k ∈ l.map (·.1) := by
  cases h : getA l k with
  | none => simpa using getA_none.mp h
  | some b => simpa using ⟨b, getA_mem h⟩
theorem putA_cons {p : κ × β} {l : List (κ × β)} {k : κ} {b : β} : (p.1 = k → putA (p :: l) k b = (p.1, b) :: l.map (fun q => if q.1 = k then (q.1, b) else q)) ∧ (p.1 ≠ k → putA (p :: l) k b = p :: putA l k b) := by
  unfold putA
  refine ⟨fun h => by simp [h], fun h => ?_⟩
  by_cases h2 : l.any fun p => decide (p.1 = k)
  · simp [h, h2]
  · simp [h, h2]
theorem getA_put {l : List (κ × β)} {k k' : κ} {b : β} : getA (putA l k b) k' = if k' = k then some b else getA l k' := by
  induction l with
  | nil =>
    by_cases h : k' = k
    · subst h; simp [putA, getA_cons]
    · simp [putA, getA_cons, h, Ne.symm h]
  | cons p r ih =>
    by_cases h : p.1 = k
    · rw [(putA_cons (p := p) (l := r) (k := k) (b := b)).1 h, getA_cons]
      by_cases h2 : k' = k
      · subst h2; simp [h]
      · have h3 : ¬ p.1 = k' := fun z => h2 (z.symm.trans h)
        rw [if_neg h3, if_neg h2, getA_cons, if_neg h3]
        clear ih h h3
        induction r with
        | nil => rfl
        | cons q r ih =>
          rw [List.map_cons, getA_cons, getA_cons]
          by_cases h4 : q.1 = k
          · simp only [h4, if_true, Ne.symm h2, if_false]; exact ih
          · simp only [h4, if_false]
            split
            · rfl
            · exact ih
    · rw [(putA_cons (p := p) (l := r) (k := k) (b := b)).2 h, getA_cons, getA_cons]
      by_cases h2 : k' = k
      · subst h2
        rw [if_neg h, ih]; simp
      · rw [ih, if_neg h2, if_neg h2]
theorem getA_del {l : List (κ × β)} {k k' : κ} : getA (delA l k) k' = if k' = k then none else getA l k' := by
  induction l with
  | nil => simp [delA]
  | cons p r ih =>
    by_cases h : p.1 = k
    · have e : delA (p :: r) k = delA r k := List.filter_cons_of_neg (by simp [h])
      rw [e, ih, getA_cons]
      by_cases h2 : k' = k
      · simp [h2]
      · have : ¬ p.1 = k' := fun z => h2 (z.symm.trans h)
        simp [h2, this]
    · have e : delA (p :: r) k = p :: delA r k := List.filter_cons_of_pos (by simp [h])
      rw [e, getA_cons, getA_cons, ih]
      by_cases h2 : k' = k
      · subst h2; simp [h]
      · simp [h2]
theorem putA_keys {l : List (κ × β)} {k : κ} {b : β} : (putA l k b).map (·.1) = if k ∈ l.map (·.1) then l.map (·.1) else l.map (·.1) ++ [k] := by
  unfold putA
  have e : (l.any fun p => decide (p.1 = k)) = decide (k ∈ l.map (·.1)) := by
    rw [Bool.eq_iff_iff]; simp
  rw [e]
  by_cases h : k ∈ l.map (·.1)
  · rw [if_pos (decide_eq_true h), if_pos h, List.map_map]
    refine List.map_congr_left fun kv _ => ?_
    simp only [Function.comp]
    split <;> rfl
  · rw [if_neg (by simpa using h), if_neg h, List.map_append]
    rfl
theorem putA_nodup {l : List (κ × β)} {k : κ} {b : β} (h : (l.map (·.1)).Nodup) : ((putA l k b).map (·.1)).Nodup := by
  rw [putA_keys]
  split
  · exact h
  · rename_i c
    rw [List.nodup_append]
    exact ⟨h, by simp, fun a ha b hb z => by simp at hb; subst hb; subst z; exact c ha⟩
theorem delA_nodup {l : List (κ × β)} {k : κ} (h : (l.map (·.1)).Nodup) : ((delA l k).map (·.1)).Nodup := h.sublist ((List.filter_sublist).map _)
theorem mem_putA {l : List (κ × β)} {k : κ} {b : β} {p : κ × β} (h : p ∈ putA l k b) : p = (k, b) ∨ (p ∈ l ∧ p.1 ≠ k) := by
  unfold putA at h
  split at h
  · obtain ⟨q, hq, e⟩ := List.mem_map.mp h
    by_cases c : q.1 = k
    · rw [if_pos c] at e; exact .inl (by rw [← e, c])
    · rw [if_neg c] at e; exact .inr (e ▸ ⟨hq, c⟩)
  · rename_i hn
    rcases List.mem_append.mp h with h | h
    · refine .inr ⟨h, fun z => hn ?_⟩
      rw [List.any_eq_true]
      exact ⟨p, h, decide_eq_true z⟩
    · exact .inl (List.mem_singleton.mp h)
theorem mem_delA {l : List (κ × β)} {k : κ} {p : κ × β} : p ∈ delA l k ↔ p ∈ l ∧ p.1 ≠ k := by
  unfold delA
  simp
theorem putA_length {l : List (κ × β)} {k : κ} {b : β} : (putA l k b).length ≤ l.length + 1 := by
  have e := congrArg List.length (putA_keys (l := l) (k := k) (b := b))
  rw [List.length_map] at e
  rw [e]
  split <;> simp
theorem delA_length {l : List (κ × β)} {k : κ} : (delA l k).length ≤ l.length := List.length_filter_le _ _
theorem map_putA (f : β → γ) {l : List (κ × β)} {k : κ} {b : β} : (putA l k b).map (fun p => (p.1, f p.2)) = putA (l.map fun p => (p.1, f p.2)) k (f b) := by
  unfold putA
  have e : ((l.map fun p => (p.1, f p.2)).any fun p => decide (p.1 = k)) = l.any fun p => decide (p.1 = k) := by rw [List.any_map]; rfl
  rw [e]
  split
  · rw [List.map_map, List.map_map]
    refine List.map_congr_left fun p _ => ?_
    simp only [Function.comp]
    split <;> rfl
  · simp
theorem map_delA (f : β → γ) {l : List (κ × β)} {k : κ} : (delA l k).map (fun p => (p.1, f p.2)) = delA (l.map fun p => (p.1, f p.2)) k := by
  unfold delA
  rw [List.filter_map]
  rfl
theorem getA_map (f : β → γ) {l : List (κ × β)} {k : κ} : getA (l.map fun p => (p.1, f p.2)) k = (getA l k).map f := by
  induction l with
  | nil => rfl
  | cons p r ih =>
    rw [List.map_cons, getA_cons, getA_cons, ih]
    split <;> rfl
/-! as dicts -/
variable {κ' : Type} [DecidableEq κ'] {kf : κ → κ'} {vf : β → Val}
theorem lookK_enc (inj : ∀ a b, kf a = kf b → a = b) {l : List (κ × β)} {k : κ} : lookK (l.map fun p => (kf p.1, vf p.2)) (kf k) = (getA l k).map vf := by
  induction l with
  | nil => rfl
  | cons p r ih =>
    rw [getA_cons]
    by_cases h : p.1 = k
    · simp [lookK, h]
    · have h' : ¬ kf p.1 = kf k := fun z => h (inj _ _ z)
      have e : lookK ((p :: r).map fun p => (kf p.1, vf p.2)) (kf k) = lookK (r.map fun p => (kf p.1, vf p.2)) (kf k) := by
        simp [lookK, h']
      rw [e, ih, if_neg h]
theorem putD_enc (inj : ∀ a b, kf a = kf b → a = b) {l : List (κ × β)} {k : κ} {b : β} : putD (l.map fun p => (kf p.1, vf p.2)) (kf k) (vf b) = (putA l k b).map fun p => (kf p.1, vf p.2) := by
  have he : ∀ a : κ, kf a = kf k ↔ a = k := fun a => ⟨inj _ _, fun z => by rw [z]⟩
  unfold putD putA
  have e : ((l.map fun p => (kf p.1, vf p.2)).any fun p => decide (p.1 = kf k)) = l.any fun p => decide (p.1 = k) := by
    rw [List.any_map]
    congr 1
    funext p
    exact decide_eq_decide.mpr (he _)
  rw [e]
  split
  · rw [List.map_map, List.map_map]
    refine List.map_congr_left fun p _ => ?_
    simp only [Function.comp, he]
    split <;> rfl
  · simp
theorem dropD_enc (inj : ∀ a b, kf a = kf b → a = b) {l : List (κ × β)} {k : κ} : dropD (l.map fun p => (kf p.1, vf p.2)) (kf k) = (delA l k).map fun p => (kf p.1, vf p.2) := by
  have he : ∀ a : κ, kf a = kf k ↔ a = k := fun a => ⟨inj _ _, fun z => by rw [z]⟩
  unfold dropD delA
  rw [List.filter_map]
  congr 1
  refine List.filter_congr fun p _ => ?_
  simp only [Function.comp]
  exact decide_eq_decide.mpr (not_congr (he _))
end
/-! ### what stays -/
def KeepL (F : List Nat) (S S' : Store) : Prop := S.length ≤ S'.length ∧ ∀ j o, S[j]? = some o → j ∉ F → S'[j]? = some o
section
variable {F G : List Nat} {S S1 S2 : Store}
theorem KeepL.refl : KeepL F S S := ⟨Nat.le_refl _, fun _ _ h _ => h⟩
theorem KeepL.ex (a : Ex S S1) : KeepL F S S1 := ⟨a.le, fun _ _ h _ => a.at h⟩
theorem KeepL.trans (a : KeepL F S S1) (b : KeepL F S1 S2) : KeepL F S S2 := ⟨Nat.le_trans a.1 b.1, fun j o h n => b.2 j o (a.2 j o h n) n⟩
theorem KeepL.more (a : KeepL F S S1) (h : ∀ j ∈ F, j ∈ G) : KeepL G S S1 := ⟨a.1, fun j o e n => a.2 j o e fun z => n (h j z)⟩
theorem KeepL.set {i : Nat} {o : Ob} (h : i ∈ F) : KeepL F S (S.set i o) := ⟨by simp, fun j o' e n => by
  rw [List.getElem?_set_ne (fun z : i = j => n (z ▸ h))]; exact e⟩
/-- .. behind what stood, anything may change -/
theorem KeepL.setAt {i : Nat} {o : Ob} (a : KeepL F S S1) (h : i ∈ F ∨ S.length ≤ i) : KeepL F S (S1.set i o) := ⟨by simpa using a.1, fun j o' e n => by
  have : i ≠ j := fun z => by
    subst z
    rcases h with h | h
    · exact n h
    · have := (List.getElem?_eq_some_iff.mp e).1; omega
  rw [List.getElem?_set_ne this]; exact a.2 j o' e n⟩
theorem KeepL.at {j : Nat} {o : Ob} (a : KeepL F S S1) (e : S[j]? = some o) (n : j ∉ F) : S1[j]? = some o := a.2 j o e n
theorem at_set {i : Nat} {o : Ob} (h : i < S.length) : (S.set i o)[i]? = some o := List.getElem?_set_self h
theorem lt_at {i : Nat} {o : Ob} (h : S[i]? = some o) : i < S.length := (List.getElem?_eq_some_iff.mp h).1
end
/-- a comprehension over values as they are, with a test -/
theorem wO_lcTV {ck : Store → Prop} {t : Tgt} {tst : En → Store → Out Bool} {el : En → Store → Out Val} {env : En} {S0 : Store} {P : Val → Store → Prop} {E : XO} {xs : List Val} (p : Val → Bool) (f : Val → Val) (hl : xs.length ≤ LIM) (hc : ∀ S', Ex S0 S' → ck S')
    (h : ∀ x ∈ xs, ∀ S', Ex S0 S' → ∃ e, t x env = some e ∧ Pu (tst e S') S' (p x) ∧ (p x = true → Pu (el e S') S' (f x))) (hP : ∀ S', Ex S0 S' → S'[S0.length]? = some (.lst ((xs.filter p).map f)) → P (.ref S0.length) S') :
    wO (lcX ck t tst el S0.length env xs [] (S0 ++ [.lst []])) P E := by
  have := wO_lcT (ck := ck) (t := t) (tst := tst) (el := el) (env := env) (S0 := S0) (P := P) (E := E) (xs := xs) id p f hl hc h hP
  simpa using this
/-! ### sorted(d) -/
theorem wO_sortedD_pairs {S : Store} {q : Nat} {β : Type} {l : List ((Nat × Nat) × β)} {vf : β → Val} {P : Val → Store → Prop} {E : XO} (h : S[q]? = some (.dt (l.map fun p => ([.inl (p.1.1 : Int), .inl (p.1.2 : Int)], vf p.2)))) (hl : l.length ≤ LIM) :
    wO (fSortedD [.ref q] S) P E = P (.ref S.length) (S ++ [.lst ((((l.map fun p => [(p.1.1 : Int), (p.1.2 : Int)]).mergeSort fun a b => decide (a ≤ b))).map tI)]) := by
  have hk : keyVals S (.ref q) = some ((l.map fun p => [(p.1.1 : Int), (p.1.2 : Int)]).map tI) := by
    simp only [keyVals, h, keysL, List.map_map]
    rfl
  have c : (∃ ds, toDs ((l.map fun p => [(p.1.1 : Int), (p.1.2 : Int)]).map tI) = some ds ∧ PySem.W.AllAlike ds ∧ PySem.W.Sortable ds ∧ ∀ d ∈ ds, d.depth ≤ 64) ∧ ((l.map fun p => [(p.1.1 : Int), (p.1.2 : Int)]).map tI).length ≤ LIM := by
    refine ⟨⟨_, toDs_rows _, fun d hd d' hd' => ?_, .inl fun d hd => ?_, fun d hd => ?_⟩, by simpa using hl⟩
    · obtain ⟨a, _, rfl⟩ := List.mem_map.mp hd
      obtain ⟨b, _, rfl⟩ := List.mem_map.mp hd'
      show PySem.W.alike (.tuple (a.map .int)) (.tuple (b.map .int)) = true
      unfold PySem.W.alike
      exact alikeAll_ints a b
    · obtain ⟨a, ha, rfl⟩ := List.mem_map.mp hd
      obtain ⟨p, _, rfl⟩ := List.mem_map.mp ha
      exact ⟨_, _, rfl⟩
    · obtain ⟨a, _, rfl⟩ := List.mem_map.mp hd
      show (PyData.tuple (a.map .int)).depth ≤ 64
      simp [PyData.depth, depthAll_ints]
  simp only [fSortedD, hk, if_pos c, wO_okE]
  rw [List.map_mergeSort (r := fun a b => decide (a ≤ b)) (s := leV) (f := tI) fun a _ b _ => (leV_tI a b).symm]
end Mp

set_option Elab.async false
set_option linter.all false
set_option maxHeartbeats 1000000
namespace Mp
open PySem PySem.Spec PyProof.Rows L2
/-- a comprehension, by what stands between its turns -/
theorem wO_lcI {ck : Store → Prop} {t : Tgt} {tst : En → Store → Out Bool} {el : En → Store → Out Val} {env : En} {n : Nat} {P : Val → Store → Prop} {E : XO} (xs : List Val) (I : Nat → List Val → Store → Prop) {acc : List Val} {S : Store} (h0 : I 0 acc S)
    (hs : ∀ i x acc S, xs[i]? = some x → I i acc S → ck S ∧ ∃ e, t x env = some e ∧ wO (tst e S) (fun b S1 => if b = true then wO (el e S1) (fun y S2 => S2[n]? = some (.lst acc) ∧ acc.length < LIM ∧ I (i + 1) (acc ++ [y]) (S2.set n (.lst (acc ++ [y])))) noX else I (i + 1) acc S1) noX)
    (hn : ∀ acc S, I xs.length acc S → ck S ∧ P (.ref n) S) : wO (lcX ck t tst el n env xs acc S) P E := by
  induction xs generalizing acc S I with
  | nil =>
    obtain ⟨h1, h2⟩ := hn acc S h0
    simp only [lcX, if_pos h1]
    exact h2
  | cons x r ih =>
    obtain ⟨h1, e, h2, h3⟩ := hs 0 x acc S rfl h0
    have step : ∀ acc S, I 1 acc S → wO (lcX ck t tst el n env r acc S) P E := fun acc S h => ih (fun i => I (i + 1)) h (fun i y acc S hy hI => hs (i + 1) y acc S (by simpa using hy) hI) (fun acc S hI => hn acc S (by simpa using hI))
    simp only [lcX, if_pos h1, h2]
    rw [wO_tie]
    refine (h3.imp fun b S1 hb => ?_)
    cases b with
    | false => simp only [Bool.false_eq_true, if_false] at hb ⊢; exact step _ _ hb
    | true =>
      simp only [if_true] at hb ⊢
      rw [wO_tie]
      refine (hb.imp fun y S2 hy => ?_)
      rw [if_pos ⟨hy.1, hy.2.1⟩]
      exact step _ _ hy.2.2
end Mp

set_option Elab.async false
set_option linter.all false
set_option maxHeartbeats 1000000
namespace Mp
open PySem PySem.Spec PyProof.Rows L2
/-! ### {k: o.f[k] for k in o.f}, keys that are tuples -/
open Classical in
noncomputable def eCpT (cs : List Str) (f : Str) (i j : Nat) : En → Store → Out Val := fun env S => match (match env[i]? with
    | some (some x) => fldOf cs f (insOf S x)
    | _ => none) with
  | some (.ref n) => (match S[n]? with
    | some (.dt kvs) => if (kvs.map (·.1)).Nodup ∧ kvs.length < LIM ∧ j < env.length then .ok (.ref S.length) (S ++ [.dt kvs]) else .bad
    | _ => .bad)
  | _ => .bad
theorem RepK.keys {κ : Type} {K : PySem.W.Frag} {ρ : List Addr} {H : Hp} : ∀ {gs : List (κ × V)} {fs : List (κ × Val)}, RepK K ρ H gs fs → gs.map (·.1) = fs.map (·.1)
  | _, _, .nil => rfl
  | _, _, .cons h r => by rw [List.map_cons, List.map_cons, h.1, RepK.keys r]
theorem valV_at {κ : Type} [DecidableEq κ] : ∀ {ws : List (κ × V)} {t : Nat} {k : κ} {v : V}, (ws.map (·.1)).Nodup → ws[t]? = some (k, v) → valV ws k = some v
  | [], t, k, v, _, h => by cases h
  | (k', v') :: r, t, k, v, nd, h => by
    rw [List.map_cons, List.nodup_cons] at nd
    cases t with
    | zero =>
      cases h
      simp [valV]
    | succ t =>
      have ne : ¬ k' = k := fun z => nd.1 (by
        rw [show (k', v').1 = k from z]
        exact List.mem_map.mpr ⟨(k, v), List.mem_of_getElem? h, rfl⟩)
      have ih := valV_at nd.2 (t := t) (k := k) (v := v) h
      unfold valV at ih ⊢
      rw [List.find?_cons_of_neg (by simpa using ne)]
      exact ih
theorem putK_at {κ : Type} [DecidableEq κ] {ws : List (κ × V)} {t : Nat} {k : κ} {v : V} (nd : (ws.map (·.1)).Nodup) (h : ws[t]? = some (k, v)) : putK (ws.take t) k v = ws.take (t + 1) := by
  have hi := (List.getElem?_eq_some_iff.mp h).1
  have e : ws[t] = (k, v) := (List.getElem?_eq_some_iff.mp h).2
  have no : ¬ (((ws.take t).any fun kv => decide (kv.1 = k)) = true) := by
    rw [List.any_eq_true]
    rintro ⟨p, hp, hk⟩
    obtain ⟨u, hu, ep⟩ := List.mem_take_iff_getElem.mp hp
    have hu' : u < t := by omega
    have hul : u < (ws.map (·.1)).length := by rw [List.length_map]; omega
    have e1 : (ws.map (·.1))[u]? = (ws.map (·.1))[t]? := by
      rw [List.getElem?_map, List.getElem?_map, h, List.getElem?_eq_getElem (by omega : u < ws.length), ep]
      simpa using hk
    have := (List.getElem?_inj hul nd).mp e1
    omega
  unfold putK
  rw [if_neg no, List.take_succ_eq_append_getElem hi, e]
section
variable {X : Cx} {Y : Sy} {W : WX} {k : Nat}
theorem se_cpt {cs : List Str} {f sf x : Str} {i j : Nat} {scope : Scope} {pos q1 q2 p1 p2 p3 p4 pk pt : Pos} (c : Cc X Y W k) (hK : Kls X.K Y) (hn : NoF X.K Y cs f) (ok : BlkOk X.N X.env.scope scope [(x, j)]) (hij : i ≠ j)
    (h1 : PE X (.Name sf q1) (tVar i)) (hb1 : attributeBase (.Name sf q1) f X.env (eval (.Name sf q1) X.env) = eval (.Name sf q1) X.env)
    (h3 : ∀ (s : Shared) (H : Hp) (C : Addr) (cl : List (Str × Addr)) (fp : List Addr), Cc (X.blk s H scope (compEnvC scope cl C X.env) fp) Y W0 k → PG (X.blk s H scope (compEnvC scope cl C X.env) fp) (.Name x pt) (gName j))
    (h4 : ∀ (s : Shared) (H : Hp) (C : Addr) (cl : List (Str × Addr)) (fp : List Addr), Cc (X.blk s H scope (compEnvC scope cl C X.env) fp) Y W0 k → PE (X.blk s H scope (compEnvC scope cl C X.env) fp) (.Name x pk) (tVar j))
    (h2 : ∀ (s : Shared) (H : Hp) (C : Addr) (cl : List (Str × Addr)) (fp : List Addr), Cc (X.blk s H scope (compEnvC scope cl C X.env) fp) Y W0 k → PE (X.blk s H scope (compEnvC scope cl C X.env) fp) (.Subscript (.Attribute (.Name sf p1) f p2) (.Name x p3) p4) (tOp rIxD (tFld X.K (tVar i) f) (tVar j))) :
    SE X Y W (.DictComp (.Name x pk) (.Subscript (.Attribute (.Name sf p1) f p2) (.Name x p3) p4) [⟨.Name x pt, .Attribute (.Name sf q1) f q2, [], 0⟩] scope pos) (eCpT cs f i j) := by
  refine PE.imp (pe_lock (pe_dm (emp := .dT []) .t c.u1 c.calm c.nd (pi_keys (pe_fld h1 hb1)) ok (fun s H C cl fp => h3 s H C cl fp (c.blk ..)) (fun s H C cl fp => pts_nil) (fun s H C cl fp => h4 s H C cl fp (c.blk ..)) (fun s H C cl fp => h2 s H C cl fp (c.blk ..)))) fun σ H Q h => ?_
  obtain ⟨ρ, env, S, he, hs, h⟩ := h
  unfold eCpT at h
  split at h
  · rename_i n e1
    split at h
    · rename_i kvs e2
      split at h
      · rename_i hnd
        obtain ⟨nd, hl, hj⟩ := hnd
        split at e1
        · rename_i xv hxv
          obtain ⟨v0, hv0, r0⟩ := he.at_ i xv hxv
          unfold fldOf at e1
          obtain ⟨⟨c', fs⟩, hins, e3⟩ := Option.bind_eq_some_iff.mp e1
          dsimp only at e3
          split at e3
          · rename_i hcs
            obtain ⟨m, a, C, dx, gs, rfl, e2', rfl, hi', hC, ea, rk⟩ := insOf_rep hs r0 hins
            obtain ⟨u, l, ru⟩ := rk.xlook e3
            cases ru with
            | @ref d _ hd =>
            obtain ⟨ws, ew, rw'⟩ := hs.dt hd e2
            have ek := RepK.keys rw'
            have ndw : (ws.map (·.1)).Nodup := by rw [ek]; exact nd
            have wl : ws.length = kvs.length := rw'.length
            have ad : a ≠ d := by rintro rfl; rw [ea] at ew; cases ew
            refine ⟨d, .dT ws, ew, trivial, fun od => ?_⟩
            have h1d : upd H d (.frz od (.dT ws)) d = some (.frz od (.dT ws)) := upd_same
            have h1a : upd H d (.frz od (.dT ws)) a = some (.ins C dx gs) := (upd_ne ad).trans ea
            refine ⟨.ref a, hv0, a, C, dx, gs, .ref d, rfl, h1a, (hK _ C hC).cls, hn _ C hcs hC, l, d, od, rfl, .inr ⟨ws, h1d, fun D hD => ?_⟩⟩
            have Dd : D ≠ d := by rintro rfl; rw [h1d] at hD; cases hD
            have Da : D ≠ a := by rintro rfl; rw [h1a] at hD; cases hD
            have HD : H D = none := (upd_ne Dd).symm.trans hD
            refine ⟨fun i m H' => m = ws.length - i ∧ i ≤ ws.length ∧ H' = upd (upd H d (.frz od (.dT ws))) D (.dT (ws.take i)), ⟨ws.length, by omega, by omega, by simp⟩, fun t m H' hw => ?_⟩
            obtain ⟨rfl, ht, rfl⟩ := hw
            have hd' : upd (upd H d (.frz od (.dT ws))) D (.dT (ws.take t)) d = some (.frz od (.dT ws)) := (upd_ne Dd.symm).trans h1d
            have ha' : upd (upd H d (.frz od (.dT ws))) D (.dT (ws.take t)) a = some (.ins C dx gs) := (upd_ne Da.symm).trans h1a
            have hD' : upd (upd H d (.frz od (.dT ws))) D (.dT (ws.take t)) D = some (.dT (ws.take t)) := upd_same
            by_cases hlt : t < ws.length
            · refine .inr ⟨⟨hd', hlt⟩, fun H' => H' = upd (upd H d (.frz od (.dT ws))) D (.dT (ws.take (t + 1))), fun H' e => ⟨ws.length - (t + 1), by omega, rfl, by omega, e⟩, fun y H' hy => ?_⟩
              obtain ⟨rfl, kk, v, q, hk, rfl, hq⟩ := hy
              have jl : j < (L2.wipe σ [j]).length := by rw [L2.wipe_length, he.len]; exact hj
              have sj : ((L2.wipe σ [j]).set j (some (.ref q)))[j]? = some (some (.ref q)) := List.getElem?_set_self jl
              have si : ((L2.wipe σ [j]).set j (some (.ref q)))[i]? = some (some (.ref a)) := by
                rw [List.getElem?_set_ne (Ne.symm hij), L2.wipe_out (by simpa using hij)]; exact hv0
              refine ⟨wipe_same (L := [j]) ⟨by simp, fun z hz => ?_⟩ (by simp), ?_⟩
              · exact List.getElem?_set_ne (fun w => hz (by simp [w]))
              · unfold tYes
                dsimp only
                rw [if_pos rfl]
                refine ⟨.ref q, sj, .ref a, si, a, C, dx, gs, .ref d, rfl, ha', (hK _ C hC).cls, hn _ C hcs hC, l, .ref q, sj, d, v, rfl, ?_, _, DPut.t hD' hq (by rw [List.length_take]; have := lim_lt hl; omega), ?_⟩
                · exact .inr ⟨ws, kk, q, .inr ⟨od, hd'⟩, rfl, hq, (valV_at ndw hk).symm⟩
                · rw [putK_at ndw hk]
                  exact upd_upd
            · have et : t = ws.length := by omega
              subst et
              refine .inl ⟨⟨hd', Nat.le_refl _⟩, hd', ?_⟩
              have eH : upd (upd (upd H d (.frz od (.dT ws))) D (.dT (ws.take ws.length))) d (.dT ws) = upd H D (.dT ws) := by
                funext b
                by_cases b1 : b = d
                · subst b1
                  rw [upd_same, upd_ne Dd.symm, ew]
                · rw [upd_ne b1]
                  by_cases b2 : b = D
                  · subst b2
                    rw [upd_same, upd_same, List.take_length]
                  · rw [upd_ne b2, upd_ne b1, upd_ne b2]
              rw [eH]
              have ex : Ext H (upd H D (.dT ws)) := Ext.new HD
              refine h (.ref D) (ρ ++ [D]) _ (Pre.snoc _ _) ex (hs.new HD ⟨ws, upd_same, rw'.up (Pre.snoc _ _) ex⟩) (.ref ?_)
              rw [← hs.len]; simp
          · cases e3
        · cases e1
      · exact h.elim
    · exact h.elim
  · exact h.elim
/-- dict(d), keys ints and texts -/
def fDictC : Fn := fun vs S => match vs with
  | [.ref n] => match S[n]? with
    | some (.dk kvs) => .ok (.ref S.length) (S ++ [.dk kvs])
    | _ => .bad
  | _ => .bad
theorem se_dictC {e : Expr} {ga : En → Store → Out (List Val)} {p pos : Pos} (hc : X.calm = true) (hg : Gl X "dict") (hm : X.mg "dict" = none) (ha : SA X Y W [e] ga) (he : starEach [e] X.env = [(false, eval e X.env)] := by rfl) : SE X Y W (.Call (.Name "dict" p) [e] [] pos) (eCall fDictC ga) := by
  refine se_ty (call_dictD) (fun W' ρ H S vs xs Q hs rx h => ?_) hg hm (by decide +kernel) ha (he := he)
  unfold fDictC at h
  split at h
  · rename_i n
    split at h
    · rename_i kvs e
      obtain ⟨v, rfl, r⟩ := reps1 rx
      cases r with
      | @ref d _ hd =>
      obtain ⟨ws, ew, rw'⟩ := hs.dk hd e
      exact ⟨d, ws, rfl, .inl ew, fun q hq => h _ (ρ ++ [q]) _ (Pre.snoc _ _) (Ext.new hq) (hs.new hq ⟨ws, upd_same, rw'.up (Pre.snoc _ _) (Ext.new hq)⟩) (rep_new hs.len.symm)⟩
    · exact h.elim
  · exact h.elim
end
section
variable {S : Store} {P : Val → Store → Prop} {E : XO}
theorem wO_dictC {n : Nat} {kvs : List (Key × Val)} (h : S[n]? = some (.dk kvs)) : wO (fDictC [.ref n] S) P E = P (.ref S.length) (S ++ [.dk kvs]) := by
  simp only [fDictC, h]
  rfl
theorem wO_cpt {cs : List Str} {f : Str} {i j n : Nat} {env : En} {x : Val} {kvs : List (List Key × Val)} (h1 : env[i]? = some (some x)) (h2 : fldOf cs f (insOf S x) = some (.ref n)) (h3 : S[n]? = some (.dt kvs)) (nd : (kvs.map (·.1)).Nodup) (hl : kvs.length < LIM) (hj : j < env.length) :
    wO (eCpT cs f i j env S) P E = P (.ref S.length) (S ++ [.dt kvs]) := by
  unfold eCpT
  simp only [h1, h2, h3]
  rw [if_pos ⟨nd, hl, hj⟩]
  rfl
end
end Mp

set_option Elab.async false
set_option linter.all false
set_option maxHeartbeats 1000000
namespace Mp
open PySem PySem.Spec PyProof.Rows L2
/-- a comprehension of a dict, by what stands between its turns -/
theorem wO_dcI {ck : Store → Prop} {t : Tgt} {tst : En → Store → Out Bool} {ek ev : En → Store → Out Val} {env : En} {n : Nat} {P : Val → Store → Prop} {E : XO} (xs : List Val) (I : Nat → Store → Prop) {S : Store} (h0 : I 0 S)
    (hs : ∀ i x S, xs[i]? = some x → I i S → ck S ∧ ∃ e, t x env = some e ∧ wO (tst e S) (fun b S1 => if b = true then wO (ek e S1) (fun k S2 => wO (ev e S2) (fun y S3 => isD S3 n = true ∧ ∃ S4, putIx (.ref n) k y S3 = some S4 ∧ I (i + 1) S4) noX) noX else I (i + 1) S1) noX)
    (hn : ∀ S, I xs.length S → ck S ∧ P (.ref n) S) : wO (dcX ck t tst ek ev n env xs S) P E := by
  induction xs generalizing S I with
  | nil =>
    obtain ⟨h1, h2⟩ := hn S h0
    simp only [dcX, if_pos h1]
    exact h2
  | cons x r ih =>
    obtain ⟨h1, e, h2, h3⟩ := hs 0 x S rfl h0
    have step : ∀ S, I 1 S → wO (dcX ck t tst ek ev n env r S) P E := fun S h => ih (fun i => I (i + 1)) h (fun i y S hy hI => hs (i + 1) y S (by simpa using hy) hI) (fun S hI => hn S (by simpa using hI))
    simp only [dcX, if_pos h1, h2]
    rw [wO_tie]
    refine (h3.imp fun b S1 hb => ?_)
    cases b with
    | false => simp only [Bool.false_eq_true, if_false] at hb ⊢; exact step _ hb
    | true =>
      simp only [if_true] at hb ⊢
      rw [wO_tie]
      refine (hb.imp fun k S2 hk => ?_)
      rw [wO_tie]
      refine (hk.imp fun y S3 hy => ?_)
      obtain ⟨a1, S4, a2, a3⟩ := hy
      rw [if_pos a1, a2]
      exact step _ a3
end Mp

set_option Elab.async false
set_option linter.all false
set_option maxRecDepth 100000
set_option maxHeartbeats 1000000
/-! xs.pop(), xs.extend(ys), d.pop(k), isinstance(x, (T1, T2)). -/
namespace Mp
open PySem PySem.Spec PyProof.Rows L2
section
variable {X : Cx} {Y : Sy} {W : WX} {k : Nat} {o e a b : Expr} {es : List Expr} {f fa fb fo fk : En → Store → Out Val} {ga : En → Store → Out (List Val)} {p pos cpos apos : Pos} {x : Str}
/-! ### lists -/
def lPop : Lm := fun i xs ys S => match ys with
  | [] => (match xs.getLast? with
    | some y => .ok y (S.set i (.lst xs.dropLast))
    | none => .bad)
  | _ => .bad
theorem lPop_ok : LmS X Y rPop lPop := by
  intro W' ρ H S a i ws vs xs ys Q hs hi ex ew rw' ry hp
  unfold lPop at hp
  split at hp
  · split at hp
    · rename_i y ey
      cases ry
      have ey2 : xs[xs.length - 1]? = some y := by rw [← List.getLast?_eq_getElem?]; exact ey
      obtain ⟨u, eu, ru⟩ := rw'.get ey2
      obtain ⟨q1, q2⟩ := put_lst hs hi ew rw'.dropLast
      refine ⟨a, ws, u, rfl, rfl, ew, by rw [rw'.length]; exact eu, ?_⟩
      exact hp _ ρ _ (Pre.refl _) q1 q2 (ru.up (Pre.refl _) q1)
    · exact hp.elim
  · exact hp.elim
def aNil0 : En → Store → Out (List Val) := fun _ S => .ok [] S
theorem tBM0_of {r : V → List V → Hp → VK → Prop} {g : Lm} (ok : LmS X Y r g) {σ : L2.St} {H : Hp} {Q : VK} (h : tG X.K Y W (RV X.K) (eLm g fo aNil0) σ H Q) : tBM0 X.K "list" r (tG X.K Y W (RV X.K) fo) σ H Q := by
  refine tG.bind (k := lmA g aNil0) h fun ρ env v x H1 S1 he hs rx hp => ?_
  unfold lmA at hp
  split at hp
  · rename_i i
    cases rx with
    | @ref a _ hi =>
    split at hp
    · rename_i zs ez
      obtain ⟨us, eu, ru⟩ := hs.lst hi ez
      refine ⟨.inl ⟨rfl, us, SqL.of eu⟩, ?_⟩
      have hp2 : Post X.K Y (fun cls d H' => W cls d σ H') ρ H1 (RV X.K) Q (lmK g i [] S1) := hp
      unfold lmK at hp2
      rw [ez] at hp2
      exact ok _ ρ H1 S1 a i us [] zs [] Q hs hi ez eu ru .nil hp2
    · exact hp.elim
  · exact hp.elim
theorem se_pop0 (ho : SE X Y W o fo) (hbase : attributeBase o "pop" X.env (eval o X.env) = eval o X.env := by rfl) (hline : (apos.endLine == cpos.line) = true := by rfl) : SE X Y W (.Call (.Attribute o "pop" apos) [] [] cpos) (eLm lPop fo aNil0) :=
  PE.imp (pe_bm0 PySem.F.plainAttrs_list PySem.F.slot_list_pop PySem.F.type_list_pop mt_pop ho hbase hline) fun _ _ _ h => tBM0_of lPop_ok h
def lExtend : Lm := fun i xs ys S => match ys with
  | [.ref j] => (match S[j]? with
    | some (.lst zs) => if xs.length + zs.length ≤ LIM then .ok .non (S.set i (.lst (xs ++ zs))) else .bad
    | _ => .bad)
  | _ => .bad
theorem lExtend_ok : LmS X Y rExtend lExtend := by
  intro W' ρ H S a i ws vs xs ys Q hs hi ex ew rw' ry hp
  unfold lExtend at hp
  split at hp
  · rename_i j
    split at hp
    · rename_i zs ez
      split at hp
      · rename_i hl
        obtain ⟨v, rfl, rv⟩ := reps1 ry
        cases rv with
        | @ref b _ hj =>
        obtain ⟨us, eu, ru⟩ := hs.lst hj ez
        refine ⟨a, b, ws, us, rfl, rfl, ew, eu, by rw [rw'.length, ru.length]; exact lim_le hl, ?_⟩
        obtain ⟨q1, q2⟩ := put_lst hs hi ew (rw'.append ru)
        exact hp _ ρ _ (Pre.refl _) q1 q2 .non
      · exact hp.elim
    · exact hp.elim
  · exact hp.elim
theorem se_extend (ho : SE X Y W o fo) (ha : SA X Y W [e] ga) (hbase : attributeBase o "extend" X.env (eval o X.env) = eval o X.env := by rfl)
    (hfew : ((backTo cpos (starEach [e] X.env)).all (fun x => !x.1) && (backToKw cpos (keywordEach [] X.env)).all (fun x => x.1.isSome)
      && decide ([e].length + ([] : List Keyword).length + (if ([] : List Keyword).isEmpty then 0 else 1) < 30)) = true := by rfl)
    (hline : (apos.endLine == cpos.line) = true := by rfl) (hs : starEach [e] X.env = (false, eval e X.env) :: starEach [] X.env := by rfl) : SE X Y W (.Call (.Attribute o "extend" apos) [e] [] cpos) (eLm lExtend fo ga) :=
  PE.imp (pe_bm PySem.F.plainAttrs_list PySem.F.slot_list_extend PySem.F.type_list_extend mt_extend ho ha hbase hfew hline hs) fun _ _ _ h => tBM_of lExtend_ok h

/-! ### d.pop(k) -/
def dPop (d k : Val) (S : Store) : Option (Val × Store) := match d with
  | .ref n => match S[n]? with
    | some (.dk kvs) => (keyOf k).bind fun k => (lookK kvs k).map fun v => (v, S.set n (.dk (dropD kvs k)))
    | _ => none
  | _ => none
def kDPop (d k : Val) (S : Store) : Out Val := match dPop d k S with
  | some p => .ok p.1 p.2
  | none => .bad
def eDPop (fo fk : En → Store → Out Val) : En → Store → Out Val := fun env S => (fo env S).bind fun x S1 => if isDct S1 x = true then (fk env S1).bind fun y S2 => kDPop x y S2 else .bad
theorem se_dpop (ho : SE X Y W o fo) (he : SE X Y W e fk) (m : M1 X o "pop" apos e cpos) : SE X Y W (.Call (.Attribute o "pop" apos) [e] [] cpos) (eDPop fo fk) := by
  refine PE.imp (pe_dpop1 ho he m) fun σ H Q h => ?_
  refine tG.bind (k := fun env x S1 => if isDct S1 x = true then (fk env S1).bind fun y S2 => kDPop x y S2 else .bad) h fun ρ env v x H1 S1 he1 hs1 rx hp => ?_
  split at hp
  · rename_i hd
    obtain ⟨a, rfl, id⟩ := isDct_rep hs1 rx hd
    refine ⟨a, rfl, id, ?_⟩
    refine tG.go he1 hs1 hp fun ρ2 w y H2 S2 p2 e2 he2 hs2 ry hp2 => ?_
    unfold kDPop at hp2
    split at hp2
    · rename_i q eq
      unfold dPop at eq
      split at eq
      · rename_i n
        cases rx with
        | @ref _ _ hn =>
        have hn2 := p2 _ _ hn
        split at eq
        · rename_i kvs ex
          obtain ⟨k, ek, eq⟩ := Option.bind_eq_some_iff.mp eq
          obtain ⟨z, ez, eq⟩ := Option.map_eq_some_iff.mp eq
          subst eq
          obtain ⟨ws, ew, r⟩ := hs2.dk hn2 ex
          have e3 := keyOf_rep ry ek
          subst e3
          have e1 : Ext H2 (upd H2 a (.dK (dropK ws k))) := Ext.mut ew (fun z => z)
          obtain ⟨q1, q2⟩ := hs2.put (u := .dK (dropK ws k)) (o := .dk (dropD kvs k)) hn2 ⟨_, upd_same, (r.drop k).up (Pre.refl _) e1⟩
          rcases r.look k with ⟨h1, h2⟩ | ⟨v, x, h1, h2, h3⟩
          · rw [ez] at h1; cases h1
          · rw [ez] at h1; cases h1
            exact ⟨ws, k, v, ew, rfl, h2, hp2 v ρ2 _ (Pre.refl _) q1 q2 (h3.up (Pre.refl _) q1)⟩
        · cases eq
      · cases eq
    · exact hp2.elim
  · exact hp.elim

/-! ### isinstance(x, (T1, T2)) -/
def eIsT2 (T U : String) (f : En → Store → Out Val) : En → Store → Out Val := fun env S => (f env S).bind fun x S1 => match tyOf S1 x with
  | some t => if t ∈ tyNames then .ok (.bl (subTy t T || subTy t U)) S1 else .bad
  | none => .bad
theorem tyX_up {K : PySem.W.Frag} {H : Hp} {v : V} {t : Value} {p : Addr} {o : HO} (hn : H p = none) (h : TyX K H v t) : TyX K (upd H p o) v t := by
  have ne : ∀ {a : Addr} {u : HO}, H a = some u → upd H p o a = some u := fun {a u} q => by rw [upd_ne (ne_of_none q hn)]; exact q
  cases h with
  | base b =>
    refine .base ?_
    cases b with
    | non => exact .non
    | bl b => exact .bl b
    | int i => exact .int i
    | str i => exact .str i
    | flt i => exact .flt i
    | lst e => exact .lst (ne e)
    | frz e => exact .frz (ne e)
    | tup e => exact .tup (ne e)
    | dK e => exact .dK (ne e)
    | dT e => exact .dT (ne e)
    | ins e cl ha hn htk hm => exact .ins (ne e) cl ha hn htk hm
  | byt b => exact .byt b
  | set e => exact .set (ne e)
  | kList e c => exact .kList e c
  | kTuple e c => exact .kTuple e c
  | kDict e c => exact .kDict e c
  | fTuple e => exact .fTuple (ne e)
  | fDict e => exact .fDict (ne e)
theorem se_isT2 {T U : String} {tn un : Str} {p2 p3 p4 : Pos} {x1} (hT : ∀ t ∈ tyNames, kitB t T = some (subTy t T)) (hU : ∀ t ∈ tyNames, kitB t U = some (subTy t U)) (hg : Gl X "isinstance") (hm : X.mg "isinstance" = none) (hg2 : Gl X tn) (hm2 : X.mg tn = none) (hv : bootBuiltins tn = some (.type T))
    (hg3 : Gl X un) (hm3 : X.mg un = none) (hv3 : bootBuiltins un = some (.type U)) (ha : SE X Y W e f)
    (hn : tn ≠ "__name__" := by decide) (hdb : (tn == ("__debug__" : Str)) = false := by decide) (hn3 : un ≠ "__name__" := by decide) (hdb3 : (un == ("__debug__" : Str)) = false := by decide)
    (he : starEach [e, .Tuple [.Name tn p2, .Name un p3] x1 p4] X.env = (false, eval e X.env) :: starEach [.Tuple [.Name tn p2, .Name un p3] x1 p4] X.env := by rfl) (hpl : (backTo pos (starEach [.Tuple [.Name tn p2, .Name un p3] x1 p4] X.env)).any (·.1) = false := by rfl)
    (h2 : starEach [.Tuple [.Name tn p2, .Name un p3] x1 p4] X.env = (false, eval (.Tuple [.Name tn p2, .Name un p3] x1 p4) X.env) :: starEach [] X.env := by rfl)
    (h3 : starEach [.Name tn p2, .Name un p3] X.env = (false, eval (.Name tn p2) X.env) :: starEach [.Name un p3] X.env := by rfl) (h4 : starEach [.Name un p3] X.env = (false, eval (.Name un p3) X.env) :: starEach [] X.env := by rfl) :
    SE X Y W (.Call (.Name "isinstance" p) [e, .Tuple [.Name tn p2, .Name un p3] x1 p4] [] pos) (eIsT2 T U f) := by
  refine PE.imp (pe_callB (call_isiT (X := X)) hg hm (by decide +kernel) (pa_cons ha (pa_cons (pe_tup (pa_cons (pe_bltn (v := .ty T) hg2 hm2 hv rfl hn hdb) (pa_cons (pe_bltn (v := .ty U) hg3 hm3 hv3 rfl hn3 hdb3) pa_nil h4) h3)) pa_nil h2) he) (he := he) (hpl := hpl)) fun σ H Q h => ?_
  refine tG.bind (k := fun _ x S1 => match tyOf S1 x with | some t => if t ∈ tyNames then Out.ok (Val.bl (subTy t T || subTy t U)) S1 else Out.bad | none => Out.bad) h fun ρ env v x H1 S1 he hs rx hp => ?_
  split at hp
  · rename_i t et
    split at hp
    · rename_i ht
      refine ⟨by show 2 ≤ sizeLine; decide, fun t2 hn2 => ?_⟩
      refine ⟨v, t2, [.ty T, .ty U], .type t, [.type T, .type U], (subTy t T || subTy t U), rfl, upd_same, .cons (.ty T) (.cons (.ty U) .nil), tyX_up hn2 (tyOf_rep hs rx et), ?_, hp _ ρ (upd H1 t2 (.tup [.ty T, .ty U])) (Pre.refl _) (Ext.new hn2) (hs.other hn2) (.bl _)⟩
      refine kitAny_cons (kit_ty (hT t ht)) (fun hf => kitAny_cons (kit_ty (hU t ht)) (fun hf2 => ?_) fun ht2 => ?_) fun ht2 => by rw [ht2]; rfl
      · rw [hf, hf2]; exact kitAny_nil
      · rw [ht2, Bool.or_true]
    · exact hp.elim
  · exact hp.elim
end
/-! ### words -/
section
variable {env : En} {S : Store} {P : Val → Store → Prop} {E : XO} {n : Nat} {xs : List Val}
@[simp] theorem wO_lPop : wO (lPop n xs [] S) P E = wP xs.getLast? fun y => P y (S.set n (.lst xs.dropLast)) := by
  simp only [lPop]; cases xs.getLast? <;> rfl
@[simp] theorem wO_aNil0 {P : List Val → Store → Prop} : wO (aNil0 env S) P E = P [] S := rfl
@[simp] theorem wO_lExtend {j : Nat} {zs : List Val} (h : S[j]? = some (.lst zs)) : wO (lExtend n xs [.ref j] S) P E = (xs.length + zs.length ≤ LIM ∧ P .non (S.set n (.lst (xs ++ zs)))) := by
  simp only [lExtend, h]; by_cases h : xs.length + zs.length ≤ LIM <;> simp [h]
@[simp] theorem wO_eDPop {fo fk : En → Store → Out Val} : wO (eDPop fo fk env S) P E = wO (fo env S) (fun x S1 => isDct S1 x = true ∧ wO (fk env S1) (fun y S2 => wP (dPop x y S2) fun q => P q.1 q.2) E) E := by
  refine wO_bind.trans (wO_ext fun x S1 => ?_)
  by_cases h : isDct S1 x = true
  · simp only [h, if_true, true_and]
    refine wO_bind.trans (wO_ext fun y S2 => ?_)
    unfold kDPop
    cases dPop x y S2 <;> rfl
  · have h' : isDct S1 x = false := by simpa using h
    simp only [h', Bool.false_eq_true, if_false, false_and]
    rfl
@[simp] theorem wO_eIsT2 {T U : String} {f : En → Store → Out Val} : wO (eIsT2 T U f env S) P E = wO (f env S) (fun x S1 => wP (tyOf S1 x) fun t => t ∈ tyNames ∧ P (.bl (subTy t T || subTy t U)) S1) E := by
  refine wO_bind.trans (wO_ext fun x S1 => ?_)
  cases h : tyOf S1 x with
  | none => rfl
  | some t => by_cases q : t ∈ tyNames <;> simp [q]
end
end Mp

namespace Mp
open PySem PySem.Spec PyProof.Rows L2
/-! ### list(d.keys()), the keys ints and texts -/
def tLKeysK (td : TE) : TE := fun σ H Q => td σ H fun x H1 => ∃ d kvs, x = V.ref d ∧ H1 d = some (.dK kvs) ∧ ∀ p, H1 p = none → Q (.ref p) (upd H1 p (.lst (kvs.map fun kv => kV kv.1)))
theorem pe_lkeysK {X : Cx} {e : Expr} {te : TE} {p apos cpos pos : Pos} (hc : X.calm = true) (hg : Gl X "list") (hm : X.mg "list" = none) (he : PE X e te) (hbase : attributeBase e "keys" X.env (eval e X.env) = eval e X.env := by rfl) (hline : (apos.endLine == cpos.line) = true := by rfl)
    (na : starEach [.Call (.Attribute e "keys" apos) [] [] cpos] X.env = (false, eval (.Call (.Attribute e "keys" apos) [] [] cpos) X.env) :: starEach [] X.env := by rfl) :
    PE X (.Call (.Name "list" p) [.Call (.Attribute e "keys" apos) [] [] cpos] [] pos) (tLKeysK te) := by
  refine ⟨fun pins s σ H Q I h => ?_⟩
  refine Call_ (ld_blt I hg hm boot_list (PyProof.Rows.callWith_type1 (args_cons ?_ na) na rfl))
  refine wpAny_Call_method (T := "dict") (id := "dict.keys") hbase rfl hline F.plainAttrs_dict F.slot_dict_keys F.type_dict_keys (thn (he.run pins s σ H _ I h) fun u s1 ⟨x, H1, I1, rx, d, kvs, ex, hd, q⟩ => ?_)
  subst ex
  obtain rfl : u = Value.ref d := rx
  obtain ⟨t1, t2, lo⟩ := isD_at I1 (.inl ⟨kvs, .inl hd⟩)
  obtain ⟨z, _, ks, rel, dd⟩ := dk_of I1.hok hd
  obtain ⟨ep, hat⟩ := dd.dictAt
  refine ⟨t1, t2, ?_⟩
  have I2 : Inv X pins σ H1 { s1 with heap := s1.heap.push { cls := .type "dict_keys", data := .fields #[.ref d] } } := I1.kept (t' := s1.toks) fun b ob q => Heap.get?_push_of_some _ q
  have hat2 := (PySem.W.kdl_dict (knd := mixKind X.prog X.w) (kvs := ks) (ep := ep) lo).keep _ (s1.heap.push { cls := .type "dict_keys", data := .fields #[.ref d] }) hat (fun a _ o q => Heap.get?_push_of_some _ q)
  show wpAny _ _ (callWith cpos (.builtin "dict.keys") [.ref d] [] []) _ X.xe s1
  refine method_meetsIn F.slot_dict_keys F.entry_dict_keys rfl (PySem.evalArgs_none ⟨rfl, t1, F.args_dict_keys_1 _, _, keysCall lo, t1, ?_⟩)
  refine args_nil ?_
  refine PySem.W.kdl_call (PySem.W.kdl_keys (knd := mixKind X.prog X.w) (kvs := ks) (ep := ep)) (I2.ok.hd hc) ⟨⟨_, Heap.get?_push_size _ rfl, rfl, rfl⟩, hat2⟩ (by rw [← rel.length]; exact z) fun h' tk acc c' kp e2 hacc => ?_
  have ek : (kvs.map fun kv => kV kv.1) = ks.map fun p => kV p.1 := by
    have e := congrArg (List.map kV) rel.keys
    rw [List.map_map, List.map_map] at e
    exact e
  have rv : Vals (kvs.map fun kv => kV kv.1) acc.toList := by
    rw [ek]
    exact keys_at (by rw [Array.length_toList]; exact hacc.1) fun j v e => hacc.2 j v (by rw [← Array.getElem?_toList]; exact e)
  exact ⟨.ref _, _, I2.laid (t' := tk) (o := .lst (kvs.map fun kv => kV kv.1)) kp (Nat.le_refl _) ⟨by rw [List.length_map]; exact z, acc.toList, c', rv, by rw [Array.toArray_toList]; exact e2⟩, rfl, q _ (I2.hok.fresh (Nat.le_refl _))⟩
def eLKeysK (f : En → Store → Out Val) : En → Store → Out Val := fun env S => (f env S).bind fun x S1 => match x with
  | .ref n => (match S1[n]? with
    | some (.dk kvs) => .ok (.ref S1.length) (S1 ++ [.lst (kvs.map fun kv => kVal kv.1)])
    | _ => .bad)
  | _ => .bad
theorem se_lkeysK {X : Cx} {Y : Sy} {W : WX} {k : Nat} {e : Expr} {f : En → Store → Out Val} {p apos cpos pos : Pos} (c : Cc X Y W k) (hg : Gl X "list") (hm : X.mg "list" = none) (he : SE X Y W e f) (hbase : attributeBase e "keys" X.env (eval e X.env) = eval e X.env := by rfl) (hline : (apos.endLine == cpos.line) = true := by rfl)
    (na : starEach [.Call (.Attribute e "keys" apos) [] [] cpos] X.env = (false, eval (.Call (.Attribute e "keys" apos) [] [] cpos) X.env) :: starEach [] X.env := by rfl) :
    SE X Y W (.Call (.Name "list" p) [.Call (.Attribute e "keys" apos) [] [] cpos] [] pos) (eLKeysK f) := by
  refine PE.imp (pe_lkeysK c.calm hg hm he hbase hline na) fun σ H Q h => ?_
  refine tG.bind (k := fun _ x S1 => match x with | .ref n => (match S1[n]? with | some (.dk kvs) => Out.ok (Val.ref S1.length) (S1 ++ [.lst (kvs.map fun kv => kVal kv.1)]) | _ => Out.bad) | _ => Out.bad) h fun ρ env v x H1 S1 he hs rx hp => ?_
  cases rx <;> try (exact hp.elim)
  rename_i a n hn
  dsimp only at hp
  split at hp
  · rename_i kvs ek
    obtain ⟨ws, e2, r2⟩ := hs.dk hn ek
    refine ⟨a, ws, rfl, e2, fun q hq => ?_⟩
    have en := Ext.new (o := .lst (ws.map fun kv => kV kv.1)) hq
    exact hp _ (ρ ++ [q]) _ (Pre.snoc _ _) en (hs.new hq ⟨_, upd_same, (reps_keysK r2).up (Pre.snoc _ _) en⟩) (rep_new hs.len.symm)
  · exact hp.elim
theorem wO_lkeysK {f : En → Store → Out Val} {env : En} {S : Store} {P : Val → Store → Prop} {E : XO} : wO (eLKeysK f env S) P E = wO (f env S) (fun x S1 => wP (match x with | .ref n => (match S1[n]? with | some (.dk kvs) => some kvs | _ => none) | _ => none) fun kvs => P (.ref S1.length) (S1 ++ [.lst (kvs.map fun kv => kVal kv.1)])) E := by
  refine wO_bind.trans (wO_ext fun x S1 => ?_)
  cases x with
  | ref n =>
    dsimp only
    cases h : S1[n]? with
    | none => rfl
    | some b => cases b <;> rfl
  | _ => rfl
end Mp

namespace Mp
open PySem PySem.Spec PyProof.Rows L2
/-! ### a value of any kind as a test -/
def truV (S : Store) : Val → Option Bool
  | .non => some false
  | .bl b => some b
  | .int i => some (i != 0)
  | .str y => if y.length ≤ LIM then some ((y.length : Int) != 0) else none
  | .tup xs => some (!xs.isEmpty)
  | .frz xs => some (!xs.isEmpty)
  | .ktp xs => some (!xs.isEmpty)
  | .ref n => match S[n]? with
    | some (.lst xs) => some (!xs.isEmpty)
    | some (.dk xs) => some (!xs.isEmpty)
    | _ => none
theorem empty_len {α β : Type} {xs : List α} {ys : List β} (h : xs.length = ys.length) : (!xs.isEmpty) = !ys.isEmpty := by
  cases xs <;> cases ys <;> simp_all
theorem truV_rep {K : PySem.W.Frag} {Y : Sy} {ρ : List Addr} {H : Hp} {S : Store} {v : V} {x : Val} {k : Bool} (hs : Sim K Y ρ H S) (r : Rep K ρ H v x) (h : truV S x = some k) : TruV K v H k := by
  cases r with
  | non => simp only [truV, Option.some.injEq] at h; exact h.symm
  | bl b => simp only [truV, Option.some.injEq] at h; exact h.symm
  | int i => simp only [truV, Option.some.injEq] at h; exact h.symm
  | str y =>
    simp only [truV] at h
    split at h
    · rename_i hl
      simp only [Option.some.injEq] at h
      exact ⟨lim_le hl, h.symm⟩
    · cases h
  | tup e r => simp only [truV, Option.some.injEq] at h; exact .inr (.inl ⟨_, .inl (.inl e), by rw [← h]; exact (empty_len r.length).symm⟩)
  | frz e r => simp only [truV, Option.some.injEq] at h; exact .inl ⟨_, e.sq, by rw [← h]; exact (empty_len r.length).symm⟩
  | ktp e r => simp only [truV, Option.some.injEq] at h; exact .inr (.inl ⟨_, ktSq e, by rw [← h]; exact (empty_len r.length).symm⟩)
  | @ref a i hi =>
    simp only [truV] at h
    split at h
    · rename_i xs e
      simp only [Option.some.injEq] at h
      obtain ⟨vs, e2, r⟩ := hs.lst hi e
      exact .inl ⟨vs, SqL.of e2, by rw [← h]; exact (empty_len r.length).symm⟩
    · rename_i xs e
      simp only [Option.some.injEq] at h
      obtain ⟨vs, e2, r⟩ := hs.dk hi e
      exact .inr (.inr ⟨vs, e2, by rw [← h]; exact (empty_len r.length).symm⟩)
    · cases h
def kTr (x : Val) (S : Store) : Out Bool := match truV S x with
  | some k => .ok k S
  | none => .bad
def bTr (f : En → Store → Out Val) : En → Store → Out Bool := fun env S => (f env S).bind kTr
theorem st_truth {X : Cx} {Y : Sy} {W : WX} {e : Expr} {f : En → Store → Out Val} (h : SE X Y W e f) (he : ∀ whole, isTrue e X.env whole = (do let v ← whole; standAt e.pos; holding [v] (truthy v)) := by intro _; rfl) : ST X Y W e (bTr f) := by
  refine PT.imp (pt_truth h he) fun σ H Q hh => ?_
  refine tG.bind (k := fun _ => kTr) hh fun ρ env v x H1 S1 he hs rx hp => ?_
  unfold kTr at hp
  split at hp
  · rename_i k ek
    exact ⟨k, truV_rep hs rx ek, hp k ρ H1 (Pre.refl _) (Ext.refl _) hs rfl⟩
  · exact hp.elim
@[simp] theorem wO_bTr {f : En → Store → Out Val} {env : En} {S : Store} {P : Bool → Store → Prop} {E : XO} : wO (bTr f env S) P E = wO (f env S) (fun x S1 => wP (truV S1 x) fun k => P k S1) E := by
  refine wO_bind.trans (wO_ext fun x S1 => ?_)
  unfold kTr
  cases truV S1 x <;> rfl
end Mp

namespace Mp
open PySem PySem.Spec PyProof.Rows L2
/-! ### great constants, closed to the kernel (it would count them down) -/
theorem bigI_ex (n : Int) : ∃ x : Int, x = n := ⟨n, rfl⟩
noncomputable def bigI (n : Int) : Int := Classical.choose (bigI_ex n)
theorem bigI_eq (n : Int) : bigI n = n := Classical.choose_spec (bigI_ex n)
theorem sx_conB {X : Cx} {Y : Sy} {W : WX} {x : Str} {pos : Pos} {i : Int} (hg : Gl X x) (hm : ∃ t, X.mg x = some (.int i t)) (hd : (x == ("__debug__" : Str)) = false := by decide) : SE X Y W (.Name x pos) (eC (.int (bigI i))) := by
  rw [bigI_eq]; exact sx_con hg hm hd
end Mp

set_option Elab.async false
set_option linter.all false
set_option maxRecDepth 100000
set_option maxHeartbeats 1000000
/-! Clean data with truth values among it: equal to itself. -/
namespace Mp
open PySem PySem.Spec PyProof.Rows L2
mutual
def clb : Val → Bool
  | .non => true
  | .bl _ => true
  | .int _ => true
  | .str s => PyData.strOk s
  | .tup xs => clbs xs
  | _ => false
def clbs : List Val → Bool
  | [] => true
  | x :: xs => clb x && clbs xs
end
@[simp] theorem clb_non : clb .non = true := by simp [clb]
@[simp] theorem clb_bl {b : Bool} : clb (.bl b) = true := by simp [clb]
@[simp] theorem clb_int {i : Int} : clb (.int i) = true := by simp [clb]
@[simp] theorem clb_tup {xs : List Val} : clb (.tup xs) = clbs xs := by simp [clb]
@[simp] theorem clbs_nil : clbs [] = true := by simp [clbs]
@[simp] theorem clbs_cons {x : Val} {xs : List Val} : clbs (x :: xs) = (clb x && clbs xs) := by simp [clbs]
@[simp] theorem dep_bl {i : Bool} : dep (.bl i) = 0 := by simp [dep]
theorem clbs_iff {xs : List Val} : clbs xs = true ↔ ∀ x ∈ xs, clb x = true := by
  induction xs with
  | nil => simp
  | cons x r ih => simp [ih]
theorem dep_mem {y : Val} : ∀ {l : List Val}, y ∈ l → dep y ≤ deps l
  | z :: r, h => by
    rcases List.mem_cons.mp h with rfl | h
    · simp; omega
    · simp; have := dep_mem h; omega
mutual
theorem toD_clb : ∀ x : Val, clb x = true → ∃ d, toD x = some d ∧ d.canLay0 = true ∧ d.depth = dep x ∧ PyData.eqv d d = true
  | .non, _ => ⟨_, rfl, by simp [PyData.canLay0], by simp [PyData.depth], by simp [PyData.eqv]⟩
  | .bl _, _ => ⟨_, rfl, by simp [PyData.canLay0], by simp [PyData.depth], by simp [PyData.eqv]⟩
  | .int _, _ => ⟨_, rfl, by simp [PyData.canLay0], by simp [PyData.depth], by simp [PyData.eqv]⟩
  | .str s, h => ⟨_, rfl, by simpa [PyData.canLay0, clb] using h, by simp [PyData.depth], by simp [PyData.eqv]⟩
  | .tup xs, h => by
    obtain ⟨ds, e, h1, h2, h3⟩ := toDs_clb xs (by simpa using h)
    exact ⟨.tuple ds, by simp [toD, e], by simp [PyData.canLay0, h1], by simp [PyData.depth, h2], by simpa [PyData.eqv] using h3⟩
  | .frz _, h => by simp [clb] at h
  | .ref _, h => by simp [clb] at h
theorem toDs_clb : ∀ xs : List Val, clbs xs = true → ∃ ds, toDs xs = some ds ∧ PyData.canLayAll0 ds = true ∧ PyData.depthAll ds = deps xs ∧ PyData.eqvAll ds ds = true
  | [], _ => ⟨[], by simp [toDs], by simp [PyData.canLayAll0], by simp [PyData.depthAll], by simp [PyData.eqvAll]⟩
  | x :: r, h => by
    simp only [clbs_cons, Bool.and_eq_true] at h
    obtain ⟨d, e1, h1, h2, h3⟩ := toD_clb x h.1
    obtain ⟨ds, e2, k1, k2, k3⟩ := toDs_clb r h.2
    exact ⟨d :: ds, by simp [toDs, e1, e2], by simp [PyData.canLayAll0, h1, k1], by simp [PyData.depthAll, h2, k2], by simp [PyData.eqvAll, h3, k3]⟩
end
theorem eqv1_self {S : Store} {x : Val} (hx : clb x = true) (dx : dep x ≤ 64) : eqv1 S x x = some true := by
  obtain ⟨d, e1, h1, h2, h3⟩ := toD_clb x hx
  have e : toD1 S x = some d := by
    rw [← e1]
    cases x <;> first | rfl | simp [clb] at hx
  have sh : SeqAt.shaped d = true := by simp [SeqAt.shaped, h1, h2, dx]
  simp only [eqv1, e, Option.bind_some, sh, and_self, if_true, h3]
/-- two lists of the same clean things -/
theorem eqv1_lists {S : Store} {a b : Nat} {xs : List Val} (ha : S[a]? = some (.lst xs)) (hb : S[b]? = some (.lst xs)) (hx : clbs xs = true) (dx : deps xs < 64) : eqv1 S (.ref a) (.ref b) = some true := by
  obtain ⟨ds, e1, h1, h2, h3⟩ := toDs_clb xs hx
  have ea : toD1 S (.ref a) = some (.list ds) := by simp [toD1, ha, e1]
  have eb : toD1 S (.ref b) = some (.list ds) := by simp [toD1, hb, e1]
  have sh : SeqAt.shaped (.list ds) = true := by simp [SeqAt.shaped, PyData.canLay0, PyData.depth, h1, h2]; omega
  simp only [eqv1, ea, eb, Option.bind_some, sh, and_self, if_true]
  simp [PyData.eqv, h3]
end Mp

set_option Elab.async false
set_option linter.all false
set_option maxRecDepth 100000
set_option maxHeartbeats 1000000
/-! bits, ord, abs, repr of ints, texts walked, indexed, joined. -/
namespace Mp
open PySem PySem.Spec PyProof.Rows L2
section
variable {X : Cx} {Y : Sy} {W : WX} {k : Nat} {o e a b : Expr} {es : List Expr} {f fa fb fo : En → Store → Out Val} {ga : En → Store → Out (List Val)} {p pos cpos apos : Pos} {x : Str}
/-! ### bits -/
def vAnd : BOp := vI2 fun i j => .int (Builtin.bitAnd i j)
def vShr : BOp := vIC (fun _ j => 0 ≤ j) fun i j => i / 2 ^ j.toNat
theorem se_band (ha : SE X Y W a fa) (hb : SE X Y W b fb) : SE X Y W (.BinOp a .BitAnd b pos) (eB2 vAnd fa fb) := se_op op_and (vI2_ok fun _ _ _ _ _ => .int _) ha hb
theorem se_shr (ha : SE X Y W a fa) (hb : SE X Y W b fb) : SE X Y W (.BinOp a .RShift b pos) (eB2 vShr fa fb) := se_op op_shr (vIC_ok fun i j h => h) ha hb
/-! ### ord, abs, repr -/
def fOrd : Fn := fun vs S => match vs with
  | [.str z] => if z.length = 1 then .ok (.int (z.cps.getD 0 0 : Nat)) S else .bad
  | _ => .bad
theorem se_ord (hg : Gl X "ord") (hm : X.mg "ord" = none) (ha : SA X Y W [e] ga) (he : starEach [e] X.env = [(false, eval e X.env)] := by rfl) : SE X Y W (.Call (.Name "ord" p) [e] [] pos) (eCall fOrd ga) := by
  refine se_b call_ord (fun W' ρ H S vs xs Q hs rx h => ?_) hg hm (by decide +kernel) ha (he := he)
  unfold fOrd at h
  split at h
  · rename_i z
    split at h
    · rename_i hz
      obtain ⟨v, rfl, r⟩ := reps1 rx
      cases r
      exact ⟨z, rfl, hz, h _ ρ H (Pre.refl _) (Ext.refl _) hs (.int _)⟩
    · exact h.elim
  · exact h.elim
def fAbs : Fn := fun vs S => match vs with
  | [.int i] => .ok (.int (if i < 0 then -i else i)) S
  | _ => .bad
theorem se_abs (hg : Gl X "abs") (hm : X.mg "abs" = none) (ha : SA X Y W [e] ga) (he : starEach [e] X.env = [(false, eval e X.env)] := by rfl) : SE X Y W (.Call (.Name "abs" p) [e] [] pos) (eCall fAbs ga) := by
  refine se_b call_abs (fun W' ρ H S vs xs Q hs rx h => ?_) hg hm (by decide +kernel) ha (he := he)
  unfold fAbs at h
  split at h
  · rename_i i
    obtain ⟨v, rfl, r⟩ := reps1 rx
    cases r
    exact ⟨i, rfl, h _ ρ H (Pre.refl _) (Ext.refl _) hs (.int _)⟩
  · exact h.elim
def fRepr : Fn := fun vs S => match vs with
  | [.int i] => if i.natAbs.log2 < 1920 then .ok (.str (toString i)) S else .bad
  | _ => .bad
theorem se_repr (hg : Gl X "repr") (hm : X.mg "repr" = none) (ha : SA X Y W [e] ga) (he : starEach [e] X.env = [(false, eval e X.env)] := by rfl) : SE X Y W (.Call (.Name "repr" p) [e] [] pos) (eCall fRepr ga) := by
  refine se_b SkE.call_repr_int (fun W' ρ H S vs xs Q hs rx h => ?_) hg hm (by decide +kernel) ha (he := he)
  unfold fRepr at h
  split at h
  · rename_i i
    split at h
    · rename_i hi
      obtain ⟨v, rfl, r⟩ := reps1 rx
      cases r
      exact ⟨i, rfl, hi, h _ ρ H (Pre.refl _) (Ext.refl _) hs (.str _)⟩
    · exact h.elim
  · exact h.elim
/-! ### a text's signs -/
def chL (z : Str) : List Val := z.cps.toList.map fun c => .str ⟨#[c]⟩
def kStr : Val → Store → Out Itm
  | .str z, S => .ok (chL z, fun _ => True) S
  | _, _ => .bad
def iStrS (f : En → Store → Out Val) : En → Store → Out Itm := fun env S => (f env S).bind kStr
theorem JRep.str {K : PySem.W.Frag} {ρ : List Addr} {H : Hp} {z : Str} : JRep K Y ρ H (Its z) (chL z, fun _ => True) := by
  refine ⟨fun i ρ' H' S p q s _ hi => ?_, fun i ρ' H' S p q s _ hi => ?_, fun i ρ' H' S v H2 p q s _ hi hy => ?_⟩
  · show i < z.cps.size
    simpa [chL] using hi
  · show z.cps.size ≤ i
    simpa [chL] using hi
  · obtain ⟨rfl, c, hc, rfl⟩ := hy
    refine ⟨.str ⟨#[c]⟩, ?_, Ext.refl _, s, .str _⟩
    unfold chL
    rw [List.getElem?_map, Array.getElem?_toList, hc]
    rfl
theorem si_str {tg : Expr} (he : SE X Y W e f) : SI X Y W tg e (iStrS f) := by
  refine PI.imp (pi_str he) fun σ H R h => ?_
  refine tG.bind (k := fun _ => kStr) h fun ρ env v x H1 S1 he hs rx hp => ?_
  cases rx <;> try (exact hp.elim)
  rename_i z
  exact ⟨z, rfl, hp _ ρ H1 (Pre.refl _) (Ext.refl _) hs JRep.str⟩
/-! ### s[i] -/
def vIxS : BOp := fun x y S => match x, y with
  | .str z, .int i => if z.length ≤ LIM then (match atI z.cps.toList i with
    | some c => .ok (.str ⟨#[c]⟩) S
    | none => .bad) else .bad
  | _, _ => .bad
end
end Mp

set_option Elab.async false
set_option linter.all false
set_option maxRecDepth 100000
set_option maxHeartbeats 1000000
/-! [el for x in it] whose element may raise. -/
namespace Mp
open PySem PySem.Spec PyProof.Rows L2
/-- the exception is in flight at another frame: this one notes it -/
theorem look_other {M : Model} {A : Around} {E : Value → Shared → Prop} {s : Shared} {Z : Obj → Prop} {base : Heap} {env : Env} {outer : List Env} {L e : Addr} {fl : Value} {Q : Unit → Shared → Prop} (hZ : HandSPX.Steady Z) (hfr : A.frames = some (env :: outer)) (hf : env.frame = some L)
    (hkb : base.StaysIn s.heap) (hen : base.get? e = none) (hl : s.heap.FunFrames base (env :: outer)) (ht : HandSPX.TracedZ s.heap base e Z fl) (hne : (fl == rawInt L) = false)
    (hQ : ∀ h', HandSPX.HeldZ base (env :: outer) e Z L h' → s.heap.UpToSlots h' → Q () { s with heap := h' }) : wpAny M A (noteFrame (.ref e) env) Q E s := by
  obtain ⟨oe, vs, T, oT, ts, he, hz, hd, h1, hnT, hTe, hT, hdT, h3⟩ := ht
  unfold noteFrame
  simp only [hf]
  refine wpAny_bind (wpAny_field he hd h1 ?_)
  rw [if_pos (show (Value.ref T != Value.none) = true from by simp)]
  refine wpAny_bind (wpAny_field hT hdT h3 ?_)
  rw [if_neg (by rw [hne]; decide)]
  refine wpAny_bind (wpAny_setField hT hdT (Array.getElem?_eq_some_iff.mp h3).1 ?_)
  have other : ∀ b, b ≠ T → (s.heap.update T (Obj.mapFields (·.setIfInBounds 3 Value.none))).get? b = s.heap.get? b := fun b hb => Heap.get?_update_other _ _ (Ne.symm hb)
  have nr : ∀ b o, s.heap.get? b = some o → (∀ vs, o.data ≠ .fields vs) → b ≠ T := fun b o hb hnf q => by
    rw [q, hT] at hb; injection hb with hb; subst hb; exact hnf ts hdT
  refine HandSPX.wpAny_entryZ hZ hfr (hl.of_keeps fun b o hb hnf => ⟨o, (other b (nr b o hb hnf)).trans hb, rfl⟩) hf ((other e (Ne.symm hTe)).trans he)
    (fun b o hbo => (other b fun q => by rw [q, hnT] at hbo; cases hbo).trans (hkb b o hbo)) hen hd (Array.getElem?_eq_some_iff.mp h1).1 hz fun h' hN => ?_
  obtain ⟨x1, x2, x3, x4⟩ := hN
  exact hQ h' ⟨x1, hen, x2, x3⟩ fun b o hb hnf => x4 b o ((other b (nr b o hb hnf)).trans hb) hnf
theorem noteFrame_frame {e : Value} {c v : Env} (h : c.frame = v.frame) : noteFrame e c = noteFrame e v := by
  unfold noteFrame PySem.frameOf
  rw [h]
theorem funFrames_at {h h' B B' : Heap} : ∀ {l : List Env}, h.FunFrames B l → (∀ L ∈ frs l, h'.get? L = h.get? L ∧ B'.get? L = none) → h'.FunFrames B' l
  | [], _, _ => trivial
  | env :: l, x, hn => by
    obtain ⟨hk, ⟨L, o, hf, _, ho, hd⟩, hr⟩ := x
    have hL : L ∈ frs (env :: l) := List.mem_filterMap.mpr ⟨env, List.mem_cons_self, hf⟩
    exact ⟨hk, ⟨L, o, hf, (hn L hL).2, (hn L hL).1.trans ho, hd⟩, funFrames_at hr fun b hb => by
      obtain ⟨e, he, q⟩ := List.mem_filterMap.mp hb
      exact hn b (List.mem_filterMap.mpr ⟨e, List.mem_cons_of_mem _ he, q⟩)⟩
/-- what a comprehension's block that may raise is to reach -/
def cpR (M : Model) (A : Around) (E : Value → Shared → Prop) (Q : Value → Shared → Prop) (acc : Value) (C : Addr) (fr : Option Addr) (r : Result) (s' : Shared) : Prop :=
  match r with
  | .ok _ => ∃ m, s'.heap.Ns C m ∧ ∀ h', Heap.SameBut C s'.heap h' → Q acc { s' with heap := h' }
  | .error x => ∃ m, s'.heap.Ns C m ∧ ∀ h', Heap.SameBut C s'.heap h' → ∀ cenv : Env, cenv.frame = fr → wpAny M A (PySem.passOn "comprehension.variables-let-go" x cenv : Sem Value) (fun _ _ => False) E { s' with heap := h' }
theorem comprehension_R {M : Model} {A : Around} {E : Value → Shared → Prop} {s : Shared} {env : Env} {e : Expr} {scope : Scope} {pos : Pos} {newAcc first : Sem Value} {g : Comprehension} {gs : List Comprehension} {cl : List (Str × Addr)} {Q : Value → Shared → Prop}
    (hcl : clausesOf e = g :: gs) (hs : ∀ x, foldedSetIterable g.iter env x = pure x) (hclos : closureFor scope env = pure cl)
    (hkind : scope.kind = .function) (hnames : ∀ x ∈ scope.names, x.2 = .local → scope.names.lookup x.1 = some .local)
    (h : wpAny M A first (fun x s₁ => wpAny M A (pyIter x) (fun it s₂ => wpAny M A newAcc (fun acc s₃ =>
      wpAny M A (newFunctionEnv scope env.globals cl [] env.qual none .none (some env)) (fun cenv s₄ => cenv.frame = env.frame ∧
        codeAny M A (.compStart e 0 it acc { cenv with scope := relabel scope env }) (cpR M A E Q acc cenv.locals env.frame) s₄) E s₃) E s₂) E s₁) E s) :
    wpAny M A (comprehension e scope env pos newAcc false first none) Q E s := by
  unfold comprehension
  rw [hclos, hcl]
  refine wpAny_bind (wpAny_mono h (fun x s₁ h₁ => wpAny_bind (wpAny_standAt (wpAny_bind (wpAny_of_eq (hs x) (wpAny_bind (wpAny_holding (wpAny_mono h₁ (fun it s₂ h₂ =>
    wpAny_standIf (wpAny_bind (wpAny_mono h₂ (fun acc s₃ h₃ => wpAny_bind (wpAny_pure (wpAny_bind (wpAny_mono h₃ (fun cenv s₄ h₄ => ?_) fun _ _ h' => h')))) fun _ _ h' => h')))
      fun _ _ h' => h'))))))) fun _ _ h' => h')
  obtain ⟨hfr, h₄⟩ := h₄
  dsimp only
  have hv : ∀ x ∈ (scope.names.filter fun x => (x.2 == .local || x.2 == .cell) && x.1 != (".0" : Str)).reverse, x.2 = .local →
      Env.kindOf { cenv with scope := relabel scope env } x.1 = some .local := fun x hx hl => lookup_relabel_local (hnames x (List.mem_filter.mp (List.mem_reverse.mp hx)).1 hl)
  refine wpAny_holding (wpAny_bind (wpAny_attempt (wpAny_holding (wpAny_run (codeAny_mono h₄ fun r s' hr => ?_)))))
  cases r with
  | ok f =>
    obtain ⟨m, hn, hr⟩ := hr
    exact wpAny_bind (wpAny_holding (wpAny_comp_letGo (cenv := { cenv with scope := relabel scope env }) hkind _ s' m hv hn fun h' m' _ hs' => wpAny_pure (hr h' hs')))
  | error x =>
    obtain ⟨m, hn, hr⟩ := hr
    exact wpAny_bind (wpAny_holding (wpAny_comp_letGo (cenv := { cenv with scope := relabel scope env }) hkind _ s' m hv hn fun h' m' _ hs' => wpAny_mono (hr h' hs' _ hfr) (fun _ _ f => f.elim) fun _ _ y => y))
abbrev kR (X : Cx) (C : Addr) : Value → Shared → Prop := fun x s' => ∃ m, s'.heap.Ns C m ∧ ∀ h', Heap.SameBut C s'.heap h' → ∀ cenv : Env, cenv.frame = X.env.frame → wpAny (model X.prog X.w) X.A (PySem.passOn "comprehension.variables-let-go" x cenv : Sem Value) (fun _ _ => False) X.xe { s' with heap := h' }
/-- what the block may let out, the frame noted -/
abbrev eR (X : Cx) (ce : Env) (C : Addr) : Value → Shared → Prop := fun e s' => wpAny (model X.prog X.w) X.A (noteFrame e ce) (fun _ s'' => kR X C e s'') (kR X C) s'
abbrev Cx.blkR (X : Cx) (s : Shared) (H : Hp) (scope : Scope) (cenv : Env) (fp : List Addr) : Cx := (X.blk s H scope cenv fp).wish (eR X cenv cenv.locals)
theorem kR_held {X : Cx} {W : WX} {pins : List (Addr × Obj)} {σ : L2.St} {H : Hp} {sI s' : Shared} {B : Heap} {a : Addr} {cls : Value} {d : Option Addr} {C : Addr} {m : Str → Option Value}
    (tk : Takes X W) (hs : X.stack = X.env :: X.outer) (hf : X.env.frame = some X.env.locals) (I : Inv X pins σ H sI) (fC : FpOk X pins H C) (hn : sI.heap.Ns C m) (nC : C ∉ frs X.stack)
    (nb : ∀ b o, sI.heap.get? b = some o → b ∉ frs X.stack → B.get? b = some o) (up : sI.heap.UpToSlots s'.heap) (hh : HandSPX.HeldZ B X.stack a (Zc cls d) X.env.locals s'.heap) (na : H a = none) (os : s'.os = sI.os) (ag : AllBare s'.gens) (w : W cls d σ H) : kR X C (.ref a) s' := by
  obtain ⟨o, es, ep, ho, hd, hr⟩ := hn
  have hB : B.get? C = some o := nb C o ho nC
  obtain ⟨st, hen, hl, ht⟩ := hh
  refine ⟨m, ⟨o, es, ep, st C o hB, hd, hr⟩, fun h2 sb cenv hfr => ?_⟩
  have kp : ∀ b, b ≠ C → h2.get? b = s'.heap.get? b := sb.2
  have hB' : ∀ b u, (PySem.W.hideAll B [C]).get? b = some u → b ≠ C ∧ B.get? b = some u := fun b u e => by
    refine ⟨fun z => ?_, PySem.W.of_hideAll _ e⟩
    rw [PySem.W.hideAll_none [C] (by simp [z])] at e
    cases e
  have gB' : ∀ b, B.get? b = none → (PySem.W.hideAll B [C]).get? b = none := fun b e => by
    cases q : (PySem.W.hideAll B [C]).get? b with
    | none => rfl
    | some u => rw [(hB' b u q).2] at e; cases e
  obtain ⟨oe, vs, T, oT, ts, he, hz, hdd, h1, hnT, hTe, hT, hdT, h3⟩ := ht
  have aC : a ≠ C := fun z => by rw [z, hB] at hen; cases hen
  have TC : T ≠ C := fun z => by rw [z, hB] at hnT; cases hnT
  have hh2 : HandSPX.HeldZ (PySem.W.hideAll B [C]) X.stack a (Zc cls d) X.env.locals h2 := by
    refine ⟨fun b u e => ?_, gB' a hen, funFrames_at hl fun L hL => ⟨kp L fun z => nC (z ▸ hL), gB' L (hl.mem hL).1⟩, oe, vs, T, oT, ts, (kp a aC).trans he, hz, hdd, h1, gB' T hnT, hTe, (kp T TC).trans hT, hdT, h3⟩
    obtain ⟨e1, e2⟩ := hB' b u e
    exact (kp b e1).trans (st b u e2)
  unfold PySem.passOn
  refine wpAny_bind (wpAny_field ((kp a aC).trans he) hdd h1 ?_)
  rw [if_neg (show ¬ ((Value.ref T == Value.none) = true) from by simp)]
  have go : wpAny (model X.prog X.w) X.A (do setFlight (.ref a) cenv.frame; throw (Value.ref a) : Sem Value) (fun _ _ => False) X.xe { s' with heap := h2 } := by
    rw [hfr, hf]
    refine wpAny_bind (HandSPX.setFlight_onZ (s := { s' with heap := h2 }) hh2 fun h4 hh4 up4 => wpAny_throw (tk _ _ ?_))
    obtain ⟨f0, f1, f2, f3, f4, f5⟩ := fC
    refine ⟨a, PySem.W.hideAll B [C], { sI with heap := PySem.W.hideAll sI.heap [C] }, pins, σ, H, cls, d, rfl, ?_, fun b u e hb => ?_, fun b u e hnf => ?_, .inr (.inr hh4), na, os, ag, w⟩
    · exact I.turned (t' := sI.toks) (fun b u hb e => PySem.W.hideAll_get _ e (by simpa using hb)) f0 f1 f3 f4 f5
    · have e1 : b ≠ C := fun z => by rw [PySem.W.hideAll_none [C] (by simp [z])] at e; cases e
      exact PySem.W.hideAll_get _ (nb b u (PySem.W.of_hideAll _ e) hb) (by simpa using e1)
    · have e1 : b ≠ C := fun z => by rw [PySem.W.hideAll_none [C] (by simp [z])] at e; cases e
      obtain ⟨sl, q⟩ := up b u (PySem.W.of_hideAll _ e) hnf
      obtain ⟨sl2, q2⟩ := up4 b { u with slots := sl } ((kp b e1).trans q) hnf
      exact ⟨sl2, q2⟩
  first
    | exact wpAny_bind (wpAny_pure go)
    | exact go
theorem takes_blk {X : Cx} {W : WX} {pins : List (Addr × Obj)} {σ : L2.St} {H : Hp} {s : Shared} {scope : Scope} {ce : Env} {fp : List Addr}
    (tk : Takes X W) (hs : X.stack = X.env :: X.outer) (hf : X.env.frame = some X.env.locals) (hce : ce.frame = X.env.frame) (I : Inv X pins σ H s) (hC : s.heap.objs.size ≤ ce.locals) (hfp : ∀ b ∈ fp, FpOk X pins H b ∧ b < s.heap.objs.size) :
    Takes (Cx.blkR X s H scope ce fp) (fun cls d _ H' => W cls d σ H') := by
  intro u s' ⟨a, B, sI, pins', σ', H', cls, d, e, IB, nb, up, sky, na, os, ag, w⟩
  subst e
  have IX : Inv X pins σ H' sI := I.call' (ch := fp) IB.os IB.base IB.hok IB.bare fun b hb => ⟨(hfp b hb).1.2.2.2.1, (hfp b hb).1.2.1, (hfp b hb).1.2.2.2.2.1, (hfp b hb).1.2.2.2.2.2⟩
  obtain ⟨m, hn, _⟩ := IB.loc
  have hn : sI.heap.Ns ce.locals m := hn
  have nC : ce.locals ∉ frs X.stack := fun hb => by
    obtain ⟨_, o, ho, _⟩ := I.stack.mem hb
    exact absurd (Heap.lt_size ho) (Nat.not_lt.mpr hC)
  have hCL : ce.locals ≠ X.env.locals := fun z => nC (by rw [hs, z]; exact List.mem_filterMap.mpr ⟨X.env, List.mem_cons_self, hf⟩)
  have fC : FpOk X pins H' ce.locals := I.fpOk hC IB.free
  have hfr : X.A.frames = some (X.env :: X.outer) := by rw [I.ok.frames, hs]
  show wpAny (model X.prog X.w) X.A (noteFrame (.ref a) ce) (fun _ s'' => kR X ce.locals (.ref a) s'') (kR X ce.locals) s'
  rw [noteFrame_frame hce]
  have fin : ∀ h2, HandSPX.HeldZ B (X.env :: X.outer) a (Zc cls d) X.env.locals h2 → s'.heap.UpToSlots h2 → kR X ce.locals (.ref a) { s' with heap := h2 } := fun h2 hh up2 => by
    refine kR_held tk hs hf IX fC hn nC nb (fun b o hb hnf => ?_) (by rw [hs]; exact hh) na os ag w
    obtain ⟨sl, q⟩ := up b o hb hnf
    obtain ⟨sl2, q2⟩ := up2 b { o with slots := sl } q hnf
    exact ⟨sl2, q2⟩
  have sky : Sky B X.stack a (Zc cls d) ce.locals s'.heap := sky
  rw [hs] at sky
  rcases sky with ⟨hB, hn, hl, oe, vs, he, hz, hd, h1⟩ | fl | ⟨f1, f2, f3, f4⟩
  · exact HandSPX.look_newZ Zc.steady hfr hl hf he hB hn hd h1 hz fin
  · exact HandSPX.looks_onZ Zc.steady hfr hf fl fin
  · exact look_other Zc.steady hfr hf f1 f2 f3 f4 (by
      simp only [rawInt, beq_eq_false_iff_ne, ne_eq]
      intro z
      injection z with z
      exact hCL (by exact_mod_cast z)) fin
section
variable {X : Cx} {Y : Sy} {W : WX} {k : Nat}
abbrev WXs (W : WX) (σ : L2.St) : WX := fun cls d _ H => W cls d σ H
theorem lc_coreR {pins : List (Addr × Obj)} {s : Shared} {σ : L2.St} {H : Hp} {Q : VK} {elt tg iter : Expr} {ifs : List Expr} {scope : Scope} {own : List (Str × Nat)} {pos pos' : Pos} {wi : TI} {g : TG} {tt : TT} {te : TE} {Qf : Value → Shared → Prop}
    (hc : X.calm = true) (hN : X.N.Nodup) (tk : Takes X W) (hst : X.stack = X.env :: X.outer) (hfm : X.env.frame = some X.env.locals) (I : Inv X pins σ H s) (hi : PI X tg iter wi) (ok : BlkOk X.N X.env.scope scope own)
    (hb : ∀ (s : Shared) (H : Hp) (C : Addr) (cl : List (Str × Addr)) (fp : List Addr), Takes (Cx.blkR X s H scope (compEnvC scope cl C X.env) fp) (WXs W σ) → PG (Cx.blkR X s H scope (compEnvC scope cl C X.env) fp) tg g ∧ PTs (Cx.blkR X s H scope (compEnvC scope cl C X.env) fp) ifs tt ∧ PE (Cx.blkR X s H scope (compEnvC scope cl C X.env) fp) elt te) (hs : ∀ x, foldedSetIterable iter X.env x = pure x)
    (h : tLc wi g tt te (own.map (·.2)) σ H Q)
    (hRR : ∀ D C s' m H', Inv X pins σ H' s' → Q (.ref D) H' → s'.heap.Ns C m → FpOk X pins H' C → ∃ m, s'.heap.Ns C m ∧ ∀ h', Heap.SameBut C s'.heap h' → Qf (.ref D) { s' with heap := h' }) :
    wpAny (model X.prog X.w) X.A (comprehension (.ListComp elt [⟨tg, iter, ifs, 0⟩] scope pos) scope X.env pos' (newList []) false (eval iter X.env) none) Qf X.xe s := by
  have hfree : ∀ y ∈ scope.names, y.2 = .free → ∃ c, X.env.cells.lookup y.1 = some c := fun y hy e => by
    rcases ok.free y hy e with k | k
    · exact I.ok.has _ (.inl k)
    · exact I.ok.has _ (.inr k)
  refine comprehension_R rfl hs (closure_ok hfree) ok.kind (fun y hy e => by rw [ok.uniq y hy, e])
    (thn (hi.run pins s σ H _ I h) fun xv s1 hx => thn hx fun itv s2 h2 => ?_)
  obtain ⟨it, fp, tn, J, H2, e, I2, T, st2, f2, q⟩ := h2
  subst e
  refine wpAny_newObj_type (newEnv_comp ⟨rfl, ?_⟩) (by show 0 ≤ sizeLine; decide)
  generalize hD : s2.heap.objs.size = D
  have hDn : H2 D = none := I2.hok.fresh (Nat.le_of_eq hD)
  obtain ⟨V, ⟨m0, w0⟩, turn⟩ := q D hDn
  generalize hs3 : ({ s2 with heap := s2.heap.push { cls := .type "list", data := .seq ([] : List Value).toArray } } : Shared) = s3
  have I3 : Inv X pins σ (upd H2 D (.lst [])) s3 := by
    rw [← hs3]
    refine I2.laid (t' := s2.toks) (fun b o e => Heap.get?_push_of_some _ e) (Nat.le_of_eq hD) ⟨Nat.zero_le _, [], 0, .nil, ?_⟩
    rw [← hD]
    exact Heap.get?_push_size _ rfl
  have h3 : s3.heap = s2.heap.push { cls := .type "list", data := .seq ([] : List Value).toArray } := by rw [← hs3]
  have sz : ∀ b ∈ fp, b < s2.heap.objs.size := fun b hb => by
    obtain ⟨o, e, _⟩ := T.obj _ _ st2 b hb
    exact Heap.lt_size e
  have f3 : ∀ b ∈ fp, FpOk X pins (upd H2 D (.lst [])) b ∧ b < s3.heap.objs.size := fun b hb => by
    have hlt := sz b hb
    refine ⟨⟨?_, (f2 b hb).2⟩, by rw [h3, Heap.size_push]; exact Nat.lt_succ_of_lt hlt⟩
    rw [upd_ne (by rw [← hD]; exact Nat.ne_of_lt hlt)]
    exact (f2 b hb).1
  have st3 : tn 0 s3.heap := T.keep _ _ _ st2 fun b _ o e => by rw [h3]; exact Heap.get?_push_of_some _ e
  have I4 := (block_start I3 ok hN f3).wish (eR X (compEnvC scope (cellsFrom (s3.heap.objs.size + 1) scope.names (cloFrom X.env.cells scope.names [])) s3.heap.objs.size X.env) s3.heap.objs.size)
  have tkB := takes_blk (scope := scope) (ce := compEnvC scope (cellsFrom (s3.heap.objs.size + 1) scope.names (cloFrom X.env.cells scope.names [])) s3.heap.objs.size X.env) tk hst hfm rfl I3 (Nat.le_refl _) f3
  obtain ⟨pg, pt, pe⟩ := hb s3 (upd H2 D (.lst [])) s3.heap.objs.size (cellsFrom (s3.heap.objs.size + 1) scope.names (cloFrom X.env.cells scope.names [])) fp tkB
  show codeAny _ _ (.compStart (.ListComp elt [⟨tg, iter, ifs, 0⟩] scope pos) 0 (.ref it) (.ref D) (compEnvC scope (cellsFrom (s3.heap.objs.size + 1) scope.names (cloFrom X.env.cells scope.names [])) s3.heap.objs.size X.env)) (cpR (model X.prog X.w) X.A X.xe Qf (.ref D) s3.heap.objs.size X.env.frame) { s3 with heap := pushCells (s3.heap.push { cls := .type "dict", data := .dict #[] }) scope.names }
  have nfp : ∀ b ∈ fp, (upd H2 D (.lst [])) b = none := fun b hb => (f3 b hb).1.1
  have cL : (compEnvC scope (cellsFrom (s3.heap.objs.size + 1) scope.names (cloFrom X.env.cells scope.names [])) s3.heap.objs.size X.env).locals = s3.heap.objs.size := rfl
  generalize hce : compEnvC scope (cellsFrom (s3.heap.objs.size + 1) scope.names (cloFrom X.env.cells scope.names [])) s3.heap.objs.size X.env = ce at I4 pg pt pe cL ⊢
  rw [← cL] at I4 ⊢
  have cL' := cL
  generalize hH3 : upd H2 D (.lst []) = H3 at I3 I4 pg pt pe w0 nfp f3
  generalize hs4 : ({ s3 with heap := pushCells (s3.heap.push { cls := .type "dict", data := .dict #[] }) scope.names } : Shared) = s4 at I4 ⊢
  have st4 : tn 0 s4.heap := T.keep _ _ _ st3 fun b _ o e => by rw [← hs4]; exact pushCells_keeps _ _ _ _ (Heap.get?_push_of_some _ e)
  have stat : ∀ {σ' : L2.St} {H' : Hp} {s' : Shared}, Inv (Cx.blkR X s3 H3 scope ce fp) [] σ' H' s' → (∀ b ∈ fp, H' b = none) → ∀ b ∈ fp, FpOk (Cx.blkR X s3 H3 scope ce fp) [] H' b := fun {σ' H' s'} I' hn b hb =>
    ⟨hn b hb, (I'.ok.exf b hb).1, I'.ok.exfs b hb, .inl hb, fun x c e => (I'.ok.exf b hb).2 x c e, fun p hp => absurd (show p ∈ ([] : List (Addr × Obj)) ++ [] from hp) (by simp)⟩
  have loop : codeAny (model X.prog X.w) X.A (.compLoop (.ListComp elt [⟨tg, iter, ifs, 0⟩] scope pos) 0 (.ref it) (.ref D) ce) (cpR (model X.prog X.w) X.A X.xe Qf (.ref D) ce.locals X.env.frame) s4 := by
    refine compLoop_any (fun n s' => ∃ i H', Inv (Cx.blkR X s3 H3 scope ce fp) [] (wipe σ (own.map (·.2))) H' s' ∧ tn i s'.heap ∧ (∀ b ∈ fp, H' b = none) ∧ V i n H') ?_ m0 ⟨0, H3, I4, st4, nfp, w0⟩
    rintro n s5 ⟨i, H5, I5, st5, n5, w5⟩
    rcases turn i n H5 w5 with ⟨stop, qq⟩ | ⟨go, Nx, hNx, step⟩
    · have td := T.done (Cx.blkR X s3 H3 scope ce fp) rfl rfl rfl hc i [] s5 _ H5 (fun _ _ => False) I5 (stat I5 n5) st5 stop
      refine thnF td fun r s6 ⟨hr, I6⟩ => ?_
      subst hr
      have I7 : Inv X pins σ H5 s6 := I3.call' (ch := fp) I6.os I6.base I6.hok I6.bare fun b hb => ⟨(f3 b hb).1.2.2.2.1, (f3 b hb).1.2.1, (f3 b hb).1.2.2.2.2.1, (f3 b hb).1.2.2.2.2.2⟩
      have nC : H5 ce.locals = none := I6.free
      obtain ⟨m, hn, _⟩ := I6.loc
      have hn : s6.heap.Ns ce.locals m := hn
      exact hRR D ce.locals s6 m H5 I7 qq hn (I3.fpOk (Nat.le_of_eq cL.symm) nC)
    · have ti := T.item (Cx.blkR X s3 H3 scope ce fp) rfl rfl rfl hc i [] s5 _ H5 (fun _ _ => False) I5 (stat I5 n5) st5 go
      refine thnF ti fun r s6 ⟨u, hr, h6⟩ => ?_
      subst hr
      refine thnF h6 fun _ s7 ⟨x, H7, I7, r7, y7, st7, n7⟩ => ?_
      have I7' := I7.pinned (stat I7 n7) (T.obj _ _ st7)
      refine thn (pg.run _ s7 _ H7 x u _ I7' r7 (step x H7 y7)) fun _ s8 ⟨σ8, H8, I8, hw8, q8⟩ => ?_
      refine thn (pt.run _ s8 σ8 H8 _ I8 q8) fun b s9 ⟨H9, I9, q9⟩ => ?_
      have fin : ∀ {s' : Shared} {H' : Hp}, Inv (Cx.blkR X s3 H3 scope ce fp) ([] ++ pinsAt fp s7.heap) σ8 H' s' → Nx H' → ∃ m, m < n ∧ ∃ i H', Inv (Cx.blkR X s3 H3 scope ce fp) [] (wipe σ (own.map (·.2))) H' s' ∧ tn i s'.heap ∧ (∀ b ∈ fp, H' b = none) ∧ V i m H' := fun {s' H'} I' nx => by
        obtain ⟨m', hm, w'⟩ := hNx H' nx
        have pin' : ∀ b ∈ fp, ∀ o, s7.heap.get? b = some o → s'.heap.get? b = some o ∧ H' b = none := fun b hb o e =>
          let z := I'.pin (b, o) (List.mem_append_right _ (List.mem_append_right _ (mem_pinsAt hb e)))
          ⟨z.1, z.2.1⟩
        have hl : (wipe σ (own.map (·.2))).length = σ8.length := by rw [← hw8, wipe_length]
        refine ⟨m', hm, i + 1, H', (I'.unpinned (pins := [])).weak hl (fun j v e => ?_), T.keep _ _ _ st7 fun b hb o e => (pin' b hb o e).1, fun b hb => ?_, w'⟩
        · rw [← hw8] at e
          exact (wipe_some e).1
        · obtain ⟨o, e, _⟩ := T.obj _ _ st7 b hb
          exact (pin' b hb o e).2
      cases b with
      | false =>
        simp only [Bool.false_eq_true, if_false] at q9 ⊢
        exact fin I9 q9
      | true =>
        simp only [if_true] at q9 ⊢
        refine thn (pe.run _ s9 σ8 H9 _ I9 q9) fun z s10 ⟨yv, H10, I10, r10, acc, hD10, hz10, nx⟩ => ?_
        exact app_ok (X := Cx.blkR X s3 H3 scope ce fp) I10 hD10 hz10 r10 fun s11 I11 => fin I11 nx
  exact codeAny_compStart_list loop (T.self X.A 0 _ _ _ st4 loop)
open Classical in
noncomputable def lcXR (ck : Store → Prop) (t : Tgt) (el : En → Store → Out Val) (n : Nat) (env : En) : List Val → List Val → Store → Out Val
  | [], _, S => if ck S then .ok (.ref n) S else .bad
  | x :: r, acc, S => if ck S then (match t x env with
    | none => .bad
    | some e => (el e S).bind fun y S2 => if S2[n]? = some (.lst acc) ∧ acc.length < LIM then lcXR ck t el n env r (acc ++ [y]) (S2.set n (.lst (acc ++ [y]))) else .bad) else .bad
noncomputable def eLcR (fi : En → Store → Out Itm) (t : Tgt) (el : En → Store → Out Val) (vs : List Nat) : En → Store → Out Val := fun env S =>
  (fi env S).bind fun p S1 => lcXR p.2 t el S1.length (wipeE env vs) p.1 [] (S1 ++ [.lst []])
theorem tLc_ofR {fi : En → Store → Out Itm} {t : Tgt} {el : En → Store → Out Val} {vs L : List Nat} {σ : L2.St} {H : Hp} {Q : VK} (hx : Y.xi = none) (hL : ∀ i ∈ L, i ∈ vs)
    (h : tG X.K Y W (RV X.K) (eLcR fi t el vs) σ H Q) : tLc (tG X.K Y W (RJ X.K Y) fi) (tTg X.K Y L t) (tG X.K Y W0 RB bYes) (tG X.K Y (WXs W σ) (RV X.K) el) vs σ H Q := by
  refine tG.bind (k := fun env (p : Itm) S1 => lcXR p.2 t el S1.length (wipeE env vs) p.1 [] (S1 ++ [.lst []])) h fun ρ0 env J p H1 S0 he0 hs0 rj hp0 => ?_
  intro D hD
  have hs1 : Sim X.K Y (ρ0 ++ [D]) (upd H1 D (.lst [])) (S0 ++ [.lst []]) := hs0.new hD ⟨[], upd_same, .nil⟩
  have hDn : (ρ0 ++ [D])[S0.length]? = some D := by rw [← hs0.len]; simp
  refine ⟨fun i m H' => ∃ ρ acc S, m = p.1.length - i ∧ i ≤ p.1.length ∧ Pre (ρ0 ++ [D]) ρ ∧ Ext (upd H1 D (.lst [])) H' ∧ Sim X.K Y ρ H' S ∧ Post X.K Y (fun cls d H' => W cls d σ H') ρ H' (RV X.K) Q (lcXR p.2 t el S0.length (wipeE env vs) (p.1.drop i) acc S),
    ⟨_, ρ0 ++ [D], [], _, rfl, Nat.zero_le _, Pre.refl _, Ext.refl _, hs1, Post.up (Pre.snoc _ _) (Ext.new hD) hp0⟩, fun i m H2 hw => ?_⟩
  obtain ⟨ρ, acc, S, rfl, hi, pr, ex, hs, hp⟩ := hw
  have pr0 : Pre ρ0 ρ := (Pre.snoc _ _).trans pr
  have ex0 : Ext H1 H2 := (Ext.new hD).trans ex
  by_cases hlt : i < p.1.length
  · have ed : p.1.drop i = p.1[i] :: p.1.drop (i + 1) := List.drop_eq_getElem_cons hlt
    rw [ed] at hp
    simp only [lcXR] at hp
    split at hp
    · rename_i hck
      refine .inr ⟨rj.go i ρ H2 S pr0 ex0 hs hck hlt, fun H' => ∃ ρ acc S, Pre (ρ0 ++ [D]) ρ ∧ Ext (upd H1 D (.lst [])) H' ∧ Sim X.K Y ρ H' S ∧ Post X.K Y (fun cls d H' => W cls d σ H') ρ H' (RV X.K) Q (lcXR p.2 t el S0.length (wipeE env vs) (p.1.drop (i + 1)) acc S), fun H' hn => ?_, fun v H' hy => ?_⟩
      · obtain ⟨ρ', acc', S', a1, a2, a3, a4⟩ := hn
        exact ⟨p.1.length - (i + 1), by omega, ρ', acc', S', rfl, by omega, a1, a2, a3, a4⟩
      · obtain ⟨x, ex1, ex2, hs2, rx⟩ := rj.yl i ρ H2 S v H' pr0 ex0 hs hck hlt hy
        have exx : p.1[i] = x := by
          rw [List.getElem?_eq_getElem hlt] at ex1
          exact Option.some.inj ex1
        rw [exx] at hp
        split at hp
        · exact hp.elim
        · rename_i e1 te
          have he' : ERep X.K Y ρ H' (L2.wipe σ vs) (wipeE env vs) := ((he0.up pr0 (ex0.trans ex2)).wipe hx vs)
          refine ⟨ρ, wipeE env vs, x, e1, he', rx, te, fun σ2 he2 sb => ⟨wipe_same sb hL, ?_⟩⟩
          refine ⟨ρ, e1, S, he2, hs2, ?_⟩
          have exD : Ext (upd H1 D (.lst [])) H' := ex.trans ex2
          intro b' ρ3 H3 p3 q3 s3 rb
          obtain rfl : b' = true := rb
          refine iteT ?_
          refine ⟨ρ3, e1, S, he2.up p3 q3, s3, ?_⟩
          generalize hge : el e1 S = oe at hp
          cases oe with
          | bad => exact hp.elim
          | err c fs S2 => exact fun cls d ρ' H4 p4 q4 s4 er => hp cls d ρ' H4 (p3.trans p4) ((ex2.trans q3).trans q4) s4 er
          | ok y S2 =>
            intro v4 ρ4 H4 p4 q4 s4 r4
            simp only [Out.bind] at hp
            split at hp
            · rename_i hc
              have hDi : ρ4[S0.length]? = some D := p4 _ _ (p3 _ _ (pr _ _ hDn))
              obtain ⟨ws, e5, r5⟩ := s4.lst hDi hc.1
              refine ⟨ws, e5, by rw [r5.length]; exact lim_lt hc.2, ?_⟩
              have nf : ¬ Fx (HO.lst ws) := fun z => z
              have e6 : Ext H4 (upd H4 D (.lst (ws ++ [v4]))) := Ext.mut e5 nf
              obtain ⟨_, s6⟩ := s4.put (u := .lst (ws ++ [v4])) (o := .lst (acc ++ [y])) hDi ⟨_, upd_same, ((r5.append (.cons r4 .nil)).up (Pre.refl _) e6)⟩
              exact ⟨ρ4, acc ++ [y], _, pr.trans (p3.trans p4), exD.trans ((q3.trans q4).trans e6), s6, Post.up (p3.trans p4) ((ex2.trans (q3.trans q4)).trans e6) hp⟩
            · exact hp.elim
    · exact hp.elim
  · have ed : p.1.drop i = [] := List.drop_eq_nil_of_le (by omega)
    rw [ed] at hp
    simp only [lcXR] at hp
    split at hp
    · rename_i hck
      exact .inl ⟨rj.st i ρ H2 S pr0 ex0 hs hck (by omega), hp _ ρ H2 (Pre.refl _) (Ext.refl _) hs (.ref (pr _ _ hDn))⟩
    · exact hp.elim
theorem Cc.blkR (c : Cc X Y W k) {σ : L2.St} {s : Shared} {H : Hp} {scope : Scope} {cenv : Env} {fp : List Addr} (tk : Takes (Cx.blkR X s H scope cenv fp) (WXs W σ)) : Cc (Cx.blkR X s H scope cenv fp) Y (WXs W σ) k :=
  ⟨c.calm, c.nd, c.xi, PassesOwn.looking, tk, c.room⟩
theorem se_lcR {elt tg iter : Expr} {scope : Scope} {own : List (Str × Nat)} {pos : Pos} {fi : En → Store → Out Itm} {t : Tgt} {el : En → Store → Out Val} {L : List Nat} (c : Cc X Y W k) (hi : SI X Y W tg iter fi) (ok : BlkOk X.N X.env.scope scope own) (hL : ∀ i ∈ L, i ∈ own.map (·.2))
    (hg : ∀ (W' : WX) (s : Shared) (H : Hp) (C : Addr) (cl : List (Str × Addr)) (fp : List Addr), Cc (Cx.blkR X s H scope (compEnvC scope cl C X.env) fp) Y W' k → SG (Cx.blkR X s H scope (compEnvC scope cl C X.env) fp) Y tg L t)
    (he : ∀ (W' : WX) (s : Shared) (H : Hp) (C : Addr) (cl : List (Str × Addr)) (fp : List Addr), Cc (Cx.blkR X s H scope (compEnvC scope cl C X.env) fp) Y W' k → SE (Cx.blkR X s H scope (compEnvC scope cl C X.env) fp) Y W' elt el)
    (hs : ∀ x, foldedSetIterable iter X.env x = pure x := by intro _; rfl) (hst : X.stack = X.env :: X.outer := by rfl) (hf : X.env.frame = some X.env.locals := by rfl) : SE X Y W (.ListComp elt [⟨tg, iter, [], 0⟩] scope pos) (eLcR fi t el (own.map (·.2))) := by
  refine ⟨fun pins s σ H Q I h => ?_⟩
  rw [eval_ListComp]
  refine lc_coreR (g := tTg X.K Y L t) (tt := tG X.K Y W0 RB bYes) (te := tG X.K Y (WXs W σ) (RV X.K) el) c.calm c.nd c.tk hst hf I hi ok (fun s H C cl fp tkb => ⟨hg _ s H C cl fp (c.blkR tkb), ?_, he _ s H C cl fp (c.blkR tkb)⟩) hs (tLc_ofR c.xi hL h) fun D C s' m H' I' q hn f => ⟨m, hn, fun h'' sb => ?_⟩
  · exact PTs.imp pts_nil fun σ H Q h => by
      obtain ⟨ρ, env, S, he, hs, h⟩ := h
      exact h true ρ H (Pre.refl _) (Ext.refl _) hs rfl
  · obtain ⟨f0, f1, f2, f3, f4, f5⟩ := f
    exact ⟨.ref D, H', I'.turned (t' := s'.toks) (fun b o hb e => (sb.2 b hb).trans e) f0 f1 f3 f4 f5, rfl, q⟩
end
end Mp

set_option Elab.async false
set_option linter.all false
set_option maxRecDepth 100000
set_option maxHeartbeats 1000000
/-! t[::-1] of tuples, s[i], join, constants that are tuples, x << k. -/
namespace Mp
open PySem PySem.Spec PyProof.Rows L2 HT
section
variable {prog : Program} {w : World} {A : Around} {E : Value → Shared → Prop} {s : Shared}
theorem sliceApplied_rev {sl : Addr} {vl vu vs : Value} {n : Nat} {Q : Int × Int × Nat → Shared → Prop} (hs : s.heap.IsSliceOf sl vl vu vs) (pl : IsPart vl none) (pu : IsPart vu none) (ps : IsPart vs (some (-1)))
    (h : Q ((n : Int) - 1, -1, n) s) : wpAny (model prog w) A (Builtin.Slice.sliceApplied (.ref sl) (pure (n : Int))) Q E s := by
  obtain ⟨os, hos, hcs, hds⟩ := id hs
  unfold Builtin.Slice.sliceApplied Builtin.Slice.sliceFields
  refine wpAny_bind (wpAny_bind (wpAny_field hos hds (x := vl) rfl (wpAny_bind (wpAny_field hos hds (x := vu) rfl (wpAny_bind (wpAny_field hos hds (x := vs) rfl (wpAny_pure ?_)))))))
  refine wpAny_bind (slicePart_ ps ?_)
  show wpAny _ _ (if ((-1 : Int) == 0) = true then _ else _) _ _ s
  rw [if_neg (by decide)]
  refine wpAny_bind (slicePart_ pl (wpAny_bind (slicePart_ pu (wpAny_bind (wpAny_pure ?_)))))
  show wpAny _ _ (match Builtin.Slice.sliceAdjust none none (-1) (n : Int) with | (lo, hi) => pure (lo, (-1 : Int), Builtin.Slice.slicePlaces lo hi (-1))) _ _ s
  have e1 : Builtin.Slice.sliceAdjust none none (-1) (n : Int) = ((n : Int) - 1, -1) := rfl
  rw [e1]
  show wpAny _ _ (pure ((n : Int) - 1, (-1 : Int), Builtin.Slice.slicePlaces ((n : Int) - 1) (-1) (-1))) _ _ s
  have e2 : Builtin.Slice.slicePlaces ((n : Int) - 1) (-1) (-1) = n := by
    unfold Builtin.Slice.slicePlaces
    rw [if_neg (by omega)]
    split
    · have : ((n : Int) - 1 - -1 - 1) / (- -1) + 1 = n := by
        rw [show (- -1 : Int) = 1 from rfl, Int.ediv_one]; omega
      rw [this]; omega
    · omega
  rw [e2]
  exact wpAny_pure h
theorem fm_congr {α β : Type} {f g : α → Option β} : ∀ {l : List α}, (∀ x ∈ l, f x = g x) → l.filterMap f = l.filterMap g
  | [], _ => rfl
  | a :: l, h => by
    rw [List.filterMap_cons, List.filterMap_cons, h a List.mem_cons_self, fm_congr fun x hx => h x (List.mem_cons_of_mem _ hx)]
theorem pick_rev (xs : Array Value) : ((List.range xs.size).filterMap fun (m : Nat) => xs[(((xs.size : Int) - 1) + (m : Int) * (-1)).toNat]?).toArray = xs.toList.reverse.toArray := by
  congr 1
  have e : (List.range xs.size).filterMap (fun (m : Nat) => xs[(((xs.size : Int) - 1) + (m : Int) * (-1)).toNat]?) = (List.range xs.size).filterMap (fun (m : Nat) => xs.toList.reverse[m]?) := by
    refine fm_congr ?_
    intro m hm
    have hm := List.mem_range.mp hm
    rw [List.getElem?_reverse (by simpa using hm)]
    have : (((xs.size : Int) - 1) + (m : Int) * (-1)).toNat = xs.toList.length - 1 - m := by simp only [Array.length_toList]; omega
    rw [this, Array.getElem?_toList]
  rw [e]
  have e2 : (List.range xs.size).filterMap (fun (m : Nat) => xs.toList.reverse[m]?) = xs.toList.reverse := by
    have hl : xs.toList.reverse.length = xs.size := by simp
    rw [← hl]
    generalize xs.toList.reverse = l
    have := pick_run l.toArray 0 l.length
    simp only [Nat.zero_add, List.drop_zero] at this
    simpa [List.filterMap_map] using this
  rw [e2]
theorem getItem_tuple_rev {t sl : Addr} {items : Array Value} {vl vu vs : Value} {Q : Value → Shared → Prop} (ht : IsTup s.heap t items) (hs : s.heap.IsSliceOf sl vl vu vs) (pl : IsPart vl none) (pu : IsPart vu none) (ps : IsPart vs (some (-1)))
    (h : Q (.ref s.heap.objs.size) { s with heap := s.heap.push { cls := .type "tuple", data := .seq items.toList.reverse.toArray } })
    (hsz : items.size ≤ sizeLine) : wpAny (model prog w) A (getItem (.ref t) (.ref sl)) Q E s := by
  have htake : sizeOk (.seq items.toList.reverse.toArray) := by
    show items.toList.reverse.toArray.size ≤ sizeLine
    simpa using hsz
  obtain ⟨os, hos, hcs, hds⟩ := id hs
  have hTs : s.TypeIs (.ref sl) "slice" := ⟨os, hos, hcs⟩
  unfold getItem
  try with_reducible refine wpAny_holding ?_
  first | refine wpAny_bind (wpAny_pure ?_) | skip
  refine wpAny_bind (wpAny_sequenceKey ht.typeIs (by decide) ?_)
  refine wpAny_bind (wpAny_callSpecial?_slot (name := Str.ofString "__getitem__") ht.typeIs PyProof.Rows.slot_tuple_getitem
    (wpAny_call_entry PyProof.Rows.slot_tuple_getitem ht.typeIs entry_tuple_getitem ?_ (args_tuple_getitem _ _)))
  show wpAny _ _ (Builtin.Tuple.tupleItemsOf (.ref t) >>= _) _ _ s
  refine wpAny_bind (tupleItemsOf_ ht ?_)
  refine wpAny_bind (wpAny_typeOf hTs ?_)
  rw [if_pos (by decide)]
  refine wpAny_bind (sliceApplied_rev hs pl pu ps ?_)
  have hno : ¬ ((((items.size : Int) - 1) == 0 && (-1 : Int) == 1 && items.size == items.size) = true) := by
    intro q
    rw [Bool.and_eq_true, Bool.and_eq_true] at q
    exact absurd q.1.2 (by decide)
  show wpAny _ _ (if (((items.size : Int) - 1) == 0 && (-1 : Int) == 1 && items.size == items.size) = true then _ else _) _ _ s
  rw [if_neg hno, pick_rev]
  first
    | exact wpAny_bind (m := Builtin.Tuple.tupleExact _) (wpAny_newObj_type (wpAny_pure ⟨_, rfl, wpAny_pure h⟩) htake)
    | exact wpAny_bind (m := Builtin.Tuple.tupleExact _) (wpAny_newObj_type (wpAny_bind (wpAny_pure (wpAny_pure ⟨_, rfl, wpAny_pure h⟩))) htake)
    | exact wpAny_bind (wpAny_bind (m := Builtin.Tuple.tupleExact _) (wpAny_newObj_type (wpAny_pure (wpAny_pure ⟨_, rfl, wpAny_pure h⟩)) htake))
    | exact wpAny_bind (wpAny_bind (m := Builtin.Tuple.tupleExact _) (wpAny_newObj_type (wpAny_pure ⟨_, rfl, wpAny_pure h⟩) htake))
end
section
variable {X : Cx} {Y : Sy} {W : WX} {k : Nat} {o e a b : Expr} {es : List Expr} {f fa fb fo : En → Store → Out Val} {ga : En → Store → Out (List Val)} {p pos cpos apos : Pos} {x : Str}
def tRevT (K : PySem.W.Frag) (te : TE) : TE := fun σ H Q => te σ H fun x H1 => ∃ a xs, x = .ref a ∧ SqT K H1 a xs ∧ ∀ p, H1 p = none → Q (.ref p) (upd H1 p (.tup xs.reverse))
theorem pe_revT {e : Expr} {te : TE} {k : Nat} {p1 p2 p3 pos : Pos} (he : PE X e te) : PE X (.Subscript e (.Slice none none (some (.UnaryOp .USub (.Constant (.int 1) k p1) p2)) p3) pos) (tRevT X.K te) := by
  refine ⟨fun pins s σ H Q I h => ?_⟩
  refine Subscript_ (thn (he.run pins s σ H _ I h) fun v s1 ⟨x, H1, I1, r1, q1⟩ => ?_)
  obtain ⟨a, xs, ex, hx, q⟩ := q1
  subst ex
  cases r1
  have hst : PO X (some (.UnaryOp .USub (.Constant (.int 1) k p1) p2)) (tPart (tUn (rU fun i => .int (-i)) (tC (.int 1)))) := po_some (pe_un un_neg pe_int)
  refine wpAny_Slice (thn (po_none.run pins s1 σ H1 (fun o H2 => o = none ∧ H2 = H1) I1 ⟨rfl, rfl⟩) fun vl s2 ⟨l, H2, I2, pl, el, e2⟩ => ?_)
  subst el e2
  refine thn (po_none.run pins s2 σ H2 (fun o H3 => o = none ∧ H3 = H2) I2 ⟨rfl, rfl⟩) fun vu s3 ⟨u, H3, I3, pu, eu, e3⟩ => ?_
  subst eu e3
  refine thn (hst.run pins s3 σ H3 (fun o H4 => o = some (-1) ∧ H4 = H3) I3 ⟨1, rfl, -1, rfl, rfl, rfl⟩) fun vs s4 ⟨o, H4, I4, ps, eo, e4⟩ => ?_
  subst eo e4
  have I5 : Inv X pins σ H4 { s4 with heap := s4.heap.push { cls := .type "slice", data := .fields #[vl, vu, vs] } } := I4.kept (t' := s4.toks) fun b ob q => Heap.get?_push_of_some _ q
  obtain ⟨its, r, ht, hz⟩ := I5.tuple hx
  have hlen := r.length
  show wpAny (model X.prog X.w) X.A (subscriptTail e (.Slice none none (some (.UnaryOp .USub (.Constant (.int 1) k p1) p2)) p3) (.ref a) (.ref s4.heap.objs.size)) (EP X pins σ Q) X.xe { s4 with heap := s4.heap.push { cls := .type "slice", data := .fields #[vl, vu, vs] } }
  refine tail_any (ops := [.ref a, .ref s4.heap.objs.size]) ht.typeIs (PyProof.Rows.slot_tuple_getitem.lookup) ?_ (by with_unfolding_all rfl)
  refine getItem_tuple_rev ht (Heap.IsSliceOf.new _ vl vu vs) pl pu ps ?_ (by rw [List.size_toArray]; omega)
  refine ⟨.ref _, _, I5.laid (t' := s4.toks) (o := .tup xs.reverse) (fun b ob q => Heap.get?_push_of_some _ q) (Nat.le_refl _) ?_, rfl, q _ (I5.hok.fresh (Nat.le_refl _))⟩
  exact ⟨by rw [List.length_reverse]; exact hz, its.reverse, r.reverse, _, Heap.get?_push_size _ rfl, rfl, _, rfl⟩
def kRevT : Val → Store → Out Val
  | .tup xs, S => .ok (.tup xs.reverse) S
  | _, _ => .bad
def eRevT (f : En → Store → Out Val) : En → Store → Out Val := fun env S => (f env S).bind kRevT
theorem Reps.rev {K : PySem.W.Frag} {ρ : List Addr} {H : Hp} : ∀ {vs : List V} {xs : List Val}, Reps K ρ H vs xs → Reps K ρ H vs.reverse xs.reverse
  | _, _, .nil => .nil
  | _, _, .cons r t => by
    rw [List.reverse_cons, List.reverse_cons]
    exact (Reps.rev t).append (.cons r .nil)
theorem se_revT {k : Nat} {p1 p2 p3 : Pos} (he : SE X Y W e f) : SE X Y W (.Subscript e (.Slice none none (some (.UnaryOp .USub (.Constant (.int 1) k p1) p2)) p3) pos) (eRevT f) :=
  PE.imp (pe_revT he) fun σ H Q h => tG.bind (k := fun _ => kRevT) h fun ρ env v x H1 S1 he hs rx hp => by
    cases rx <;> try (exact hp.elim)
    rename_i a vs xs hH r
    exact ⟨a, vs, rfl, SqT.of hH, fun p hn => hp _ ρ _ (Pre.refl _) (Ext.new hn) (hs.other hn) (.tup upd_same (r.rev.up (Pre.refl _) (Ext.new hn)))⟩
/-! ### s[i] -/
theorem vIxS_ok : OpS X Y rIxS vIxS := by
  intro W' ρ H S v w x y Q hs rx ry h
  unfold vIxS at h
  split at h
  · rename_i z i
    split at h
    · rename_i hz
      split at h
      · rename_i c ec
        cases rx
        cases ry
        exact ⟨z, i, c, rfl, rfl, Nat.le_trans hz (by decide), ec, h _ ρ H (Pre.refl _) (Ext.refl _) hs (.str _)⟩
      · exact h.elim
    · exact h.elim
  · exact h.elim
theorem se_ixS (ha : SE X Y W a fa) (hb : SE X Y W b fb) (hp : PlainIx b := by exact fun _ _ => rfl) : SE X Y W (.Subscript a b pos) (eB2 vIxS fa fb) :=
  PE.imp (pe_ix ix_str ha hb hp) fun _ _ _ h => tOp_of vIxS_ok h
/-! ### x << k -/
/-- (the condition is decided classically: else the kernel counts 2 ^ 27 down wherever it compares a step with another) -/
noncomputable def vShl : BOp := @vIC CShl (fun _ _ => Classical.propDecidable _) fun i j => i * 2 ^ j.toNat
theorem se_shl (ha : SE X Y W a fa) (hb : SE X Y W b fb) : SE X Y W (.BinOp a .LShift b pos) (eB2 vShl fa fb) := se_op op_shlW (@vIC_ok _ _ CShl CShl (fun _ _ => Classical.propDecidable _) _ fun i j h => h) ha hb
/-! ### s.join(xs) -/
def strsOf : List Val → Option (List Str)
  | [] => some []
  | .str z :: r => (strsOf r).map (z :: ·)
  | _ => none
theorem strsOf_rep {K : PySem.W.Frag} {ρ : List Addr} {H : Hp} : ∀ {vs : List V} {xs : List Val} {ys : List Str}, Reps K ρ H vs xs → strsOf xs = some ys → vs = ys.map V.str
  | _, _, _, .nil, h => by cases h; rfl
  | _, x :: xs, ys, .cons r t, h => by
    cases x with
    | str z =>
      simp only [strsOf] at h
      obtain ⟨zs, e, rfl⟩ := Option.map_eq_some_iff.mp h
      cases r
      rw [List.map_cons, ← strsOf_rep t e]
    | _ => cases h
def kJoin (a : Str) : Val → Store → Out Val := fun y S => match itemsOf S y with
    | some xs => (match strsOf xs with
      | some ys => if (ys.map (·.length)).sum + ys.length * a.length ≤ 16777216 then .ok (.str (Txt.join a ys)) S else .bad
      | none => .bad)
    | none => .bad
def eJoin (fo f : En → Store → Out Val) : En → Store → Out Val := fun env S => (fo env S).bind fun x S1 => match x with
  | .str a => (f env S1).bind (kJoin a)
  | _ => .bad
theorem se_join (ho : SE X Y W o fo) (he : SE X Y W e f) (hs : starEach [e] X.env = [(false, eval e X.env)] := by rfl) (hbase : attributeBase o "join" X.env (eval o X.env) = eval o X.env := by rfl) (hline : (apos.endLine == pos.line) = true := by rfl) :
    SE X Y W (.Call (.Attribute o "join" apos) [e] [] pos) (eJoin fo f) := by
  refine PE.imp (pe_join ho he hs hbase hline) fun σ H Q h => ?_
  refine tG.bind (k := fun env x S1 => match x with
    | .str a => (f env S1).bind (kJoin a)
    | _ => .bad) h fun ρ env v x H1 S1 he hs rx hp => ?_
  cases rx <;> try (exact hp.elim)
  rename_i a
  refine ⟨⟨a, rfl⟩, ?_⟩
  refine tG.go he hs hp fun ρ2 w y H2 S2 p2 e2 he2 hs2 ry hp2 => ?_
  simp only [kJoin] at hp2
  split at hp2
  · rename_i xs ex
    split at hp2
    · rename_i ys ey
      split at hp2
      · rename_i hz
        obtain ⟨q, vs, rfl, hq, r⟩ := itemsOf_rep hs2 ry ex
        have := strsOf_rep r ey
        subst this
        exact ⟨a, q, ys, rfl, rfl, hq, hz, hp2 _ ρ2 H2 (Pre.refl _) (Ext.refl _) hs2 (.str _)⟩
      · exact hp2.elim
    · exact hp2.elim
  · exact hp2.elim
/-! ### constants that are tuples -/
/-- the module's name x is a tuple of None, truth values, ints, texts -/
def TupK (K : PySem.W.Frag) (mg : Str → Option Value) (x : Str) (cs : List Val) : Prop :=
  ∃ (a : Addr) (vs : List V) (o : Obj) (its : Array Value) (n : Nat), mg x = some (.ref a) ∧ K.lookup a = some o ∧ o.cls = .type "tuple" ∧ o.dict = none ∧ o.data = .seq its n ∧ its.size ≤ sizeLine ∧ Vals vs its.toList ∧ (∀ ρ H, Reps K ρ H vs cs) ∧ vs.all flatV = true
def kIxK (cs : List Val) : Val → Store → Out Val
  | .int i, S => (match atI cs i with
    | some c => .ok c S
    | none => .bad)
  | _, _ => .bad
def eIxK (cs : List Val) (f : En → Store → Out Val) : En → Store → Out Val := fun env S => (f env S).bind (kIxK cs)
theorem se_ixK {cs : List Val} (T : TupK X.K X.mg x cs) (hg : Gl X x) (hb : SE X Y W b fb) (hp : PlainIx b := by exact fun _ _ => rfl) (hd : (x == ("__debug__" : Str)) = false := by decide +kernel) : SE X Y W (.Subscript (.Name x p) b pos) (eIxK cs fb) := by
  obtain ⟨a, vs, o, its, n, hm, hK, hc, hdn, hdt, hz, rv, rp, fl⟩ := T
  refine PE.imp (pe_ix ix_tup (L2.pe_glob (v := .ref a) hg hm rfl hd) hb hp) fun σ H Q h => ?_
  refine tG.bind (k := fun _ => kIxK cs) h fun ρ env v x H1 S1 he hs rx hp => ?_
  cases rx <;> try (exact hp.elim)
  rename_i i
  simp only [kIxK] at hp
  split at hp
  · rename_i c ec
    obtain ⟨u, eu, ru⟩ := (rp ρ H1).atI ec
    exact ⟨a, vs, i, u, rfl, rfl, .inr ⟨o, its, n, hK, hc, hdt, hz, rv⟩, eu, hp _ ρ H1 (Pre.refl _) (Ext.refl _) hs ru⟩
  · exact hp.elim
/-- t.index(x), the place of the first equal item; flat items -/
def rIndexT (K : PySem.W.Frag) : V → List V → Hp → VK → Prop := fun x xs H Q => ∃ (a : Addr) (ys : List V) (y : V) (j : Nat) (z : V), x = V.ref a ∧ xs = [y] ∧ SqT K H a ys ∧ flatV y = true ∧ ys.all flatV = true ∧ ys[j]? = some z ∧ eqV z y = true ∧
  (∀ (m : Nat) (z' : V), m < j → ys[m]? = some z' → eqV z' y = false) ∧ Q (.int (j : Nat)) H
theorem mt_indexT : MtR X "tuple.index" (rIndexT X.K) := by
  intro pins s σ H x xs v us Q I rx rxs h
  obtain ⟨a, ys, y, j, z, rfl, rfl, hs, fy, fys, hz, hzj, hno, q⟩ := h
  cases rx
  cases rxs with
  | cons ry rt =>
    rename_i uy ut
    cases rt
    obtain ⟨its, rv, pl, hlen⟩ := I.tuple hs
    obtain ⟨⟨cls, dd, data, sl⟩, ho, hc, n, hd⟩ := pl
    simp only at hc hd
    subst hc hd
    obtain ⟨u, hu, ru⟩ := rv.get hz
    obtain ⟨hjl, hje⟩ := List.getElem?_eq_some_iff.mp hu
    have hvl := rv.length
    have hj : j < its.toArray.size := by simpa using hjl
    refine call_meets PySem.F.slot_tuple_index ⟨_, ho, rfl⟩ PySem.F.entry_tuple_index (PySem.F.args_tuple_index_2 _ _)
      (TI.tuple_indexAt a its.toArray n dd sl uy (eqU y) j hj ?_ ?_) ⟨ho, fun u' hu' => mem_eqAt ry fy rv fys u' (by simpa using hu'), ⟨.int (j : Nat), H, I.tok _, ⟨_, rfl⟩, q⟩⟩
    · have e1 : its.toArray[j] = u := by simpa using hje
      rw [e1, eqU_of ru (flat_at fys hz)]
      exact hzj
    · intro m hm hmj
      have hml : m < its.length := by simpa using hm
      have hmy : m < ys.length := by omega
      have hy' : ys[m]? = some ys[m] := List.getElem?_eq_getElem hmy
      obtain ⟨u2, hu2, ru2⟩ := rv.get hy'
      obtain ⟨_, hme⟩ := List.getElem?_eq_some_iff.mp hu2
      have e1 : its.toArray[m] = u2 := by simpa using hme
      rw [e1, eqU_of ru2 (flat_at fys hy')]
      exact hno m _ hmj hy'
def toF : Val → Option V
  | .non => some .non
  | .bl b => some (.bl b)
  | .int i => some (.int i)
  | .str z => some (.str z)
  | _ => none
theorem toF_rep {K : PySem.W.Frag} {ρ : List Addr} {H : Hp} {v y : V} {x : Val} (r : Rep K ρ H v x) (h : toF x = some y) : v = y ∧ flatV v = true := by
  cases r <;> cases h <;> exact ⟨rfl, rfl⟩
theorem toF_flat {K : PySem.W.Frag} {ρ : List Addr} {H : Hp} {v : V} {x : Val} (r : Rep K ρ H v x) (h : flatV v = true) : toF x = some v := by
  cases r <;> first | rfl | cases h
def eqF (c v : Val) : Bool := match toF c, toF v with
  | some z, some y => eqV z y
  | _, _ => false
def kIndexK (cs : List Val) : List Val → Store → Out Val
  | [v], S => (match toF v with
    | some _ => (match cs.findIdx? (fun c => eqF c v) with
      | some j => .ok (.int (j : Nat)) S
      | none => .bad)
    | none => .bad)
  | _, _ => .bad
def eIndexK (cs : List Val) (ga : En → Store → Out (List Val)) : En → Store → Out Val := fun env S => (ga env S).bind (kIndexK cs)
theorem Reps.get2 {K : PySem.W.Frag} {ρ : List Addr} {H : Hp} : ∀ {vs : List V} {xs : List Val} {i : Nat} {v : V}, Reps K ρ H vs xs → vs[i]? = some v → ∃ x, xs[i]? = some x ∧ Rep K ρ H v x
  | _, _, _, _, .nil, e => by simp at e
  | _, _, 0, _, .cons r _, e => by simp at e; subst e; exact ⟨_, rfl, r⟩
  | _, _, i + 1, _, .cons _ t, e => by simpa using Reps.get2 t (by simpa using e)
theorem se_indexK {cs : List Val} (T : TupK X.K X.mg x cs) (hg : Gl X x) (ha : SA X Y W (e :: es) ga) (hbase : attributeBase (.Name x p) "index" X.env (eval (.Name x p) X.env) = eval (.Name x p) X.env := by rfl)
    (hfew : ((backTo cpos (starEach (e :: es) X.env)).all (fun x => !x.1) && (backToKw cpos (keywordEach [] X.env)).all (fun x => x.1.isSome)
      && decide ((e :: es).length + ([] : List Keyword).length + (if ([] : List Keyword).isEmpty then 0 else 1) < 30)) = true := by rfl)
    (hline : (apos.endLine == cpos.line) = true := by rfl) (hs : starEach (e :: es) X.env = (false, eval e X.env) :: starEach es X.env := by rfl) (hplain : (backTo cpos (starEach es X.env)).any (·.1) = false := by rfl) (hd : (x == ("__debug__" : Str)) = false := by decide +kernel) :
    SE X Y W (.Call (.Attribute (.Name x p) "index" apos) (e :: es) [] cpos) (eIndexK cs ga) := by
  obtain ⟨a, vs, o, its, n, hm, hK, hc, hdn, hdt, hz, rv, rp, fl⟩ := T
  refine PE.imp (pe_bm PySem.F.plainAttrs_tuple PySem.F.slot_tuple_index PySem.F.type_tuple_index mt_indexT (L2.pe_glob (v := .ref a) hg hm rfl hd) ha hbase hfew hline hs hplain) fun σ H Q h => ?_
  refine ⟨.inr (.inl ⟨rfl, o, hK, hc, hdn⟩), ?_⟩
  refine tG.bind (k := fun _ => kIndexK cs) h fun ρ env ws ys H1 S1 he hs rx hp => ?_
  cases rx with
  | nil => exact hp.elim
  | cons r t =>
    cases t with
    | cons _ _ => exact hp.elim
    | nil =>
      rename_i v y
      simp only [kIndexK] at hp
      split at hp
      · rename_i y' ey
        obtain ⟨rfl, fy⟩ := toF_rep r ey
        split at hp
        · rename_i j ej
          obtain ⟨hj, h1, h2⟩ := List.findIdx?_eq_some_iff_getElem.mp ej
          have hr := rp ρ H1
          have hl := hr.length
          have hjv : j < vs.length := by omega
          have ev : vs[j]? = some vs[j] := List.getElem?_eq_getElem hjv
          have fl1 : ∀ (m : Nat) (w : V), vs[m]? = some w → flatV w = true := fun m w hw => List.all_eq_true.mp fl w (List.mem_of_getElem? hw)
          have at' : ∀ (m : Nat) (w : V) (hm : m < cs.length), vs[m]? = some w → eqF cs[m] y = eqV w v := fun m w hm hw => by
            obtain ⟨c, ec, rc⟩ := hr.get2 hw
            obtain ⟨_, ec2⟩ := List.getElem?_eq_some_iff.mp ec
            unfold eqF
            rw [ec2, toF_flat rc (fl1 m w hw), ey]
          refine ⟨a, vs, v, j, vs[j], rfl, rfl, .inr ⟨o, its, n, hK, hc, hdt, hz, rv⟩, fy, fl, ev, ?_, fun m w hm hw => ?_, hp _ ρ H1 (Pre.refl _) (Ext.refl _) hs (.int _)⟩
          · rw [← at' j _ hj ev]; exact h1
          · have hmc : m < cs.length := Nat.lt_trans hm hj
            rw [← at' m w hmc hw]
            have := h2 m hm
            simpa using this
        · exact hp.elim
      · exact hp.elim
/-! ### the flag -/
def reV : Value → Option V
  | .none => some .non
  | .bool b => some (.bl b)
  | .int i _ => some (.int i)
  | .str x _ => some (.str x)
  | _ => none
def reA (u : Value) (c : Val) : Bool := match u, c with
  | .none, .non => true
  | .bool b, .bl b' => decide (b = b')
  | .int i _, .int j => decide (i = j)
  | .str x _, .str y => decide (x = y)
  | _, _ => false
def reAs : List Value → List Val → Bool
  | [], [] => true
  | u :: us, c :: cs => reA u c && reAs us cs
  | _, _ => false
def tupKB (x : Str) (cs : List Val) : FB := fun K => (He.Fa.glo x).ok K && (match K.lookup (He.ga K x) with
  | some ⟨.type "tuple", none, .seq its _, _⟩ => decide (its.size ≤ 4096) && reAs its.toList cs
  | _ => false)
theorem reAs_of {K : PySem.W.Frag} : ∀ {us : List Value} {cs : List Val}, reAs us cs = true → ∃ vs, Vals vs us ∧ (∀ ρ H, Reps K ρ H vs cs) ∧ vs.all flatV = true
  | [], [], _ => ⟨[], .nil, fun _ _ => .nil, rfl⟩
  | [], _ :: _, h => nomatch h
  | _ :: _, [], h => nomatch h
  | u :: us, c :: cs, h => by
    obtain ⟨h1, h2⟩ := both (show (reA u c && reAs us cs) = true from h)
    obtain ⟨vs, a, b, d⟩ := reAs_of (K := K) h2
    have : ∃ v, RelV v u ∧ (∀ ρ H, Rep K ρ H v c) ∧ flatV v = true := by
      unfold reA at h1
      split at h1
      · exact ⟨.non, rfl, fun _ _ => .non, rfl⟩
      · exact ⟨.bl _, rfl, fun _ _ => by rw [of_decide_eq_true h1]; exact .bl _, rfl⟩
      · exact ⟨.int _, ⟨_, rfl⟩, fun _ _ => by rw [of_decide_eq_true h1]; exact .int _, rfl⟩
      · exact ⟨.str _, ⟨_, rfl⟩, fun _ _ => by rw [of_decide_eq_true h1]; exact .str _, rfl⟩
      · cases h1
    obtain ⟨v, r, r2, f⟩ := this
    exact ⟨v :: vs, .cons r a, fun ρ H => .cons (r2 ρ H) (b ρ H), by rw [List.all_cons, f, d]; rfl⟩
theorem tupK_of {x : Str} {cs : List Val} {K : PySem.W.Frag} {h : Heap} {mg : Str → Option Value} (KX : K.In h) (G : h.Ns mainGlobals mg) (c : tupKB x cs K = true) : TupK K mg x cs := by
  obtain ⟨h1, h2⟩ := both c
  have hm := He.glo_ok KX G h1
  split at h2
  · rename_i its n sl e
    obtain ⟨h3, h4⟩ := both h2
    obtain ⟨vs, a, b, d⟩ := reAs_of (K := K) h4
    exact ⟨_, vs, _, its, n, hm, e, rfl, rfl, rfl, Nat.le_trans (of_decide_eq_true h3) (by decide), a, b, d⟩
  · cases h2
end
theorem MeAt.none {P : Program} {w : World} {K : PySem.W.Frag} {mg : Str → Option Value} {base : Heap} {Y : Sy} {c m qual : Str} {st : Stmt} {C f : Addr} {fd : FuncData} {ps : List Str} {k n : Nat} (F : FunS K m qual st f fd) (hc : Y.cl c = some C) (mt : Meth K C m f) (hb : BindsS m qual st ps) (hn : ps.length = n) : MeAt P w K mg base Y k n c m fun _ _ => .bad :=
  ⟨⟨C, f, fd, ps, hc, mt, ⟨fun vs H Q E h => h.1.trans hn.symm, fun A outer s H args us vs Q E _ _ _ _ h => by obtain ⟨_, ρ, xs, S, _, _, h⟩ := h; exact h.elim⟩, F.fun.binds hb⟩, fun _ _ _ => rfl⟩
end Mp

set_option Elab.async false
set_option linter.all false
set_option maxRecDepth 100000
set_option maxHeartbeats 1000000
/-! words for Mp47 to Mp49 -/
namespace Mp
open PySem PySem.Spec PyProof.Rows L2
section
variable {S : Store} {E : XO} {P : Val → Store → Prop} {PI : Itm → Store → Prop} {i j : Int} {n : Nat} {xs ys cs : List Val} {v x y : Val} {env : En} {f fo : En → Store → Out Val} {ga : En → Store → Out (List Val)} {z a : Str}
theorem bitAnd_mask (i : Int) (k : Nat) : Builtin.bitAnd i (2 ^ k - 1) = i % 2 ^ k := PySem.W.kbt_mask i k
@[simp] theorem wO_and127 : wO (vAnd (.int i) (.int 127) S) P E = P (.int (i % 128)) S := by
  show P (.int (Builtin.bitAnd i 127)) S = _
  rw [show (127 : Int) = 2 ^ 7 - 1 from rfl, bitAnd_mask]; rfl
@[simp] theorem wO_and255 : wO (vAnd (.int i) (.int 255) S) P E = P (.int (i % 256)) S := by
  show P (.int (Builtin.bitAnd i 255)) S = _
  rw [show (255 : Int) = 2 ^ 8 - 1 from rfl, bitAnd_mask]; rfl
@[simp] theorem wO_shr7 : wO (vShr (.int i) (.int 7) S) P E = P (.int (i / 128)) S := by
  unfold vShr; rw [wO_vIC]; simp
theorem wO_shrN {k : Nat} : wO (vShr (.int i) (.int (k : Int)) S) P E = P (.int (i / 2 ^ k)) S := by
  unfold vShr; rw [wO_vIC]; simp
theorem wO_shl7 {m : Nat} (h : i.natAbs < 2 ^ m) (hm : m ≤ 1000000) : wO (vShl (.int i) (.int 7) S) P E = P (.int (i * 128)) S := by
  have this : CShl i 7 := shl_ok (i := i) (j := 7) (n := m) h (by omega)
  have e : (2 : Int) ^ (7 : Int).toNat = 128 := by decide
  simp only [vShl, vIC]
  rw [if_pos this, e]
  rfl
@[simp] theorem wO_ord : wO (fOrd [.str ⟨#[n]⟩] S) P E = P (.int (n : Int)) S := rfl
@[simp] theorem wO_abs : wO (fAbs [.int i] S) P E = P (.int (if i < 0 then -i else i)) S := rfl
theorem wO_repr (h : i.natAbs.log2 < 1920) : wO (fRepr [.int i] S) P E = P (.str (toString i)) S := by
  simp only [fRepr]; rw [if_pos h]; rfl
@[simp] theorem wO_revT : wO (eRevT f env S) P E = wO (f env S) (fun v S1 => wO (kRevT v S1) P E) E := wO_bind
@[simp] theorem wO_kRevT : wO (kRevT (.tup xs) S) P E = P (.tup xs.reverse) S := rfl
@[simp] theorem wO_iStrS : wO (iStrS f env S) PI E = wO (f env S) (fun v S1 => wO (kStr v S1) PI E) E := wO_bind
@[simp] theorem wO_kStr : wO (kStr (.str z) S) PI E = PI (chL z, fun _ => True) S := rfl
@[simp] theorem wO_eJoin : wO (eJoin fo f env S) P E = wO (fo env S) (fun x S1 => match x with
  | .str a => wO (f env S1) (fun y S2 => wO (kJoin a y S2) P E) E
  | _ => False) E := wO_bind.trans (wO_ext fun x S1 => by cases x <;> first | rfl | exact wO_bind)
theorem wO_kJoinR {zs : List Str} (h : S[n]? = some (.lst (zs.map .str))) (hz : (zs.map (·.length)).sum + zs.length * a.length ≤ 16777216) : wO (kJoin a (.ref n) S) P E = P (.str (Txt.join a zs)) S := by
  have e : strsOf (zs.map Val.str) = some zs := by
    clear h hz
    induction zs with
    | nil => rfl
    | cons c r ih => simp only [List.map_cons, strsOf, ih, Option.map_some]
  unfold kJoin
  have e2 : itemsOf S (.ref n) = some (zs.map Val.str) := by simp only [itemsOf, getL, h]
  rw [e2]
  simp only [e]
  rw [if_pos hz]
  rfl
@[simp] theorem wO_eIxK : wO (eIxK cs f env S) P E = wO (f env S) (fun v S1 => wO (kIxK cs v S1) P E) E := wO_bind
@[simp] theorem wO_kIxK : wO (kIxK cs (.int i) S) P E = wP (atI cs i) fun c => P c S := by
  simp only [kIxK]; cases atI cs i <;> rfl
@[simp] theorem wO_eIndexK : wO (eIndexK cs ga env S) P E = wO (ga env S) (fun v S1 => wO (kIndexK cs v S1) P E) E := wO_bind
@[simp] theorem wO_ixS : wO (vIxS (.str z) (.int i) S) P E = (z.length ≤ LIM ∧ wP (atI z.cps.toList i) fun c => P (.str ⟨#[c]⟩) S) := by
  unfold vIxS
  by_cases h : z.length ≤ LIM
  · simp only [if_pos h]
    cases atI z.cps.toList i <;> simp [h]
  · simp [h]
theorem wO_lcRI {ck : Store → Prop} {t : Tgt} {el : En → Store → Out Val} (xs : List Val) (I : Nat → List Val → Store → Prop) {acc : List Val} (h0 : I 0 acc S)
    (hs : ∀ i x acc S, xs[i]? = some x → I i acc S → ck S ∧ ∃ e, t x env = some e ∧ wO (el e S) (fun y S2 => S2[n]? = some (.lst acc) ∧ acc.length < LIM ∧ I (i + 1) (acc ++ [y]) (S2.set n (.lst (acc ++ [y])))) E)
    (hn : ∀ acc S, I xs.length acc S → ck S ∧ P (.ref n) S) : wO (lcXR ck t el n env xs acc S) P E := by
  induction xs generalizing acc S I with
  | nil =>
    obtain ⟨h1, h2⟩ := hn acc S h0
    simp only [lcXR, if_pos h1]
    exact h2
  | cons x r ih =>
    obtain ⟨h1, e, h2, h3⟩ := hs 0 x acc S rfl h0
    simp only [lcXR, if_pos h1, h2]
    rw [wO_bind]
    refine h3.mono (fun y S2 q => ?_) fun _ _ _ q => q
    obtain ⟨q1, q2, q3⟩ := q
    rw [if_pos ⟨q1, q2⟩]
    exact ih (fun i => I (i + 1)) q3 (fun i x acc S hx hI => hs (i + 1) x acc S (by simpa using hx) hI) hn
@[simp] theorem wO_eLcR {fi : En → Store → Out Itm} {t : Tgt} {el : En → Store → Out Val} {vs : List Nat} : wO (eLcR fi t el vs env S) P E = wO (fi env S) (fun p S1 => wO (lcXR p.2 t el S1.length (wipeE env vs) p.1 [] (S1 ++ [.lst []])) P E) E := wO_bind
end
end Mp

set_option Elab.async false
set_option linter.all false
set_option maxRecDepth 100000
set_option maxHeartbeats 1000000
/-! i * j of wide numbers -/
namespace Mp
open PySem PySem.Spec PyProof.Rows L2
def CMw (i j : Int) : Prop := (∃ a : Nat, 0 < a ∧ a ≤ 900000 ∧ i.natAbs < 2 ^ a) ∧ j.natAbs < 2 ^ 64
noncomputable def vMulW : BOp := @vIC CMw (fun _ _ => Classical.propDecidable _) fun i j => i * j
section
variable {X : Cx} {Y : Sy} {W : WX} {a b : Expr} {fa fb : En → Store → Out Val} {pos : Pos}
theorem se_mulW (ha : SE X Y W a fa) (hb : SE X Y W b fb) : SE X Y W (.BinOp a .Mult b pos) (eB2 vMulW fa fb) := se_op op_mulW (@vIC_ok _ _ CMw CMulW (fun _ _ => Classical.propDecidable _) _ fun i j h => by
  obtain ⟨⟨n, h0, h1, h2⟩, h3⟩ := h
  exact wide_mul (a := n) (b := 64) h2 h3 h0 (by decide) (by omega)) ha hb
end
theorem wO_mulW {S : Store} {i j : Int} {P : Val → Store → Prop} {E : XO} {n : Nat} (h0 : 0 < n) (h1 : n ≤ 900000) (h2 : i.natAbs < 2 ^ n) (h3 : j.natAbs < 2 ^ 64) : wO (vMulW (.int i) (.int j) S) P E = P (.int (i * j)) S := by
  have this : CMw i j := ⟨⟨n, h0, h1, h2⟩, h3⟩
  simp only [vMulW, vIC]
  rw [if_pos this]
  rfl
end Mp

set_option Elab.async false
set_option linter.all false
set_option maxRecDepth 100000
set_option maxHeartbeats 4000000
/-! isinstance(e, C) of a caught error e, with fields or without. -/
namespace Mp
open PySem PySem.Spec PySem.Calls PyProof.Rows L2
section
variable {pr : Program} {w : World} {A : Around} {E : Value → Shared → Prop} {K : PySem.W.Frag} {x D : Addr} {ox : Obj} {od : Option Obj} {hp : Heap} {g : Array GenState} {dr : Drawn} {tk : Nat} {q : OsState}
/-- what find tells of the class's name for itself -/
theorem exc_find (C : ExcC K D) : PySem.W.findObj K D od "__class__" = some (.bind (.builtin "getset_descriptor.__get__") (.builtin "object.__class__")) := by
  obtain ⟨cd, h1, h2⟩ := PySem.W.any_some C.hd
  simp only [PySem.W.findObj, h1, C.ha, C.hn, C.ht, Option.bind_some]
/-- object.__getattribute__ asked for it -/
theorem exc_obj (C : ExcC K D) (X : K.In hp) (I : PySem.W.InstAt hp x ox D od) {t : Tok} {n : Nat} {P : Fin → Shared → Prop} (k : P (.done (.ret (.ref D))) ⟨hp, g, dr, n, q⟩) :
    wpAny (model pr w) A (Builtin.«object.__getattribute__» ⟨[.ref x, .str "__class__" t], []⟩) P E ⟨hp, g, dr, n, q⟩ := by
  have a1 := I.type (M := model pr w)
  have a2 := PySem.W.looks_find (M := model pr w) X I (exc_find C)
  have a3 : wpAny (model pr w) A (call (.builtin "getset_descriptor.__get__") [.builtin "object.__class__", .ref x, .ref D]) (fun v s' => P (.done (.ret v)) s') E ⟨hp, g, dr, n, q⟩ :=
    wpAny_call (PySem.W.class_get (s := ⟨hp, g, dr, n, q⟩) (ox := ox) (od := od) X I C.hm k)
  unfold Builtin.«object.__getattribute__»
  refine wpAny_bind (wpAny_of_eq (a := ((Value.ref x : Value), [Value.str "__class__" t])) (by first | rfl | (simp only [slotArgs]; rfl)) ?_)
  refine wpAny_bind (wpAny_pure ?_)
  refine wpAny_bind (a1.at (wpAny_bind (a2.at ?_)))
  refine wpAny_bind (wpAny_holding (wpAny_mono a3 (fun v s' z => ?_) fun _ _ z => z))
  exact wpAny_pure z
/-- BaseException.__getattribute__ called -/
theorem exc_slot (C : ExcC K D) (X : K.In hp) (I : PySem.W.InstAt hp x ox D od) {t : Tok} {n : Nat} {P : Value → Shared → Prop} (k : P (.ref D) ⟨hp, g, dr, n, q⟩) :
    wpAny (model pr w) A (call (.builtin "BaseException.__getattribute__") [.ref x, .str "__class__" t]) P E ⟨hp, g, dr, n, q⟩ := by
  have a1 := I.type (M := model pr w)
  have b3 : PySem.W.Looks (model pr w) hp (isInstance (.ref x) (.type "BaseException")) true := a1.andThen (PySem.W.looks_subIn X C.hs)
  refine wpAny_call ?_
  refine codeAny_call_builtin PySem.F.excAttr_ValueError.ga.plain PySem.F.entry_bexc_ga ?_
  exact @PySem.W.check_slot (model pr w) _ _ ⟨hp, g, dr, n, q⟩ "BaseException.__getattribute__" "BaseException" "__getattribute__" (.ref x) [.str "__class__" t] [] _ (by decide +kernel) (by decide +kernel) b3 (PySem.F.args_bexc_ga (.ref x) (.str "__class__" t))
    (exc_obj C X I k)
theorem exc_own (C : ExcC K D) (X : K.In hp) (I : PySem.W.InstAt hp x ox D od) {t : Tok} {n : Nat} {P : Value → Shared → Prop} (k : P (.ref D) ⟨hp, g, dr, n, q⟩) :
    wpAny (model pr w) A (getAttrByItsOwn (.ref x) (.str "__class__" t) (.ref D) (.builtin "BaseException.__getattribute__") false false) P E ⟨hp, g, dr, n, q⟩ := by
  have b2 := PySem.W.looks_findIn (M := model pr w) X C.hk
  have on : onTheHeap (Value.ref D) = true := rfl
  unfold getAttrByItsOwn
  unfold hookBefore
  rw [if_pos on]
  refine wpAny_bind (b2.at ?_)
  unfold callGetattribute
  rw [if_neg (by simp)]
  unfold boundAndCalled
  rw [PySem.F.excAttr_ValueError.ga.bind (.ref x)]
  refine wpAny_bind ?_
  refine wpAny_attempt ?_
  refine wpAny_holding ?_
  refine wpAny_bind (wpAny_pure ?_)
  refine exc_slot C X I ?_
  dsimp only
  rw [PySem.W.handedOut_of (v := .ref D) rfl]
  exact wpAny_pure k
/-- e.__class__ -/
theorem exc_cls (C : ExcC K D) {R : Option Value → Shared → Prop} (X : K.In hp) (I : PySem.W.InstAt hp x ox D od) (k : R (some (.ref D)) ⟨hp, g, dr, tk + 1, q⟩) :
    wpAny (model pr w) A (getAttr? (.ref x) "__class__") R E ⟨hp, g, dr, tk, q⟩ := by
  have a1 := I.type (M := model pr w)
  have b1 := PySem.W.looks_findIn (M := model pr w) X C.hg
  have ne : (Value.builtin "BaseException.__getattribute__" == Value.builtin "object.__getattribute__") = false := by decide +kernel
  unfold getAttr?
  unfold getAttrBy?
  unfold getAttrBy
  refine wpAny_bind ?_
  refine wpAny_mkText ?_
  refine wpAny_bind ?_
  refine wpAny_attempt ?_
  refine wpAny_holding ?_
  refine wpAny_bind (a1.at ?_)
  refine wpAny_bind (b1.at ?_)
  dsimp only
  rw [if_neg (by rw [ne]; simp)]
  exact exc_own C X I (wpAny_pure k)
theorem exc_load (C : ExcC K D) {h : Heap} (X : K.In h) : ∃ c d cd sl, h.get? D = some ⟨c, d, .cls cd, sl⟩ := by
  obtain ⟨cd, h1, _⟩ := PySem.W.any_some C.hd
  unfold PySem.W.clsIn at h1
  split at h1
  · rename_i c d cd' sl e
    exact ⟨c, d, cd', sl, X _ _ e⟩
  · cases h1
theorem exc_kit (C : ExcC K D) : PySem.W.KitX K (.ref x) (.ref D) (fun h => ∃ od, PySem.W.InstAt h x ox D od) := by
  refine ⟨fun M h X ⟨od, I⟩ => I.type, fun M h X ⟨od, I⟩ => ?_, fun h tp dd its n sl X e => ?_, fun X ⟨od, I⟩ k => exc_cls C X I k⟩
  · obtain ⟨c, d, cd, sl, e⟩ := exc_load C X
    intro A' R' E' s' y k
    unfold isType
    unfold loadHead
    exact wpAny_bind (wpAny_loadPart (y _ _ e) (wpAny_pure k))
  · obtain ⟨c, d, cd, sl', e2⟩ := exc_load C X
    refine Bool.eq_false_iff.mpr fun z => ?_
    have y : D = tp := Value.ref.inj (beq_iff_eq.mp z)
    rw [← y, e2] at e
    cases e
/-- isinstance(e, c), e the caught error, perhaps with fields -/
def rIsX (K : PySem.W.Frag) (D a : Addr) (d : Option Addr) : List V → Hp → VK → Prop := fun xs H Q => ∃ (c : V) (cv : Value) (b : Bool), xs = [.ref a, c] ∧ ClsV c cv ∧ PySem.W.kitOne K (.ref D) cv = some b ∧ (d = none ∨ ∃ dd gs, d = some dd ∧ H dd = some (.xd gs)) ∧ Q (.bl b) H
theorem call_isX {X : Cx} {a D : Addr} {oe : Obj} {d : Option Addr} {pn : List (Addr × Obj)} (C : ExcC X.K D) (hz : Zc (.ref D) d oe) (hf : ∃ vs, oe.data = .fields vs) : CallR (X.suite a ((a, oe) :: pn)) (.builtin "isinstance") (rIsX X.K D a d) := by
  intro pins s σ H xs us Q I r h
  obtain ⟨c, cv, b, rfl, hcv, e, hd, k⟩ := h
  match us, r with
  | [u1, u2], .cons r1 (.cons r2 .nil) =>
    obtain rfl : u1 = Value.ref a := r1
    obtain rfl : u2 = cv := hcv.eq r2
    have at_ := (I.pin (a, oe) (List.mem_append_left _ List.mem_cons_self)).1
    obtain ⟨vs, hv⟩ := hf
    obtain ⟨z1, z2⟩ := hz
    have J : ∃ od, PySem.W.InstAt s.heap a oe D od := by
      rcases hd with rfl | ⟨dd, gs, rfl, h1⟩
      · refine ⟨none, at_, z1, by simp only [PySem.W.notCls, hv], by rw [z2]; trivial⟩
      · obtain ⟨mA, ⟨o1, es, ep, e1, c1⟩, _⟩ := (show ObjOk X.prog X.w H s.heap dd (.xd gs) from I.hok dd _ h1)
        refine ⟨some o1, at_, z1, by simp only [PySem.W.notCls, hv], ?_⟩
        rw [z2]
        exact e1
    exact PySem.W.kia_one (exc_kit C) I.kIn J e (by simp) fun tk => ⟨.bl b, H, I.kept (t' := tk) fun _ _ z => z, rfl, k⟩
end
/-! ### the rule -/
structure IsEAt (K : PySem.W.Frag) (mg : Str → Option Value) (Y : Sy) (c : Str) (m : Str → Bool) : Prop where
  ex : ∃ C, mg c = some (.ref C) ∧ ∀ q cls, Y.er q = some cls → ∃ D, cls = .ref D ∧ ExcC K D ∧ PySem.W.kitOne K (.ref D) (.ref C) = some (m q)
structure IsETy (K : PySem.W.Frag) (Y : Sy) (T : String) (m : Str → Bool) : Prop where
  ex : ∀ q cls, Y.er q = some cls → ∃ D, cls = .ref D ∧ ExcC K D ∧ PySem.W.kitOne K (.ref D) (.type T) = some (m q)
section
variable {X : Cx} {Y : Sy} {W : WX} {i : Nat} {nm c : Str} {a : Addr} {oe : Obj} {cls : Value} {d : Option Addr} {pn : List (Addr × Obj)} {fs : List (Str × Val)} {m : Str → Bool} {q : Str} {p p1 p2 pos : Pos}
theorem sx_isE (F : IsEAt X.K X.mg Y c m) (hq : Y.er q = some cls) (hz : Zc cls d oe) (hf : ∃ vs, oe.data = .fields vs) (hg : Gl X "isinstance") (hm : X.mg "isinstance" = none) (hg2 : Gl X c)
    (hN : X.N[i]? = some nm) (hv : X.env.scope.names.lookup nm = some .local) (hdc : (c == ("__debug__" : Str)) = false := by decide) (hd : (nm == ("__debug__" : Str)) = false := by decide) (hcd : (nm == ("__classdict__" : Str)) = false := by decide)
    (he : starEach [.Name nm p1, .Name c p2] X.env = (false, eval (.Name nm p1) X.env) :: starEach [.Name c p2] X.env := by rfl) (hpl : (backTo pos (starEach [.Name c p2] X.env)).any (·.1) = false := by rfl) (h2 : starEach [.Name c p2] X.env = (false, eval (.Name c p2) X.env) :: starEach [] X.env := by rfl) :
    SE (X.suite a ((a, oe) :: pn)) { Y with xi := some (i, a, cls, d, fs) } W (.Call (.Name "isinstance" p) [.Name nm p1, .Name c p2] [] pos) (eC (.bl (m q))) := by
  obtain ⟨C, hmc, hF⟩ := F.ex
  obtain ⟨D, rfl, hC, hk⟩ := hF q cls hq
  refine PE.imp (pe_callB (X := X.suite a ((a, oe) :: pn)) (call_isX hC hz hf) hg hm (by decide +kernel) (pa_cons (pe_var (i := i) hN (.inl hv) hd hcd) (pa_cons (pe_glob hg2 hmc hdc) pa_nil h2) he) (he := he) (hpl := hpl)) fun σ H Q h => ?_
  obtain ⟨ρ, env, S, he', hs, h⟩ := h
  obtain ⟨h1, h3⟩ := he'.xi i a (.ref D) d fs rfl
  refine ⟨.ref a, h1, .ref C, .ref C, m q, rfl, .own C, hk, ?_, h (.bl (m q)) ρ H (Pre.refl _) (Ext.refl _) hs (.bl _)⟩
  rcases h3 with ⟨_, rfl⟩ | ⟨dd, gs, rfl, e1, _⟩
  · exact .inl rfl
  · exact .inr ⟨dd, gs, rfl, e1⟩
theorem sx_isET {T : String} (F : IsETy X.K Y T m) (hq : Y.er q = some cls) (hz : Zc cls d oe) (hf : ∃ vs, oe.data = .fields vs) (hg : Gl X "isinstance") (hm : X.mg "isinstance" = none) (hg2 : Gl X c) (hm2 : X.mg c = none) (hb : bootBuiltins c = some (.type T))
    (hN : X.N[i]? = some nm) (hv : X.env.scope.names.lookup nm = some .local) (hn : c ≠ "__name__" := by decide) (hdc : (c == ("__debug__" : Str)) = false := by decide) (hd : (nm == ("__debug__" : Str)) = false := by decide) (hcd : (nm == ("__classdict__" : Str)) = false := by decide)
    (he : starEach [.Name nm p1, .Name c p2] X.env = (false, eval (.Name nm p1) X.env) :: starEach [.Name c p2] X.env := by rfl) (hpl : (backTo pos (starEach [.Name c p2] X.env)).any (·.1) = false := by rfl) (h2 : starEach [.Name c p2] X.env = (false, eval (.Name c p2) X.env) :: starEach [] X.env := by rfl) :
    SE (X.suite a ((a, oe) :: pn)) { Y with xi := some (i, a, cls, d, fs) } W (.Call (.Name "isinstance" p) [.Name nm p1, .Name c p2] [] pos) (eC (.bl (m q))) := by
  obtain ⟨D, rfl, hC, hk⟩ := F.ex q cls hq
  refine PE.imp (pe_callB (X := X.suite a ((a, oe) :: pn)) (call_isX hC hz hf) hg hm (by decide +kernel) (pa_cons (pe_var (i := i) hN (.inl hv) hd hcd) (pa_cons (pe_bltn (v := .ty T) hg2 hm2 hb rfl hn hdc) pa_nil h2) he) (he := he) (hpl := hpl)) fun σ H Q h => ?_
  obtain ⟨ρ, env, S, he', hs, h⟩ := h
  obtain ⟨h1, h3⟩ := he'.xi i a (.ref D) d fs rfl
  refine ⟨.ref a, h1, .ty T, .type T, m q, rfl, .ty T, hk, ?_, h (.bl (m q)) ρ H (Pre.refl _) (Ext.refl _) hs (.bl _)⟩
  rcases h3 with ⟨_, rfl⟩ | ⟨dd, gs, rfl, e1, _⟩
  · exact .inl rfl
  · exact .inr ⟨dd, gs, rfl, e1⟩
end
/-! ### its flags -/
def excB (q : Str) : FB := fun K => He.eqO (PySem.W.findIn K (.ref (He.ga K q)) "__getattribute__") (some (some (.builtin "BaseException.__getattribute__"))) && (He.eqO (PySem.W.findIn K (.ref (He.ga K q)) "__getattr__") (some none) && (decide (PySem.W.subIn K (.ref (He.ga K q)) (.type "BaseException") = some true) &&
  (PySem.W.hasDictIn K (He.ga K q) && (He.eqO (PySem.W.findIn K (.ref (He.ga K q)) "__class__") (some (some (.builtin "object.__class__"))) && (He.eqO (PySem.W.specialIn K (.builtin "object.__class__") "__get__") (some (some (.builtin "getset_descriptor.__get__"))) &&
  (decide (PySem.W.takesIn K (.builtin "object.__class__") = some true) && decide (PySem.W.mroIn K (He.ga K q) (.type "object") = some true)))))))
theorem exc_of {q : Str} {K : PySem.W.Frag} (h : excB q K = true) : ExcC K (He.ga K q) := by
  obtain ⟨h1, h⟩ := both h
  obtain ⟨h2, h⟩ := both h
  obtain ⟨h3, h⟩ := both h
  obtain ⟨h4, h⟩ := both h
  obtain ⟨h5, h⟩ := both h
  obtain ⟨h6, h⟩ := both h
  obtain ⟨h7, h8⟩ := both h
  exact ⟨He.eqO_ok h1, He.eqO_ok h2, of_decide_eq_true h3, h4, He.eqO_ok h5, He.eqO_ok h6, of_decide_eq_true h7, of_decide_eq_true h8⟩
def iseB (errs : List Str) (c : Str) (m : Str → Bool) : FB := fun K => errs.all fun q => excB q K && decide (PySem.W.kitOne K (.ref (He.ga K q)) (.ref (He.ga K c)) = some (m q))
def isetB (errs : List Str) (T : String) (m : Str → Bool) : FB := fun K => errs.all fun q => excB q K && decide (PySem.W.kitOne K (.ref (He.ga K q)) (.type T) = some (m q))
theorem ise_of {owns errs : List Str} {c : Str} {m : Str → Bool} {K : PySem.W.Frag} {mg : Str → Option Value} (hm : mg c = some (.ref (He.ga K c))) (h : iseB errs c m K = true) : IsEAt K mg (YYg owns errs K) c m := by
  refine ⟨_, hm, fun q cls hq => ?_⟩
  obtain ⟨h1, rfl⟩ := yy_er hq
  obtain ⟨h2, h3⟩ := both (List.all_eq_true.mp h q h1)
  exact ⟨_, rfl, exc_of h2, of_decide_eq_true h3⟩
theorem iset_of {owns errs : List Str} {T : String} {m : Str → Bool} {K : PySem.W.Frag} (h : isetB errs T m K = true) : IsETy K (YYg owns errs K) T m := by
  refine ⟨fun q cls hq => ?_⟩
  obtain ⟨h1, rfl⟩ := yy_er hq
  obtain ⟨h2, h3⟩ := both (List.all_eq_true.mp h q h1)
  exact ⟨_, rfl, exc_of h2, of_decide_eq_true h3⟩
end Mp

set_option Elab.async false
set_option linter.all false
set_option maxRecDepth 100000
set_option maxHeartbeats 1000000
/-! list * int, text * int, text <= text -/
namespace Mp
open PySem PySem.Spec PyProof.Rows L2
/-! ### list * int -/
def vRepL : BOp := fun x y S => match x, y with
  | .ref n, .int k => (match S[n]? with
    | some (.lst xs) => if 0 ≤ k ∧ k ≤ 1000 ∧ xs.length * k.toNat ≤ LIM then .ok (.ref S.length) (S ++ [.lst (List.replicate k.toNat xs).flatten]) else .bad
    | _ => .bad)
  | _, _ => .bad
section
variable {X : Cx} {Y : Sy} {W : WX} {a b : Expr} {fa fb : En → Store → Out Val} {pos : Pos}
theorem len_rep {α : Type} (xs : List α) : ∀ k : Nat, (List.replicate k xs).flatten.length = xs.length * k
  | 0 => by simp
  | k + 1 => by rw [List.replicate_succ, List.flatten_cons, List.length_append, len_rep xs k, Nat.mul_succ]; omega
theorem vRepL_ok : OpS X Y rRep vRepL := by
  intro W' ρ H S v w x y Q hs rx ry h
  unfold vRepL at h
  split at h
  · rename_i n k
    split at h
    · rename_i xs e
      split at h
      · rename_i hc
        obtain ⟨c0, c1, c2⟩ := hc
        cases rx with
        | @ref a _ ha =>
        cases ry
        obtain ⟨a', ha', ws, hw, rw'⟩ := hs.at_ e
        rw [ha] at ha'; cases ha'
        have hl := rw'.length
        refine ⟨a, k, ws, rfl, rfl, hw, by omega, by omega, by rw [hl]; exact lim_le c2, fun p hn => ?_⟩
        exact h _ (ρ ++ [p]) _ (Pre.snoc _ _) (Ext.new hn) (hs.new hn ⟨_, upd_same, (rw'.rep k.toNat).up (Pre.snoc _ _) (Ext.new hn)⟩) (rep_new hs.len.symm)
      · exact h.elim
    · exact h.elim
  · exact h.elim
theorem se_repL (ha : SE X Y W a fa) (hb : SE X Y W b fb) : SE X Y W (.BinOp a .Mult b pos) (eB2 vRepL fa fb) := se_op op_rep vRepL_ok ha hb
/-! ### text * int -/
def repS (z : Str) (k : Nat) : Str := ⟨(List.replicate k z.cps).foldl (· ++ ·) #[]⟩
theorem fold_size (a : Array Nat) : ∀ (k : Nat) (acc : Array Nat), ((List.replicate k a).foldl (· ++ ·) acc).size = acc.size + k * a.size
  | 0, acc => by simp
  | k + 1, acc => by
    rw [List.replicate_succ, List.foldl_cons, fold_size a k, Array.size_append, Nat.add_mul]
    omega
theorem repS_len {z : Str} {k : Nat} : (repS z k).length = k * z.length := by
  have := fold_size z.cps k #[]
  simpa [repS, Str.length] using this
theorem fold_list (a : Array Nat) : ∀ (k : Nat) (acc : Array Nat), ((List.replicate k a).foldl (· ++ ·) acc).toList = acc.toList ++ (List.replicate k a.toList).flatten
  | 0, acc => by simp
  | k + 1, acc => by
    rw [List.replicate_succ, List.foldl_cons, fold_list a k, List.replicate_succ, List.flatten_cons]
    simp
theorem repS_list {z : Str} {k : Nat} : (repS z k).cps.toList = (List.replicate k z.cps.toList).flatten := by
  have := fold_list z.cps k #[]
  simpa [repS] using this
def rRepS : R2 := fun x y H Q => ∃ z k, x = .str z ∧ y = .int k ∧ 2 ≤ k ∧ k ≤ 1000 ∧ 1 ≤ z.length ∧ z.length ≤ 1000 ∧ Q (.str (repS z k.toNat)) H
theorem op_repS : OpR X (binaryOp .Mult) rRepS := by
  intro pins s σ H x y v u Q I rx ry h
  obtain ⟨z, k, rfl, rfl, h1, h2, h3, h4, q⟩ := h
  obtain ⟨t, rfl⟩ := rx
  obtain ⟨t', rfl⟩ := ry
  have n1 : ¬ k < 1 := by omega
  have n2 : (k == 1 || z.length == 0) = false := by
    rw [Bool.or_eq_false_iff]
    exact ⟨beq_eq_false_iff_ne.mpr (by omega), beq_eq_false_iff_ne.mpr (by omega)⟩
  refine PySem.P.mul_str ?_ (fun _ _ => ?_) (fun _ _ => ?_) ?_
  · rw [decide_eq_false (by omega), decide_eq_false (by omega)]; rfl
  · have e1 : (z.length : Int) ≤ 1000 := by omega
    have e2 : (1000 : Int) ≤ (2 ^ 63 - 1) / k := (Int.le_ediv_iff_mul_le (by omega)).mpr (by
      have : (1000 : Int) * k ≤ 1000 * 1000 := by omega
      omega)
    omega
  · refine PyProof.Rows.short24 ?_
    have : z.length * k.toNat ≤ 1000 * 1000 := Nat.mul_le_mul h4 (by omega)
    omega
  · rw [if_neg n1, if_neg (by rw [n2]; decide)]
    refine ⟨?_, .str (repS z k.toNat), H, I.tok _, ⟨_, rfl⟩, q⟩
    have e := repS_len (z := z) (k := k.toNat)
    have e2 : k.toNat * z.length ≤ 1000 * 1000 := Nat.mul_le_mul (by omega) h4
    have e3 : (1000 * 1000 : Nat) ≤ sizeLine := by decide
    show (repS z k.toNat).length ≤ sizeLine
    omega
def vRepS : BOp := fun x y S => match x, y with
  | .str z, .int k => if 2 ≤ k ∧ k ≤ 1000 ∧ 1 ≤ z.length ∧ z.length ≤ 1000 then .ok (.str (repS z k.toNat)) S else .bad
  | _, _ => .bad
theorem vRepS_ok : OpS X Y rRepS vRepS := by
  intro W' ρ H S v w x y Q hs rx ry h
  unfold vRepS at h
  split at h
  · split at h
    · rename_i hc
      cases rx
      cases ry
      exact ⟨_, _, rfl, rfl, hc.1, hc.2.1, hc.2.2.1, hc.2.2.2, h _ ρ H (Pre.refl _) (Ext.refl _) hs (.str _)⟩
    · exact h.elim
  · exact h.elim
theorem se_repS (ha : SE X Y W a fa) (hb : SE X Y W b fb) : SE X Y W (.BinOp a .Mult b pos) (eB2 vRepS fa fb) := se_op op_repS vRepS_ok ha hb
/-! ### text <= text -/
def leS (a b : Str) : Bool := !decide (b.cps.toList < a.cps.toList)
def vLeS : BOp := fun x y S => match x, y with
  | .str a, .str b => .ok (.bl (leS a b)) S
  | _, _ => .bad
theorem vLeS_ok : OpS X Y (fun x y H Q => ∃ i j, x = .str i ∧ y = .str j ∧ Q (.bl (!decide (j.cps.toList < i.cps.toList))) H) vLeS := by
  intro W' ρ H S v w x y Q hs rx ry h
  unfold vLeS at h
  split at h
  · cases rx
    cases ry
    exact ⟨_, _, rfl, rfl, h _ ρ H (Pre.refl _) (Ext.refl _) hs (.bl _)⟩
  · exact h.elim
theorem vLeS_flag : FlagOp vLeS := fun x y S => by
  cases x <;> cases y <;> first | exact .inr rfl | exact .inl ⟨_, rfl⟩
end
/-! ### words -/
section
variable {S : Store} {P : Val → Store → Prop} {E : XO} {n : Nat} {xs : List Val} {k : Int} {z a b : Str}
theorem wO_repL (h : S[n]? = some (.lst xs)) (h0 : 0 ≤ k) (h1 : k ≤ 1000) (h2 : xs.length * k.toNat ≤ LIM) : wO (vRepL (.ref n) (.int k) S) P E = P (.ref S.length) (S ++ [.lst (List.replicate k.toNat xs).flatten]) := by
  unfold vRepL
  simp only [h]
  rw [if_pos ⟨h0, h1, h2⟩]
  rfl
theorem wO_repS (h : 2 ≤ k ∧ k ≤ 1000 ∧ 1 ≤ z.length ∧ z.length ≤ 1000) : wO (vRepS (.str z) (.int k) S) P E = P (.str (repS z k.toNat)) S := by
  unfold vRepS
  simp only
  rw [if_pos h]
  rfl
@[simp] theorem wO_leS : wO (vLeS (.str a) (.str b) S) P E = P (.bl (leS a b)) S := rfl
end
end Mp

set_option Elab.async false
set_option linter.all false
set_option maxRecDepth 100000
set_option maxHeartbeats 1000000
/-! x = e in the suite of except .. as n -/
namespace Mp
open PySem PySem.Spec PyProof.Rows L2
theorem ERep.setX {K : PySem.W.Frag} {Y : Sy} {ρ : List Addr} {H : Hp} {σ : L2.St} {env : En} (h : ERep K Y ρ H σ env) {i : Nat} {v : V} {x : Val} (r : Rep K ρ H v x) (hx : ∀ n a cv d fs, Y.xi = some (n, a, cv, d, fs) → n ≠ i) : ERep K Y ρ H (σ.set i (some v)) (env.set i (some x)) := by
  refine ⟨by simp [h.len], fun j y q => ?_, fun n a cv d fs q => ?_⟩
  · by_cases hj : j = i
    · subst hj
      have hl : j < env.length := by
        have := (List.getElem?_eq_some_iff.mp q).1
        simpa using this
      rw [List.getElem?_set_self hl] at q
      cases q
      exact ⟨v, List.getElem?_set_self (by rw [h.len]; exact hl), r⟩
    · rw [List.getElem?_set_ne (Ne.symm hj)] at q
      obtain ⟨w, a, r'⟩ := h.at_ j y q
      exact ⟨w, by rw [List.getElem?_set_ne (Ne.symm hj)]; exact a, r'⟩
  · obtain ⟨h1, h2⟩ := h.xi n a cv d fs q
    exact ⟨by rw [List.getElem?_set_ne (Ne.symm (hx n a cv d fs q))]; exact h1, h2⟩
theorem ss_setX {X : Cx} {Y : Sy} {W : WX} {e : Expr} {f : En → Store → Out Val} {pos : Pos} {i : Nat} {x : Str} {pos' : Pos} (hy : ∀ n a cv d fs, Y.xi = some (n, a, cv, d, fs) → n ≠ i) (hN : X.N.Nodup) (hi : X.N[i]? = some x) (hx : Loc X.env.scope x) (he : SE X Y W e f) (hs : swapsWith e (some (.Name x pos')) pos.line X.env = pure false := by rfl) (hf : X.fn x = true ∨ X.env.scope.names.lookup x = some .local := by first | exact .inl rfl | exact .inr rfl | assumption) :
    SS X Y W (.Assign [.Name x pos'] e pos) (sSet i f) := by
  refine PS.imp (ps_set hN hi hx he hs hf) fun D σ H h => ?_
  refine tS.go (k := fun env x S1 => match gN i x env with | some e => .nx e S1 | none => .bad) h fun ρ env v x H1 S1 he hs rx hp => ?_
  exact hp _ ρ H1 (Pre.refl _) (Ext.refl _) (he.setX rx hy) hs
end Mp

set_option Elab.async false
set_option linter.all false
set_option maxRecDepth 100000
set_option maxHeartbeats 4000000
/-! xs[a:] = ys -/
namespace Mp
open PySem PySem.Spec PyProof.Rows L2
section
variable {pr : Program} {w : World} {A : Around} {E : Value → Shared → Prop} {s : Shared}
theorem bounds_from {a n : Nat} (h : a ≤ n) : sliceBounds (some (a : Int)) none none n = ((a : Int), (n : Int), 1) := by
  have h1 : ¬ ((a : Int) < 0) := by omega
  simp only [sliceBounds, Option.getD_none, h1, if_false, show (1 : Int) > 0 by decide, if_true]
  rw [show max (0 : Int) (min (a : Int) (n : Int)) = (a : Int) by omega]
/-- list.__setitem__ asked with a slice without an upper bound -/
theorem from_put {l b sl : Addr} {items new : Array Value} {n n2 : Nat} {vl : Value} {a : Nat} {Q : Unit → Shared → Prop} (e : s.heap.get? l = some { cls := .type "list", data := .seq items n }) (e2 : s.heap.get? b = some { cls := .type "list", data := .seq new n2 })
    (hne : l ≠ b) (hs : s.heap.IsSliceOf sl vl .none .none) (pl : IsPart vl (some (a : Int))) (ha : a ≤ items.size) (hsz : items.size + new.size ≤ sizeLine) (k : Q () { s with heap := s.heap.update l (Obj.mapSeq fun xs => xs.extract 0 a ++ new ++ xs.extract items.size xs.size) }) :
    wpAny (model pr w) A (setItem (.ref l) (.ref sl) (.ref b)) Q E s := by
  have tl := (PySem.IsL.isList e : s.heap.IsList l items)
  have tb := (PySem.IsL.isList e2 : s.heap.IsList b new)
  obtain ⟨os, o1, o2, o3⟩ := id hs
  have tS : s.TypeIs (.ref sl) "slice" := ⟨os, o1, o2⟩
  have d1 : Builtin.List.listSameRef (.ref l) (.ref b) = false := beq_eq_false_iff_ne.mpr hne
  have d2 : (max (a : Int) (items.size : Int)).toNat = items.size := by omega
  unfold setItem
  first | (apply wpAny_holding) | skip
  apply wpAny_bind
  apply wpAny_sequenceKey tl.typeIs (by decide)
  apply wpAny_bind
  refine wpAny_callSpecial?_slot (name := Str.ofString "__setitem__") tl.typeIs slot_list_setitem ?_
  refine wpAny_call_entry slot_list_setitem tl.typeIs entry_list_setitem ?_ (args_list_setitem _ _ _)
  have goal : wpAny (model pr w) A.in1 (Builtin.«list.__setitem__» ⟨[.ref l, .ref sl, .ref b], []⟩) (fun f s' => f = .done (.ret .none) ∧ Q () s') E s := by
    change wpAny _ _ (Builtin.List.listSubscript? (.ref sl) >>= _) _ _ s
    apply wpAny_bind
    unfold Builtin.List.listSubscript?
    apply wpAny_bind
    apply wpAny_specialOf tS slice_no_index
    simp only [Option.isNone_none, if_true]
    apply wpAny_pure
    change wpAny _ _ (typeOf (.ref sl) >>= _) _ _ s
    apply wpAny_bind
    apply wpAny_typeOf tS
    apply PySem.W.KFB.if_not (by decide)
    rw [listSliceParts_eq]
    apply wpAny_bind
    apply wpAny_bind
    refine wpAny_field o1 o3 (x := .none) rfl ?_
    apply wpAny_bind
    apply wpAny_listPart .none
    rw [if_neg (show ¬ (rawPart none == rawInt 0) = true from Bool.false_ne_true)]
    apply wpAny_bind
    refine wpAny_field o1 o3 (x := vl) rfl ?_
    apply wpAny_bind
    apply wpAny_listPart pl
    apply wpAny_bind
    refine wpAny_field o1 o3 (x := .none) rfl ?_
    apply wpAny_bind
    apply wpAny_listPart .none
    apply wpAny_pure
    rw [d1]
    simp only [Bool.false_eq_true, if_false]
    change wpAny _ _ (Builtin.List.listAllItems (.ref b) "must assign iterable to extended slice" >>= _) _ _ s
    apply wpAny_bind
    unfold Builtin.List.listAllItems
    apply wpAny_bind
    apply wpAny_typeOf tb.typeIs
    apply PySem.W.KFB.if_so (by decide)
    unfold Builtin.List.listItems
    apply wpAny_bind
    refine wpAny_seqItems e2 rfl ?_
    apply wpAny_pure
    apply wpAny_bind
    apply wpAny_bind
    refine wpAny_seqItems e rfl ?_
    apply wpAny_pure
    apply wpAny_bind
    refine wpAny_of_eq ((sliceIndices_raw (some (a : Int)) none none items.size (by simp)).trans (congrArg pure (bounds_from ha))) ?_
    change wpAny _ _ (if ((1 : Int) == 1) = true then _ else _) _ _ s
    rw [if_pos (show ((1 : Int) == 1) = true by decide)]
    apply wpAny_bind
    apply wpAny_rule
    apply PySem.W.KFB.if_not (notLongL hsz)
    have z1 : ((fun xs : Array Value => xs.extract 0 a ++ new ++ xs.extract items.size xs.size) items).size ≤ sizeLine + 1 := by
      simp only [Array.size_append, Array.size_extract]; omega
    change wpAny _ _ (updateSeq l (fun xs => xs.extract 0 ((a : Int)).toNat ++ new ++ xs.extract (max (a : Int) (items.size : Int)).toNat xs.size) >>= _) _ _ s
    rw [d2, Int.toNat_natCast]
    apply wpAny_bind
    refine wpAny_updateSeq (hz := by omega) (_hz' := z1) e rfl ?_
    apply wpAny_bind
    apply wpAny_letGo
    exact wpAny_pure ⟨rfl, k⟩
  exact wpAny_mono goal (fun f s' z => ⟨.none, z.1, wpAny_pure z.2⟩) fun _ _ z => z
end
section
variable {X : Cx}
/-- the same, at the layer's values -/
theorem from_set {pins : List (Addr × Obj)} {s : Shared} {σ : L2.St} {H : Hp} {l b sl : Addr} {xs ys : List V} {a : Nat} {vl : Value} {Q : Unit → Shared → Prop} (I : Inv X pins σ H s) (hH : H l = some (.lst xs)) (hB : H b = some (.lst ys)) (hne : l ≠ b) (hs : s.heap.IsSliceOf sl vl .none .none) (pl : IsPart vl (some (a : Int))) (ha : a ≤ xs.length)
    (hz : xs.length + ys.length ≤ sizeLine) (k : ∀ s', Inv X pins σ (upd H l (.lst (xs.take a ++ ys))) s' → Q () s') : wpAny (model X.prog X.w) X.A (setItem (.ref l) (.ref sl) (.ref b)) Q X.xe s := by
  obtain ⟨z, its, n, r, hl, e⟩ := I.lstM hH
  obtain ⟨z2, its2, n2, r2, hl2, e2⟩ := I.lstM hB
  have s1 : its.toArray.size = its.length := List.size_toArray ..
  have s2 : its2.toArray.size = its2.length := List.size_toArray ..
  refine from_put (a := a) e e2 hne hs pl (by omega) (by omega) (k _ ?_)
  refine I.lset (its' := its.take a ++ its2) (t' := s.toks) hH e ?_ ((r.take _).append r2) (by rw [List.length_append, List.length_take]; omega)
  rw [splice_eq its its2 a its.toArray.size, s1, List.drop_length, List.append_nil]
end
/-! ### the statement -/
def gFrom (to : TE) (ti : TO) : TG := fun v σ H Q => to σ H fun x H1 => ti σ H1 fun o H2 => ∃ l b xs ys a, x = .ref l ∧ v = .ref b ∧ o = some ((a : Nat) : Int) ∧ H2 l = some (.lst xs) ∧ H2 b = some (.lst ys) ∧ l ≠ b ∧ a ≤ xs.length ∧ xs.length + ys.length ≤ sizeLine ∧ Q σ (upd H2 l (.lst (xs.take a ++ ys)))
section
variable {X : Cx} {o lo : Expr} {to : TE} {ti : TO} {pos p2 : Pos}
theorem pg_from (ho : PE X o to) (hl : PO X (some lo) ti) (ha : ∀ v, assign (.Subscript o (.Slice (some lo) none none p2) pos) X.env v = (do
      let ov ← holding [v] (eval o X.env)
      let iv ← holding [v, ov] (eval (.Slice (some lo) none none p2) X.env)
      standAt pos
      holding [v, ov, iv] (setItem ov iv v)
      release [iv, v, ov] []) := by intro _; rfl) : PG X (.Subscript o (.Slice (some lo) none none p2) pos) (gFrom to ti) := by
  refine ⟨fun pins s σ H v u Q I r h => ?_⟩
  rw [ha]
  apply wpAny_bind
  apply wpAny_holding
  refine thn (ho.run pins s σ H _ I h) fun ov s1 z1 => ?_
  obtain ⟨x, H1, I1, r1, q1⟩ := z1
  apply wpAny_bind
  apply wpAny_holding
  refine wpAny_Slice (thn (hl.run pins s1 σ H1 _ I1 q1) fun vl s2 z2 => ?_)
  obtain ⟨k, H2, I2, pl, l, b, xs, ys, a, rfl, rfl, rfl, hH, hB, hne, hle, hz, q2⟩ := z2
  rw [evalPart_none]
  apply wpAny_pure
  apply wpAny_pure
  have I3 : Inv X pins σ H2 { s2 with heap := s2.heap.push { cls := .type "slice", data := .fields #[vl, .none, .none] } } := I2.kept (t' := s2.toks) fun b ob q => Heap.get?_push_of_some _ q
  obtain rfl : ov = Value.ref l := r1
  obtain rfl : u = Value.ref b := r
  apply wpAny_bind
  apply wpAny_standAt
  apply wpAny_bind
  apply wpAny_holding
  refine from_set I3 hH hB hne (Heap.IsSliceOf.new ..) pl hle hz fun s4 I4 => ?_
  exact wpAny_release ⟨σ, _, I4, q2⟩
end
/-- o[a:] = v -/
def putFrom (o : Val) (a : Option Int) (v : Val) (S : Store) : Option Store := match o, a, v with
  | .ref n, some a, .ref m => (match S[n]?, S[m]? with
    | some (.lst xs), some (.lst ys) => if n ≠ m ∧ 0 ≤ a ∧ a ≤ xs.length ∧ xs.length + ys.length ≤ LIM then some (S.set n (.lst (xs.take a.toNat ++ ys))) else none
    | _, _ => none)
  | _, _, _ => none
def kPutFrom (o : Val) (a : Option Int) (v : Val) (env : En) (S : Store) : Res := match putFrom o a v S with
  | some S' => .nx env S'
  | none => .bad
def sPutFrom (f fo : En → Store → Out Val) (fa : En → Store → Out (Option Int)) : En → Store → Res := fun env S => (f env S).toS env fun v S1 => (fo env S1).toS env fun o S2 => (fa env S2).toS env fun a S3 => kPutFrom o a v env S3
section
variable {X : Cx} {Y : Sy} {W : WX} {o lo e : Expr} {f fo : En → Store → Out Val} {fa : En → Store → Out (Option Int)} {pos pos' p2 : Pos}
theorem ss_putFrom (he : SE X Y W e f) (ho : SE X Y W o fo) (hl : SO X Y W (some lo) fa) (hs : swapsWithSole [.Subscript o (.Slice (some lo) none none p2) pos'] e pos.line X.env = pure false := by rfl) (hw : swappedStores [.Subscript o (.Slice (some lo) none none p2) pos'] e X.env = pure none := by rfl)
    (h1 : (assignEach [.Subscript o (.Slice (some lo) none none p2) pos'] X.env).map (·.2) = [assign (.Subscript o (.Slice (some lo) none none p2) pos') X.env] := by rfl)
    (ha : ∀ v, assign (.Subscript o (.Slice (some lo) none none p2) pos') X.env v = (do
      let ov ← holding [v] (eval o X.env)
      let iv ← holding [v, ov] (eval (.Slice (some lo) none none p2) X.env)
      standAt pos'
      holding [v, ov, iv] (setItem ov iv v)
      release [iv, v, ov] []) := by intro _; rfl) :
    SS X Y W (.Assign [.Subscript o (.Slice (some lo) none none p2) pos'] e pos) (sPutFrom f fo fa) := by
  refine PS.imp (ps_asg he (pg_from ho hl ha) hs hw h1) fun D σ H h => ?_
  refine tS.go (k := fun env v S1 => (fo env S1).toS env fun o S2 => (fa env S2).toS env fun a S3 => kPutFrom o a v env S3) h fun ρ env v x H1 S1 he hs rx hp => ?_
  refine tS.in he hs hp fun ρ2 d dd H2 S2 p2 e2 he2 hs2 rd hp2 => ?_
  refine tS.in he2 hs2 hp2 fun ρ3 j jj H3 S3 p3 e3 he3 hs3 rj hp3 => ?_
  obtain rfl : j = jj := rj
  have ry := rx.up (p2.trans p3) (e2.trans e3)
  have rd3 := rd.up p3 e3
  unfold kPutFrom at hp3
  split at hp3
  · rename_i S' es
    unfold putFrom at es
    split at es
    · rename_i n a m
      split at es
      · rename_i xs ys e5 e6
        split at es
        · rename_i hc
          obtain ⟨c1, c2, c3, c4⟩ := hc
          cases es
          cases rd3 with
          | @ref l _ hl => cases ry with
            | @ref b _ hb =>
              obtain ⟨ws, ew, r⟩ := hs3.lst hl e5
              obtain ⟨vs, ev, r2⟩ := hs3.lst hb e6
              have hne : l ≠ b := fun q => by
                subst q
                obtain ⟨i1, g1⟩ := List.getElem?_eq_some_iff.mp hl
                obtain ⟨i2, g2⟩ := List.getElem?_eq_some_iff.mp hb
                exact c1 ((List.getElem_inj hs3.nd).mp (g1.trans g2.symm))
              obtain ⟨a', rfl⟩ := Int.eq_ofNat_of_zero_le c2
              have r3 : Reps X.K ρ3 H3 (ws.take a' ++ vs) (xs.take a' ++ ys) := (r.take a').append r2
              obtain ⟨q1, q2⟩ := put_lst hs3 hl ew r3
              refine ⟨l, b, ws, vs, a', rfl, rfl, rfl, ew, ev, hne, ?_, ?_, ?_⟩
              · rw [r.length]; omega
              · rw [r.length, r2.length]; exact lim_le c4
              · exact hp3 σ ρ3 _ (Pre.refl _) q1 (he3.up (Pre.refl _) q1) q2
        · cases es
      · cases es
    · cases es
  · exact hp3.elim
end
section
variable {env : En} {S : Store} {R : RP}
@[simp] theorem wR_sPutFrom {f fo : En → Store → Out Val} {fa : En → Store → Out (Option Int)} : wR (sPutFrom f fo fa env S) R = wO (f env S) (fun v S1 => wO (fo env S1) (fun d S2 => wO (fa env S2) (fun a S3 => wP (putFrom d a v S3) fun S4 => R.nx env S4) fun c fs S1 => R.er c fs env S1) fun c fs S1 => R.er c fs env S1) (fun c fs S1 => R.er c fs env S1) := by
  refine wR_toS.trans (wO_ext fun v S1 => wR_toS.trans (wO_ext fun d S2 => wR_toS.trans (wO_ext fun i S3 => ?_)))
  unfold kPutFrom
  cases putFrom d i v S3 <;> rfl
end
end Mp

set_option Elab.async false
set_option linter.all false
set_option maxRecDepth 100000
set_option maxHeartbeats 4000000
/-! zip of a tuple and a list, either way round -/
namespace Mp
open PySem PySem.Spec PyProof.Rows L2 RZ
/-! ### a sequence of either kind (true: a tuple) and its iterator -/
def ItK (k : Bool) (h : Heap) (i l : Addr) (n : Nat) : Prop := match k with
  | true => h.IsTupleIter i l n
  | false => h.IsListIter i l n
def SqK (k : Bool) (h : Heap) (l : Addr) (xs : Array Value) : Prop := match k with
  | true => h.IsTuple l xs
  | false => h.IsList l xs
theorem ItK.but {k : Bool} {h h' : Heap} {a b l n} (x : ItK k h a l n) (hs : Heap.ExtBut b h h') (hab : a ≠ b) : ItK k h' a l n := by
  cases k
  · exact Heap.IsListIter.extBut x hs hab
  · exact Heap.IsTupleIter.extBut x hs hab
theorem SqK.but {k : Bool} {h h' : Heap} {a b xs} (x : SqK k h a xs) (hs : Heap.ExtBut b h h') (hab : a ≠ b) : SqK k h' a xs := by
  cases k
  · exact Heap.IsList.extBut x hs hab
  · exact Heap.IsTuple.extBut x hs hab
theorem ItK.up {k : Bool} {h h' : Heap} {a l n} (x : ItK k h a l n) (e : ∀ o, h.get? a = some o → h'.get? a = some o) : ItK k h' a l n := by
  cases k
  · exact Heap.IsListIter.at x e
  · exact Heap.IsTupleIter.at x e
theorem ItK.ob {k : Bool} {h : Heap} {a l n} (x : ItK k h a l n) : ∃ o, h.get? a = some o ∧ ∃ ws, o.data = .fields ws := by
  cases k <;> exact let ⟨o, h1, _, h2⟩ := x; ⟨o, h1, _, h2⟩
section
variable {prog : Program} {w : World} {A : Around} {E : Value → Shared → Prop} {s : Shared}
theorem nextK_item {k : Bool} {it l : Addr} {i : Nat} {items} {x : Value} {Q : Value → Shared → Prop} (hit : ItK k s.heap it l i) (hl : SqK k s.heap l items) (hx : items[i]? = some x)
    (hQ : ∀ h', ItK k h' it l (i + 1) → Heap.SameBut it s.heap h' → Q x { s with heap := h' }) : wpAny (model prog w) A (Builtin.SmallTypes.nextOf (.ref it)) Q E s := by
  cases k
  · exact wpAny_nextOf_list_item hit hl hx hQ
  · exact nextOf_tuple_item hit hl hx hQ
theorem nextK_end {k : Bool} {it l : Addr} {i : Nat} {items} {Q : Value → Shared → Prop} (hh : A.handled = none) (hit : ItK k s.heap it l i) (hl : SqK k s.heap l items) (hx : items[i]? = none)
    (hE : ∀ h' e, Heap.ExtBut it s.heap h' → (∃ o, h'.get? e = some o ∧ o.cls = .type "StopIteration") → E (.ref e) { s with heap := h' }) : wpAny (model prog w) A (Builtin.SmallTypes.nextOf (.ref it)) Q E s := by
  cases k
  · exact wpAny_nextOf_list_end hh hit hl hx hE
  · exact nextOf_tuple_end hh hit hl hx hE
end
section
variable {prog : Program} {w : World} {A : Around} {E : Value → Shared → Prop} {s : Shared} {c1 c2 : Bool} {z TI TO i1 i2 l1 l2 : Addr} {k1 k2 : Nat} {xs ys : Array Value} {x y a b : Value}
theorem zipK_item {Q : Value → Shared → Prop} (D : ZipApart z TI TO i1 i2 l1 l2) (hz : IsZip s.heap z TI TO .none) (hTI : IsPair s.heap TI (.ref i1) (.ref i2)) (hTO : IsPair s.heap TO a b)
    (h1 : ItK c1 s.heap i1 l1 k1) (h2 : ItK c2 s.heap i2 l2 k2) (hl1 : SqK c1 s.heap l1 xs) (hl2 : SqK c2 s.heap l2 ys) (hx : xs[k1]? = some x) (hy : ys[k2]? = some y)
    (hQ : ∀ h', IsZip h' z TI TO (rawInt s.heap.objs.size) → IsPair h' TO x y → ItK c1 h' i1 l1 (k1 + 1) → ItK c2 h' i2 l2 (k2 + 1) → IsPair h' s.heap.objs.size x y → h'.objs.size = s.heap.objs.size + 1 →
      (∀ c o, c ≠ z → c ≠ TO → c ≠ i1 → c ≠ i2 → s.heap.get? c = some o → h'.get? c = some o) → Q (.ref s.heap.objs.size) { s with heap := h' }) :
    wpAny (model prog w) A (Builtin.«zip.__next__» ⟨[.ref z], []⟩) (fun fin s' => ∃ v, fin = .done (.ret v) ∧ Q v s') E s := by
  change wpAny _ _ (field (.ref z) 2 >>= _) _ _ _
  apply wpAny_bind
  refine wpAny_field hz rfl (x := .bool false) rfl ?_
  change wpAny _ _ (field (.ref z) 3 >>= _) _ _ _
  apply wpAny_bind
  refine wpAny_field hz rfl (x := .ref TI) rfl ?_
  apply wpAny_bind
  refine wpAny_seqItems hTI rfl ?_
  change wpAny _ _ (Builtin.SmallTypes.ownedTupleIsFree (.ref z) >>= _) _ _ _
  apply wpAny_bind
  unfold Builtin.SmallTypes.ownedTupleIsFree
  apply wpAny_bind
  refine wpAny_field hz rfl (x := .none) rfl (wpAny_pure ?_)
  simp only [if_true]
  apply wpAny_bind
  apply wpAny_rule
  apply wpAny_bind
  refine wpAny_field hz rfl (x := .ref TO) rfl ?_
  apply wpAny_bind
  refine wpAny_setField_rec hz (by simp) fun hA zA sA => ?_
  replace zA : IsZip hA z TI TO .ellipsis := zA
  apply wpAny_bind
  simp only [List.zipIdx_cons, List.zipIdx_nil, List.forIn_cons, List.forIn_nil]
  apply wpAny_bind
  apply wpAny_bind
  apply wpAny_onRaise
  change wpAny _ _ (Builtin.SmallTypes.nextOf (.ref i1) >>= _) _ _ _
  apply wpAny_bind
  refine nextK_item (h1.but sA.extBut D.i1z) (hl1.but sA.extBut D.l1z) hx fun hB p1 sB => wpAny_pure ?_
  have tB : IsPair hB TO a b := sB.extBut _ _ D.TOi1 (sA.extBut _ _ D.TOz hTO)
  apply wpAny_bind
  refine wpAny_seqItems tB rfl ?_
  apply wpAny_bind
  refine wpAny_updateSeq_pair tB fun hC tC sC => ?_
  replace tC : IsPair hC TO x b := tC
  apply wpAny_bind
  refine wpAny_letGo (wpAny_pure ?_)
  apply wpAny_bind
  apply wpAny_bind
  apply wpAny_onRaise
  change wpAny _ _ (Builtin.SmallTypes.nextOf (.ref i2) >>= _) _ _ _
  apply wpAny_bind
  refine nextK_item (((h2.but sA.extBut D.i2z).but sB.extBut D.i12.symm).but sC.extBut D.TOi2.symm) (((hl2.but sA.extBut D.l2z).but sB.extBut D.l2i1).but sC.extBut D.l2TO) hy fun hD p2 sD => wpAny_pure ?_
  have tD : IsPair hD TO x b := sD.extBut _ _ D.TOi2 tC
  apply wpAny_bind
  refine wpAny_seqItems tD rfl ?_
  apply wpAny_bind
  refine wpAny_updateSeq_pair tD fun hF tF sF => ?_
  replace tF : IsPair hF TO x y := tF
  apply wpAny_bind
  refine wpAny_letGo (wpAny_pure (wpAny_pure ?_))
  apply wpAny_bind
  refine wpAny_seqItems tF rfl ?_
  apply wpAny_bind
  refine wpAny_newTuple ?_
  have size : hF.objs.size = s.heap.objs.size := by rw [sF.1, sD.1, sC.1, sB.1, sA.1]
  have stays : ∀ c o, c ≠ z → c ≠ TO → c ≠ i1 → c ≠ i2 → s.heap.get? c = some o → hF.get? c = some o := fun c o n1 n2 n3 n4 e => sF.extBut _ _ n2 (sD.extBut _ _ n4 (sC.extBut _ _ n2 (sB.extBut _ _ n3 (sA.extBut _ _ n1 e))))
  have zF : IsZip hF z TI TO .ellipsis := sF.extBut _ _ D.TOz.symm (sD.extBut _ _ D.i2z.symm (sC.extBut _ _ D.TOz.symm (sB.extBut _ _ D.i1z.symm zA)))
  have q1 : ItK c1 hF i1 l1 (k1 + 1) := ((p1.but sC.extBut D.TOi1.symm).but sD.extBut D.i12).but sF.extBut D.TOi1.symm
  have q2 : ItK c2 hF i2 l2 (k2 + 1) := p2.but sF.extBut D.TOi2.symm
  have zlt : z < hF.objs.size := Heap.lt_size zF
  change wpAny _ _ (Builtin.SmallTypes.ownedTupleHandOut (.ref z) (.ref hF.objs.size) >>= _) _ _ _
  apply wpAny_bind
  unfold Builtin.SmallTypes.ownedTupleHandOut
  have zG : IsZip (hF.push { cls := .type "tuple", data := .seq #[x, y] }) z TI TO .ellipsis := Heap.get?_push_of_some _ zF
  apply wpAny_bind
  refine wpAny_setField_rec zG (by simp) fun hM zM sM => ?_
  replace zM : IsZip hM z TI TO (rawInt hF.objs.size) := zM
  refine wpAny_setField_rec zM (by simp) fun hN zN sN => ?_
  replace zN : IsZip hN z TI TO (rawInt hF.objs.size) := zN
  have fin : ∀ c o, c ≠ z → hF.get? c = some o → hN.get? c = some o := fun c o n e => sN.extBut _ _ n (sM.extBut _ _ n (Heap.get?_push_of_some _ e))
  have new : IsPair hN hF.objs.size x y := sN.extBut _ _ (Nat.ne_of_gt zlt) (sM.extBut _ _ (Nat.ne_of_gt zlt) (Heap.get?_push_size _ rfl))
  have more : hN.objs.size = hF.objs.size + 1 := by rw [sN.1, sM.1, Heap.size_push]
  rw [size] at zN new more
  refine wpAny_pure ⟨_, rfl, ?_⟩
  change Q (.ref hF.objs.size) _
  rw [size]
  exact hQ hN zN (fin _ _ D.TOz tF) (q1.up fun o e => fin _ o D.i1z e) (q2.up fun o e => fin _ o D.i2z e) new more fun c o n1 n2 n3 n4 e => fin c o n1 (stays c o n1 n2 n3 n4 e)
theorem zipK_end {Q : Fin → Shared → Prop} (hh : A.handled = none) (D : ZipApart z TI TO i1 i2 l1 l2) (hz : IsZip s.heap z TI TO .none) (hTI : IsPair s.heap TI (.ref i1) (.ref i2)) (hTO : IsPair s.heap TO a b)
    (h1 : ItK c1 s.heap i1 l1 k1) (h2 : ItK c2 s.heap i2 l2 k2) (hl1 : SqK c1 s.heap l1 xs) (hl2 : SqK c2 s.heap l2 ys) (hend : xs[k1]? = none ∨ ys[k2]? = none)
    (hE : ∀ h' e, (∀ c o, c ≠ z → c ≠ TO → c ≠ i1 → c ≠ i2 → s.heap.get? c = some o → h'.get? c = some o) → (∃ o, h'.get? e = some o ∧ o.cls = .type "StopIteration") → E (.ref e) { s with heap := h' }) :
    wpAny (model prog w) A (Builtin.«zip.__next__» ⟨[.ref z], []⟩) Q E s := by
  change wpAny _ _ (field (.ref z) 2 >>= _) _ _ _
  apply wpAny_bind
  refine wpAny_field hz rfl (x := .bool false) rfl ?_
  change wpAny _ _ (field (.ref z) 3 >>= _) _ _ _
  apply wpAny_bind
  refine wpAny_field hz rfl (x := .ref TI) rfl ?_
  apply wpAny_bind
  refine wpAny_seqItems hTI rfl ?_
  change wpAny _ _ (Builtin.SmallTypes.ownedTupleIsFree (.ref z) >>= _) _ _ _
  apply wpAny_bind
  unfold Builtin.SmallTypes.ownedTupleIsFree
  apply wpAny_bind
  refine wpAny_field hz rfl (x := .none) rfl (wpAny_pure ?_)
  simp only [if_true]
  apply wpAny_bind
  apply wpAny_rule
  apply wpAny_bind
  refine wpAny_field hz rfl (x := .ref TO) rfl ?_
  apply wpAny_bind
  refine wpAny_setField_rec hz (by simp) fun hA zA sA => ?_
  replace zA : IsZip hA z TI TO .ellipsis := zA
  apply wpAny_bind
  simp only [List.zipIdx_cons, List.zipIdx_nil, List.forIn_cons, List.forIn_nil]
  apply wpAny_bind
  apply wpAny_bind
  apply wpAny_onRaise
  change wpAny _ _ (Builtin.SmallTypes.nextOf (.ref i1) >>= _) _ _ _
  by_cases hx : xs[k1]? = none
  · apply wpAny_bind
    refine nextK_end hh (h1.but sA.extBut D.i1z) (hl1.but sA.extBut D.l1z) hx fun hB e sB ⟨oe, hoe, hce⟩ => ?_
    have zB : IsZip hB z TI TO .ellipsis := sB _ _ D.i1z.symm zA
    have hez : e ≠ z := fun q => by subst q; rw [zB] at hoe; cases hoe; simp at hce
    exact wpAny_setField_rec zB (by simp) fun hC _ sC => hE hC e (fun c o n1 _ n3 _ q => sC.extBut _ _ n1 (sB _ _ n3 (sA.extBut _ _ n1 q))) ⟨oe, sC.extBut _ _ hez hoe, hce⟩
  · obtain ⟨x, hx'⟩ := Option.ne_none_iff_exists'.mp hx
    have hy : ys[k2]? = none := hend.resolve_left hx
    apply wpAny_bind
    refine nextK_item (h1.but sA.extBut D.i1z) (hl1.but sA.extBut D.l1z) hx' fun hB p1 sB => wpAny_pure ?_
    have tB : IsPair hB TO a b := sB.extBut _ _ D.TOi1 (sA.extBut _ _ D.TOz hTO)
    apply wpAny_bind
    refine wpAny_seqItems tB rfl ?_
    apply wpAny_bind
    refine wpAny_updateSeq_pair tB fun hC tC sC => ?_
    apply wpAny_bind
    refine wpAny_letGo (wpAny_pure ?_)
    apply wpAny_bind
    apply wpAny_bind
    apply wpAny_onRaise
    change wpAny _ _ (Builtin.SmallTypes.nextOf (.ref i2) >>= _) _ _ _
    apply wpAny_bind
    refine nextK_end hh (((h2.but sA.extBut D.i2z).but sB.extBut D.i12.symm).but sC.extBut D.TOi2.symm) (((hl2.but sA.extBut D.l2z).but sB.extBut D.l2i1).but sC.extBut D.l2TO) hy fun hD e sD ⟨oe, hoe, hce⟩ => ?_
    have zD : IsZip hD z TI TO .ellipsis := sD _ _ D.i2z.symm (sC.extBut _ _ D.TOz.symm (sB.extBut _ _ D.i1z.symm zA))
    have hez : e ≠ z := fun q => by subst q; rw [zD] at hoe; cases hoe; simp at hce
    exact wpAny_setField_rec zD (by simp) fun hF _ sF => hE hF e (fun c o n1 n2 n3 n4 q => sF.extBut _ _ n1 (sD _ _ n4 (sC.extBut _ _ n2 (sB.extBut _ _ n3 (sA.extBut _ _ n1 q))))) ⟨oe, sF.extBut _ _ hez hoe, hce⟩
theorem pyNext_zipK {Q : Option Value → Shared → Prop} (D : ZipApart z TI TO i1 i2 l1 l2) (hz : IsZip s.heap z TI TO .none) (hTI : IsPair s.heap TI (.ref i1) (.ref i2)) (hTO : IsPair s.heap TO a b)
    (h1 : ItK c1 s.heap i1 l1 k1) (h2 : ItK c2 s.heap i2 l2 k2) (hl1 : SqK c1 s.heap l1 xs) (hl2 : SqK c2 s.heap l2 ys) (hx : xs[k1]? = some x) (hy : ys[k2]? = some y)
    (hQ : ∀ h', IsZip h' z TI TO (rawInt s.heap.objs.size) → IsPair h' TO x y → ItK c1 h' i1 l1 (k1 + 1) → ItK c2 h' i2 l2 (k2 + 1) → IsPair h' s.heap.objs.size x y → h'.objs.size = s.heap.objs.size + 1 →
      (∀ c o, c ≠ z → c ≠ TO → c ≠ i1 → c ≠ i2 → s.heap.get? c = some o → h'.get? c = some o) → Q (some (.ref s.heap.objs.size)) { s with heap := h' }) : wpAny (model prog w) A (pyNext (.ref z)) Q E s := by
  have hT : s.TypeIs (.ref z) "zip" := ⟨_, hz, rfl⟩
  unfold pyNext
  apply wpAny_bind
  apply wpAny_attempt
  refine wpAny_callSpecial?_slot (name := Str.ofString "__next__") hT F.slot_zip_next ?_
  refine wpAny_call_entry F.slot_zip_next hT F.entry_zip_next ?_ (F.args_zip_next_1 _)
  exact zipK_item D hz hTI hTO h1 h2 hl1 hl2 hx hy fun h' a1 a2 a3 a4 a5 a6 a7 => wpAny_pure (hQ h' a1 a2 a3 a4 a5 a6 a7)
theorem pyNext_zipK_end {Q : Option Value → Shared → Prop} (hh : A.handled = none) (D : ZipApart z TI TO i1 i2 l1 l2) (hz : IsZip s.heap z TI TO .none) (hTI : IsPair s.heap TI (.ref i1) (.ref i2)) (hTO : IsPair s.heap TO a b)
    (h1 : ItK c1 s.heap i1 l1 k1) (h2 : ItK c2 s.heap i2 l2 k2) (hl1 : SqK c1 s.heap l1 xs) (hl2 : SqK c2 s.heap l2 ys) (hend : xs[k1]? = none ∨ ys[k2]? = none)
    (hQ : ∀ h', (∀ c o, c ≠ z → c ≠ TO → c ≠ i1 → c ≠ i2 → s.heap.get? c = some o → h'.get? c = some o) → Q none { s with heap := h' }) : wpAny (model prog w) A (pyNext (.ref z)) Q E s := by
  have hT : s.TypeIs (.ref z) "zip" := ⟨_, hz, rfl⟩
  unfold pyNext
  apply wpAny_bind
  apply wpAny_attempt
  refine wpAny_callSpecial?_slot (name := Str.ofString "__next__") hT F.slot_zip_next ?_
  refine wpAny_call_entry F.slot_zip_next hT F.entry_zip_next (zipK_end hh D hz hTI hTO h1 h2 hl1 hl2 hend fun h' e hk he => ?_) (F.args_zip_next_1 _)
  obtain ⟨o, ho, hc⟩ := he
  apply wpAny_bind
  refine wpAny_isInstance (T := "StopIteration") (b := true) ⟨o, ho, hc⟩ isSubtype_stop ?_
  exact wpAny_pure (hQ _ hk)
end
/-! ### zip(..) itself -/
def itO (k : Bool) (l : Addr) : Obj := match k with
  | true => { cls := .type "tuple_iterator", data := .fields #[.ref l, .int 0 0] }
  | false => { cls := .type "list_iterator", data := .fields #[.ref l, .int 0 0] }
theorem SqK.push {k : Bool} {h : Heap} {a xs} (x : SqK k h a xs) (o : Obj) : SqK k (h.push o) a xs := by
  cases k
  · exact Heap.IsList.push x o
  · exact Heap.IsTuple.push x o
theorem pyIterK {prog : Program} {w : World} {A : Around} {E : Value → Shared → Prop} {s : Shared} {k : Bool} {l : Addr} {xs} {Q : Value → Shared → Prop} (h : SqK k s.heap l xs) (hQ : Q (.ref s.heap.objs.size) { s with heap := s.heap.push (itO k l) }) : wpAny (model prog w) A (pyIter (.ref l)) Q E s := by
  cases k
  · exact wpAny_pyIter_list h hQ
  · exact wpAny_pyIter_tuple h hQ
def zk1 (c1 : Bool) (h : Heap) (l1 : Addr) : Heap := h.push (itO c1 l1)
def zk2 (c1 c2 : Bool) (h : Heap) (l1 l2 : Addr) : Heap := (zk1 c1 h l1).push (itO c2 l2)
def zk3 (c1 c2 : Bool) (h : Heap) (l1 l2 : Addr) : Heap := (zk2 c1 c2 h l1 l2).push { cls := .type "tuple", data := .seq #[.ref h.objs.size, .ref (zk1 c1 h l1).objs.size] }
def zk4 (c1 c2 : Bool) (h : Heap) (l1 l2 : Addr) : Heap := (zk3 c1 c2 h l1 l2).push { cls := .type "tuple", data := .seq #[.none, .none] }
def zk5 (c1 c2 : Bool) (h : Heap) (l1 l2 : Addr) : Heap := (zk4 c1 c2 h l1 l2).push { cls := .type "zip", data := .fields #[.none, .bool false, .bool false, .ref (zk2 c1 c2 h l1 l2).objs.size, .ref (zk3 c1 c2 h l1 l2).objs.size] }
theorem meets_zk (c1 c2 : Bool) (l1 l2 : Addr) (xs ys : Array Value) :
    Meets (Builtin.«zip.__new__» ⟨[.type "zip", .ref l1, .ref l2], []⟩) (fun _ R s => SqK c1 s.heap l1 xs ∧ SqK c2 s.heap l2 ys ∧ R (.ok (.ret (.ref (zk4 c1 c2 s.heap l1 l2).objs.size))) { s with heap := zk5 c1 c2 s.heap l1 l2 }) :=
  .of_wp fun prog w A R s h => by
    obtain ⟨hp, g, d, tk, os⟩ := s; obtain ⟨hl1, hl2, h⟩ := h
    have hsub := sub_zip
    have hL1 : SqK c1 (Shared.heap ⟨hp, g, d, tk, os⟩) l1 xs := hl1
    have hL2 : SqK c2 (Shared.heap ⟨hp.push (itO c1 l1), g, d, tk, os⟩) l2 ys := SqK.push hl2 _
    wp_walk using pyIterK hL1, pyIterK hL2
    exact ⟨_, rfl, h⟩
theorem call_zipK {prog : Program} {w : World} {A : Around} {E : Value → Shared → Prop} {s : Shared} {c1 c2 : Bool} {l1 l2 : Addr} {xs ys : Array Value} {Q : Value → Shared → Prop} (hl1 : SqK c1 s.heap l1 xs) (hl2 : SqK c2 s.heap l2 ys)
    (h : ∀ h', IsZip h' (s.heap.objs.size + 4) (s.heap.objs.size + 2) (s.heap.objs.size + 3) .none → IsPair h' (s.heap.objs.size + 2) (.ref s.heap.objs.size) (.ref (s.heap.objs.size + 1)) →
      IsPair h' (s.heap.objs.size + 3) .none .none → ItK c1 h' s.heap.objs.size l1 0 → ItK c2 h' (s.heap.objs.size + 1) l2 0 → h'.objs.size = s.heap.objs.size + 5 →
      (∀ c o, s.heap.get? c = some o → h'.get? c = some o) → Q (.ref (s.heap.objs.size + 4)) { s with heap := h' }) : wpAny (model prog w) A (call (.type "zip") [.ref l1, .ref l2]) Q E s := by
  refine callType_new F.called_zip (by decide) (F.typeCall_zip_2 _ _) (F.newCall_zip_2 _ _) (fun obj => F.args_object_init_3 obj _ _) F.entry_zip_new (meets_zk c1 c2 l1 l2 xs ys) ⟨hl1, hl2, ?_⟩
  have n1 : (zk1 c1 s.heap l1).objs.size = s.heap.objs.size + 1 := Heap.size_push ..
  have n2 : (zk2 c1 c2 s.heap l1 l2).objs.size = s.heap.objs.size + 2 := by unfold zk2; rw [Heap.size_push, n1]
  have n3 : (zk3 c1 c2 s.heap l1 l2).objs.size = s.heap.objs.size + 3 := by unfold zk3; rw [Heap.size_push, n2]
  have n4 : (zk4 c1 c2 s.heap l1 l2).objs.size = s.heap.objs.size + 4 := by unfold zk4; rw [Heap.size_push, n3]
  have n5 : (zk5 c1 c2 s.heap l1 l2).objs.size = s.heap.objs.size + 5 := by unfold zk5; rw [Heap.size_push, n4]
  have up3 : ∀ c o, (zk3 c1 c2 s.heap l1 l2).get? c = some o → (zk5 c1 c2 s.heap l1 l2).get? c = some o := fun c o e => Heap.get?_push_of_some _ (Heap.get?_push_of_some _ e)
  have up1 : ∀ c o, (zk1 c1 s.heap l1).get? c = some o → (zk5 c1 c2 s.heap l1 l2).get? c = some o := fun c o e => up3 _ _ (Heap.get?_push_of_some _ (Heap.get?_push_of_some _ e))
  have nf : ∀ (k : Bool) (l : Addr), (itO k l).isFreed = false := fun k l => by cases k <;> rfl
  have e5 : (zk5 c1 c2 s.heap l1 l2).get? (zk4 c1 c2 s.heap l1 l2).objs.size = some _ := Heap.get?_push_size _ rfl
  have e4 : (zk5 c1 c2 s.heap l1 l2).get? (zk3 c1 c2 s.heap l1 l2).objs.size = some _ := Heap.get?_push_of_some _ (Heap.get?_push_size _ rfl)
  have e3 : (zk5 c1 c2 s.heap l1 l2).get? (zk2 c1 c2 s.heap l1 l2).objs.size = some _ := up3 _ _ (Heap.get?_push_size _ rfl)
  have e2 : (zk5 c1 c2 s.heap l1 l2).get? (zk1 c1 s.heap l1).objs.size = some (itO c2 l2) := up3 _ _ (Heap.get?_push_of_some _ (Heap.get?_push_size _ (nf _ _)))
  have e1 : (zk5 c1 c2 s.heap l1 l2).get? s.heap.objs.size = some (itO c1 l1) := up1 _ _ (Heap.get?_push_size _ (nf _ _))
  change _ ∧ _
  rw [n2, n3, n4] at e5
  rw [n1, n2] at e3
  rw [n3] at e4
  rw [n1] at e2
  rw [n4]
  have it : ∀ (k : Bool) (h : Heap) (a l : Addr), h.get? a = some (itO k l) → ItK k h a l 0 := fun k h a l e => by cases k <;> exact ⟨_, e, rfl, rfl⟩
  exact ⟨⟨_, e5, rfl⟩, h _ e5 e3 e4 (it _ _ _ _ e1) (it _ _ _ _ e2) n5 fun c o q => up1 _ _ (Heap.get?_push_of_some _ q)⟩
/-! ### at the layer's values -/
def SqV (k : Bool) (K : PySem.W.Frag) (H : Hp) (a : Addr) (xs : List V) : Prop := match k with
  | true => SqT K H a xs
  | false => SqL K H a xs
/-- what stands at a and b at each turn, the items in new pairs -/
def ItzK (c1 c2 : Bool) (K : PySem.W.Frag) (a b : Addr) : It :=
  ⟨fun i H => ∃ (xs ys : List V) (x y : V), SqV c1 K H a xs ∧ SqV c2 K H b ys ∧ xs[i]? = some x ∧ ys[i]? = some y,
    fun i H v H' => ∃ T x y, v = .ref T ∧ H T = none ∧ H' = upd H T (.tup [x, y]) ∧ (∀ xs, SqV c1 K H a xs → xs[i]? = some x) ∧ ∀ ys, SqV c2 K H b ys → ys[i]? = some y,
    fun i H => ∃ xs ys : List V, SqV c1 K H a xs ∧ SqV c2 K H b ys ∧ (xs.length ≤ i ∨ ys.length ≤ i)⟩
theorem sqV_at {X : Cx} {pins : List (Addr × Obj)} {σ : L2.St} {H : Hp} {s : Shared} (I : Inv X pins σ H s) {k : Bool} {a : Addr} {xs : List V} (h : SqV k X.K H a xs) : ∃ its : List Value, Vals xs its ∧ SqK k s.heap a its.toArray := by
  cases k
  · obtain ⟨its, rv, p, _⟩ := I.list h
    exact ⟨its, rv, p.isList⟩
  · obtain ⟨its, rv, p, _⟩ := I.tuple h
    exact ⟨its, rv, p⟩
theorem sqV_inj {X : Cx} {pins : List (Addr × Obj)} {σ : L2.St} {H : Hp} {s : Shared} (I : Inv X pins σ H s) {k : Bool} {a : Addr} {xs ys : List V} (h : SqV k X.K H a xs) (h2 : SqV k X.K H a ys) : xs = ys := by
  cases k
  · exact I.list_inj h h2
  · exact I.tuple_inj h h2
end Mp

set_option Elab.async false
set_option linter.all false
set_option maxRecDepth 100000
set_option maxHeartbeats 4000000
/-! zip of a tuple and a list: the loop over it -/
namespace Mp
open PySem PySem.Spec PyProof.Rows L2 RZ
theorem mem5 {z TI TO i1 i2 c : Addr} (h : c ∈ [z, TI, TO, i1, i2]) : c = z ∨ c = TI ∨ c = TO ∨ c = i1 ∨ c = i2 := by simpa using h
theorem turn_zipK {c1 c2 : Bool} {P : Program} {w : World} {K : PySem.W.Frag} {elts : List Expr} {kk : Nat} {tpos : Pos} {a b z TI TO i1 i2 : Addr} (D : ZipApart z TI TO i1 i2 a b) :
    Turn P w K (.Tuple elts kk tpos) (ItzK c1 c2 K a b) [z, TI, TO, i1, i2] z (fun i h => IsZip h z TI TO .none ∧ IsPair h TI (.ref i1) (.ref i2) ∧ (∃ x y, IsPair h TO x y) ∧ ItK c1 h i1 a i ∧ ItK c2 h i2 b i) where
  mem := by simp
  obj := fun i h st c hc => by
    obtain ⟨hz, hTI, ⟨x, y, hTO⟩, h1, h2⟩ := st
    obtain ⟨o1, e1, _, d1⟩ := h1.ob
    obtain ⟨o2, e2, _, d2⟩ := h2.ob
    rcases mem5 hc with rfl | rfl | rfl | rfl | rfl
    · exact ⟨_, hz, fun v q => nomatch q⟩
    · exact ⟨_, hTI, fun v q => nomatch q⟩
    · exact ⟨_, hTO, fun v q => nomatch q⟩
    · exact ⟨o1, e1, fun v q => by rw [d1] at q; cases q⟩
    · exact ⟨o2, e2, fun v q => by rw [d2] at q; cases q⟩
  keep := fun i h h' st k => by
    obtain ⟨hz, hTI, ⟨x, y, hTO⟩, h1, h2⟩ := st
    exact ⟨k z (by simp) _ hz, k TI (by simp) _ hTI, ⟨x, y, k TO (by simp) _ hTO⟩, h1.up fun o q => k i1 (by simp) o q, h2.up fun o q => k i2 (by simp) o q⟩
  item := by
    intro X hP hw hK hc i pins s σ H E I hf st hg
    subst hP hw hK
    obtain ⟨hz, hTI, ⟨x0, y0, hTO⟩, h1, h2⟩ := st
    obtain ⟨xs, ys, x, y, hqx, hqy, hx, hy⟩ := hg
    obtain ⟨its, rv, p⟩ := sqV_at I hqx
    obtain ⟨its2, rv2, p2⟩ := sqV_at I hqy
    obtain ⟨u, hu, ru⟩ := rv.get hx
    obtain ⟨u2, hu2, ru2⟩ := rv2.get hy
    have hzl : z < s.heap.objs.size := Heap.lt_size hz
    refine pyNext_zipK D hz hTI hTO h1 h2 p p2 (x := u) (y := u2) (by simpa using hu) (by simpa using hu2) fun h' z' TO' h1' h2' hT hsz hk => ?_
    refine ⟨_, rfl, wpAny_letOwnedTupleGo_zip (s := { s with heap := h' }) z' fun h'' z'' sb => ?_⟩
    have hT2 : h''.get? s.heap.objs.size = some { cls := .type "tuple", data := .seq #[u, u2] } := (sb.2 _ (Nat.ne_of_gt hzl)).trans hT
    have new : ObjOk X.prog X.w (upd H s.heap.objs.size (.tup [x, y])) h'' s.heap.objs.size (.tup [x, y]) :=
      ⟨by show 2 ≤ sizeLine; decide, [u, u2], .cons ru (.cons ru2 .nil), ⟨_, hT2, rfl, _, rfl⟩⟩
    have far : ∀ c o, c ∉ [z, TI, TO, i1, i2] → s.heap.get? c = some o → h''.get? c = some o := fun c o hb q => by
      simp only [List.mem_cons, List.not_mem_nil, or_false, not_or] at hb
      exact (sb.2 c hb.1).trans (hk c o hb.1 hb.2.2.1 hb.2.2.2.1 hb.2.2.2.2 q)
    have I1 : Inv X pins σ (upd H s.heap.objs.size (.tup [x, y])) { s with heap := h'' } := I.turnedNew (t' := s.toks) (ch := [z, TI, TO, i1, i2]) far hf (Nat.le_refl _) new
    refine ⟨.ref s.heap.objs.size, _, I1, rfl, ⟨_, x, y, rfl, I.hok.fresh (Nat.le_refl _), rfl, fun l hl => by rw [sqV_inj I hl hqx]; exact hx, fun l hl => by rw [sqV_inj I hl hqy]; exact hy⟩, ⟨z'', ?_, ⟨u, u2, ?_⟩, ?_, ?_⟩, fun c hcm => ?_⟩
    · exact (sb.2 _ D.TIz).trans (hk _ _ D.TIz D.TITO D.TIi1 D.TIi2 hTI)
    · exact (sb.2 _ D.TOz).trans TO'
    · exact h1'.up fun o q => (sb.2 _ D.i1z).trans q
    · exact h2'.up fun o q => (sb.2 _ D.i2z).trans q
    · have hlt : c < s.heap.objs.size := by
        obtain ⟨o1, e1, _⟩ := h1.ob
        obtain ⟨o2, e2, _⟩ := h2.ob
        rcases mem5 hcm with rfl | rfl | rfl | rfl | rfl
        · exact hzl
        · exact Heap.lt_size hTI
        · exact Heap.lt_size hTO
        · exact Heap.lt_size e1
        · exact Heap.lt_size e2
      rw [upd_ne (Nat.ne_of_lt hlt)]
      exact (hf c hcm).1
  done := by
    intro X hP hw hK hc i pins s σ H E I hf st hg
    subst hP hw hK
    obtain ⟨hz, hTI, ⟨x0, y0, hTO⟩, h1, h2⟩ := st
    obtain ⟨xs, ys, hqx, hqy, hend⟩ := hg
    obtain ⟨its, rv, p⟩ := sqV_at I hqx
    obtain ⟨its2, rv2, p2⟩ := sqV_at I hqy
    have l1 := rv.length
    have l2 := rv2.length
    have he : its.toArray[i]? = none ∨ its2.toArray[i]? = none := hend.imp (fun q => by simp; omega) (fun q => by simp; omega)
    refine pyNext_zipK_end (I.ok.hd hc) D hz hTI hTO h1 h2 p p2 he fun h' hk => ⟨rfl, I.turnedL (t' := s.toks) (ch := [z, TI, TO, i1, i2]) (fun c o hb q => ?_) hf⟩
    simp only [List.mem_cons, List.not_mem_nil, or_false, not_or] at hb
    exact hk c o hb.1 hb.2.2.1 hb.2.2.2.1 hb.2.2.2.2 q
  self := fun A i s Q E st h => wpAny_pyIter_zip st.1 h
def iZipM (K : PySem.W.Frag) (ta : TA) : TI := fun σ H R => ta σ H fun vs H1 => ∃ c1 c2 a b xs ys, vs = [.ref a, .ref b] ∧ SqV c1 K H1 a xs ∧ SqV c2 K H1 b ys ∧ R (ItzK c1 c2 K a b) H1
theorem SqK.lt {k : Bool} {h : Heap} {a xs} (x : SqK k h a xs) : a < h.objs.size := by
  cases k <;> exact let ⟨o, h1, _⟩ := x; Heap.lt_size h1
theorem pi_zipM {X : Cx} {e e2 : Expr} {ta : TA} {p pos tpos : Pos} {elts : List Expr} {kk : Nat} (hg : Gl X "zip") (hm : X.mg "zip" = none) (ha : PA X [e, e2] ta)
    (hs : starEach [e, e2] X.env = (false, eval e X.env) :: starEach [e2] X.env := by rfl) (hpl : (backTo pos (starEach [e2] X.env)).any (·.1) = false := by rfl) :
    PI X (.Tuple elts kk tpos) (.Call (.Name "zip" p) [e, e2] [] pos) (iZipM X.K ta) := by
  refine ⟨fun pins s σ H R I h => ?_⟩
  refine Call_ (ld_blt I hg hm PyProof.Rows.boot_zip (PyProof.Rows.callWith_type1 (thn (ha.run pos pins s σ H _ I h) fun us s1 ⟨vs, H1, I1, r1, q1⟩ => ?_) hs hpl))
  obtain ⟨c1, c2, a, b, xs, ys, rfl, hqx, hqy, q⟩ := q1
  cases r1 with
  | cons r rr =>
    cases rr with
    | cons r' rr =>
      cases rr
      cases r
      cases r'
      obtain ⟨its, rv, p1⟩ := sqV_at I1 hqx
      obtain ⟨its2, rv2, p2⟩ := sqV_at I1 hqy
      refine call_zipK p1 p2 fun h' hz hTI hTO h1 h2 hsz hk => wpAny_pyIter_zip hz ?_
      have I2 : Inv X pins σ H1 { s1 with heap := h' } := I1.kept (t' := s1.toks) hk
      refine ⟨s1.heap.objs.size + 4, [s1.heap.objs.size + 4, s1.heap.objs.size + 2, s1.heap.objs.size + 3, s1.heap.objs.size, s1.heap.objs.size + 1], _, _, H1, rfl, I2, turn_zipK (PySem.W.ktu_apart s1.heap.objs.size a b p1.lt p2.lt), ⟨hz, hTI, ⟨_, _, hTO⟩, h1, h2⟩, fun c hc => ?_, q⟩
      have hle : s1.heap.objs.size ≤ c := by rcases mem5 hc with rfl | rfl | rfl | rfl | rfl <;> omega
      exact I1.fpOk hle (I1.hok.fresh hle)
/-! ### in the layer's store -/
/-- what stands: the values of x, as long as the store says so -/
structure StK (k : Bool) (K : PySem.W.Frag) (Y : Sy) (ρ : List Addr) (H : Hp) (a : Addr) (xs : List Val) (C : Store → Prop) : Prop where
  at_ : ∀ ρ' H' S, Pre ρ ρ' → Ext H H' → Sim K Y ρ' H' S → C S → ∃ vs, SqV k K H' a vs ∧ Reps K ρ' H' vs xs
section
variable {K : PySem.W.Frag} {Y : Sy} {ρ : List Addr} {H : Hp} {a b : Addr} {xs ys : List Val} {C C2 : Store → Prop} {c1 c2 : Bool}
theorem StK.tup {vs : List V} (e : H a = some (.tup vs)) (r : Reps K ρ H vs xs) : StK true K Y ρ H a xs fun _ => True := ⟨fun ρ' H' S p q s c => ⟨vs, SqT.of (q _ _ trivial e), r.up p q⟩⟩
theorem StK.lst {n : Nat} (h : ρ[n]? = some a) : StK false K Y ρ H a xs fun S => S[n]? = some (.lst xs) := ⟨fun ρ' H' S p q s c => by
  obtain ⟨vs, e, r⟩ := s.lst (p _ _ h) c
  exact ⟨vs, SqL.of e, r⟩⟩
theorem JRep.zipK (h1 : StK c1 K Y ρ H a xs C) (h2 : StK c2 K Y ρ H b ys C2) : JRep K Y ρ H (ItzK c1 c2 K a b) (Mp.zipL xs ys, fun S => C S ∧ C2 S) := by
  refine ⟨fun i ρ' H' S p q s c hi => ?_, fun i ρ' H' S p q s c hi => ?_, fun i ρ' H' S v H2 p q s c hi hy => ?_⟩ <;>
    obtain ⟨vs, q1, r1⟩ := h1.at_ ρ' H' S p q s c.1 <;> obtain ⟨ws, q2, r2⟩ := h2.at_ ρ' H' S p q s c.2
  · rw [zipL_length] at hi
    have l1 : i < vs.length := by rw [r1.length]; omega
    have l2 : i < ws.length := by rw [r2.length]; omega
    exact ⟨vs, ws, vs[i], ws[i], q1, q2, List.getElem?_eq_getElem l1, List.getElem?_eq_getElem l2⟩
  · rw [zipL_length] at hi
    exact ⟨vs, ws, q1, q2, by rw [r1.length, r2.length]; omega⟩
  · obtain ⟨T, x, y, rfl, hT, rfl, g1, g2⟩ := hy
    obtain ⟨x', e1, w1⟩ := r1.getV (g1 vs q1)
    obtain ⟨y', e2, w2⟩ := r2.getV (g2 ws q2)
    have e3 := Ext.new (o := .tup [x, y]) hT
    exact ⟨.tup [x', y'], by rw [Mp.zipL_get]; simp [e1, e2], e3, s.other hT, .tup upd_same (.cons (w1.up (Pre.refl _) e3) (.cons (w2.up (Pre.refl _) e3) .nil))⟩
end
def kZipM (vs : List Val) (S1 : Store) : Out Itm := match vs with
  | [.tup xs, .ref m] => match S1[m]? with
    | some (.lst ys) => .ok (zipL xs ys, fun S => True ∧ S[m]? = some (.lst ys)) S1
    | _ => .bad
  | [.ref n, .tup ys] => match S1[n]? with
    | some (.lst xs) => .ok (zipL xs ys, fun S => S[n]? = some (.lst xs) ∧ True) S1
    | _ => .bad
  | _ => .bad
def iZip2M (fa : En → Store → Out (List Val)) : En → Store → Out Itm := fun env S => (fa env S).bind kZipM
section
variable {X : Cx} {Y : Sy} {W : WX} {a b : Expr} {ga : En → Store → Out (List Val)} {p pos : Pos}
theorem si_zipM {tpos : Pos} {elts : List Expr} {kk : Nat} (hg : Gl X "zip") (hm : X.mg "zip" = none) (ha : SA X Y W [a, b] ga)
    (hs : starEach [a, b] X.env = (false, eval a X.env) :: starEach [b] X.env := by rfl) (hpl : (backTo pos (starEach [b] X.env)).any (·.1) = false := by rfl) : SI X Y W (.Tuple elts kk tpos) (.Call (.Name "zip" p) [a, b] [] pos) (iZip2M ga) := by
  refine PI.imp (pi_zipM hg hm ha hs hpl) fun σ H R h => ?_
  refine tG.bind (k := fun _ => kZipM) h fun ρ env vs xs H1 S1 he hs rx hp => ?_
  unfold kZipM at hp
  split at hp
  · obtain ⟨v, w, rfl, r1, r2⟩ := reps2 rx
    split at hp
    · rename_i ys ey
      cases r1 with | @tup c ws _ e1 r1 => cases r2 with | @ref d m hm =>
      obtain ⟨us, q2, _⟩ := hs.lst hm ey
      exact ⟨true, false, c, d, ws, us, rfl, SqT.of e1, SqL.of q2, hp _ ρ H1 (Pre.refl _) (Ext.refl _) hs (JRep.zipK (StK.tup e1 r1) (StK.lst hm))⟩
    · exact hp.elim
  · obtain ⟨v, w, rfl, r1, r2⟩ := reps2 rx
    split at hp
    · rename_i ys ey
      cases r1 with | @ref c n hn => cases r2 with | @tup d us _ e2 r2 =>
      obtain ⟨ws, q1, _⟩ := hs.lst hn ey
      exact ⟨false, true, c, d, ws, us, rfl, SqL.of q1, SqT.of e2, hp _ ρ H1 (Pre.refl _) (Ext.refl _) hs (JRep.zipK (StK.lst hn) (StK.tup e2 r2))⟩
    · exact hp.elim
  · exact hp.elim
end
section
variable {env : En} {S : Store} {PI : Itm → Store → Prop} {E : XO} {xs ys : List Val} {n : Nat}
@[simp] theorem wO_iZip2M {fa : En → Store → Out (List Val)} : wO (iZip2M fa env S) PI E = wO (fa env S) (fun xs S1 => wO (kZipM xs S1) PI E) E := wO_bind
theorem wO_zipTL (h : S[n]? = some (.lst ys)) : wO (kZipM [.tup xs, .ref n] S) PI E = PI (zipL xs ys, fun S => True ∧ S[n]? = some (.lst ys)) S := by
  show wO (match S[n]? with
    | some (.lst ys) => .ok (zipL xs ys, fun S => True ∧ S[n]? = some (.lst ys)) S
    | _ => .bad) PI E = _
  rw [h]; rfl
theorem wO_zipLT (h : S[n]? = some (.lst xs)) : wO (kZipM [.ref n, .tup ys] S) PI E = PI (zipL xs ys, fun S => S[n]? = some (.lst xs) ∧ True) S := by
  show wO (match S[n]? with
    | some (.lst xs) => .ok (zipL xs ys, fun S => S[n]? = some (.lst xs) ∧ True) S
    | _ => .bad) PI E = _
  rw [h]; rfl
end
end Mp

set_option Elab.async false
set_option linter.all false
set_option maxRecDepth 100000
set_option maxHeartbeats 4000000
/-! A def that is called in a suite with the caught error as its one argument, and asks isinstance of it. -/
namespace Mp
open PySem PySem.Spec PySem.Calls PyProof.Rows L2 L2H
/-! ### isinstance of an error that is pinned -/
theorem call_isP {X : Cx} {a D : Addr} {oe : Obj} {d : Option Addr} (hp : (a, oe) ∈ X.pn) (C : ExcC X.K D) (hz : Zc (.ref D) d oe) (hf : ∃ vs, oe.data = .fields vs) : CallR X (.builtin "isinstance") (rIsX X.K D a d) := by
  intro pins s σ H xs us Q I r h
  obtain ⟨c, cv, b, rfl, hcv, e, hd, k⟩ := h
  match us, r with
  | [u1, u2], .cons r1 (.cons r2 .nil) =>
    obtain rfl : u1 = Value.ref a := r1
    obtain rfl : u2 = cv := hcv.eq r2
    have at_ := (I.pin (a, oe) (List.mem_append_left _ hp)).1
    obtain ⟨vs, hv⟩ := hf
    obtain ⟨z1, z2⟩ := hz
    have J : ∃ od, PySem.W.InstAt s.heap a oe D od := by
      rcases hd with rfl | ⟨dd, gs, rfl, h1⟩
      · refine ⟨none, at_, z1, by simp only [PySem.W.notCls, hv], by rw [z2]; trivial⟩
      · obtain ⟨mA, ⟨o1, es, ep, e1, c1⟩, _⟩ := (show ObjOk X.prog X.w H s.heap dd (.xd gs) from I.hok dd _ h1)
        refine ⟨some o1, at_, z1, by simp only [PySem.W.notCls, hv], ?_⟩
        rw [z2]
        exact e1
    exact PySem.W.kia_one (exc_kit C) I.kIn J e (by simp) fun tk => ⟨.bl b, H, I.kept (t' := tk) fun _ _ z => z, rfl, k⟩
section
variable {X : Cx} {Y : Sy} {W : WX} {i : Nat} {nm c : Str} {a : Addr} {oe : Obj} {cls : Value} {d : Option Addr} {fs : List (Str × Val)} {m : Str → Bool} {q : Str} {p p1 p2 pos : Pos}
theorem sp_isE (hpn : (a, oe) ∈ X.pn) (F : IsEAt X.K X.mg Y c m) (hq : Y.er q = some cls) (hz : Zc cls d oe) (hf : ∃ vs, oe.data = .fields vs) (hg : Gl X "isinstance") (hm : X.mg "isinstance" = none) (hg2 : Gl X c)
    (hN : X.N[i]? = some nm) (hv : X.env.scope.names.lookup nm = some .local) (hdc : (c == ("__debug__" : Str)) = false := by decide) (hd : (nm == ("__debug__" : Str)) = false := by decide) (hcd : (nm == ("__classdict__" : Str)) = false := by decide)
    (he : starEach [.Name nm p1, .Name c p2] X.env = (false, eval (.Name nm p1) X.env) :: starEach [.Name c p2] X.env := by rfl) (hpl : (backTo pos (starEach [.Name c p2] X.env)).any (·.1) = false := by rfl) (h2 : starEach [.Name c p2] X.env = (false, eval (.Name c p2) X.env) :: starEach [] X.env := by rfl) :
    SE X { Y with xi := some (i, a, cls, d, fs) } W (.Call (.Name "isinstance" p) [.Name nm p1, .Name c p2] [] pos) (eC (.bl (m q))) := by
  obtain ⟨C, hmc, hF⟩ := F.ex
  obtain ⟨D, rfl, hC, hk⟩ := hF q cls hq
  refine PE.imp (pe_callB (call_isP hpn hC hz hf) hg hm (by decide +kernel) (pa_cons (pe_var (i := i) hN (.inl hv) hd hcd) (pa_cons (pe_glob hg2 hmc hdc) pa_nil h2) he) (he := he) (hpl := hpl)) fun σ H Q h => ?_
  obtain ⟨ρ, env, S, he', hs, h⟩ := h
  obtain ⟨h1, h3⟩ := he'.xi i a (.ref D) d fs rfl
  refine ⟨.ref a, h1, .ref C, .ref C, m q, rfl, .own C, hk, ?_, h (.bl (m q)) ρ H (Pre.refl _) (Ext.refl _) hs (.bl _)⟩
  rcases h3 with ⟨_, rfl⟩ | ⟨dd, gs, rfl, e1, _⟩
  · exact .inl rfl
  · exact .inr ⟨dd, gs, rfl, e1⟩
theorem sp_isET {T : String} (hpn : (a, oe) ∈ X.pn) (F : IsETy X.K Y T m) (hq : Y.er q = some cls) (hz : Zc cls d oe) (hf : ∃ vs, oe.data = .fields vs) (hg : Gl X "isinstance") (hm : X.mg "isinstance" = none) (hg2 : Gl X c) (hm2 : X.mg c = none) (hb : bootBuiltins c = some (.type T))
    (hN : X.N[i]? = some nm) (hv : X.env.scope.names.lookup nm = some .local) (hn : c ≠ "__name__" := by decide) (hdc : (c == ("__debug__" : Str)) = false := by decide) (hd : (nm == ("__debug__" : Str)) = false := by decide) (hcd : (nm == ("__classdict__" : Str)) = false := by decide)
    (he : starEach [.Name nm p1, .Name c p2] X.env = (false, eval (.Name nm p1) X.env) :: starEach [.Name c p2] X.env := by rfl) (hpl : (backTo pos (starEach [.Name c p2] X.env)).any (·.1) = false := by rfl) (h2 : starEach [.Name c p2] X.env = (false, eval (.Name c p2) X.env) :: starEach [] X.env := by rfl) :
    SE X { Y with xi := some (i, a, cls, d, fs) } W (.Call (.Name "isinstance" p) [.Name nm p1, .Name c p2] [] pos) (eC (.bl (m q))) := by
  obtain ⟨D, rfl, hC, hk⟩ := F.ex q cls hq
  refine PE.imp (pe_callB (call_isP hpn hC hz hf) hg hm (by decide +kernel) (pa_cons (pe_var (i := i) hN (.inl hv) hd hcd) (pa_cons (pe_bltn (v := .ty T) hg2 hm2 hb rfl hn hdc) pa_nil h2) he) (he := he) (hpl := hpl)) fun σ H Q h => ?_
  obtain ⟨ρ, env, S, he', hs, h⟩ := h
  obtain ⟨h1, h3⟩ := he'.xi i a (.ref D) d fs rfl
  refine ⟨.ref a, h1, .ty T, .type T, m q, rfl, .ty T, hk, ?_, h (.bl (m q)) ρ H (Pre.refl _) (Ext.refl _) hs (.bl _)⟩
  rcases h3 with ⟨_, rfl⟩ | ⟨dd, gs, rfl, e1, _⟩
  · exact .inl rfl
  · exact .inr ⟨dd, gs, rfl, e1⟩
end
/-! ### the def -/
/-- what it promises: g by the error's name -/
def spE (K : PySem.W.Frag) (Y : Sy) (g : Str → Store → Out Val) (a : Addr) (oe : Obj) (H : Hp) (Q : VK) : Prop :=
  ∃ q cls d fs ρ S, Y.er q = some cls ∧ Zc cls d oe ∧ (∃ vs, oe.data = .fields vs) ∧ ((fs = [] ∧ d = none) ∨ ∃ dd gs, d = some dd ∧ H dd = some (.xd gs) ∧ RepK K ρ H gs fs) ∧ Sim K Y ρ H S ∧ Post K Y (fun _ _ _ => False) ρ H (RV K) Q (g q S)
structure FnE (P : Program) (w : World) (K : PySem.W.Frag) (mg : Str → Option Value) (base : Heap) (Y : Sy) (k : Nat) (f : Addr) (fd : FuncData) (ps : List Str) (g : Str → Store → Out Val) : Prop where
  one : ps.length = 1
  run : ∀ (A : Around) (outer : List Env) (s : Shared) (H : Hp) (args : Args) (a : Addr) (oe : Obj) (Q : VK), RoomH k A → PinOk outer H s (a, oe) → Env0 P w K mg base A outer s H → BindsTo s fd args (ps.zip [Value.ref a]) → spE K Y g a oe H Q →
    codeAny (model P w) A (.call (.ref f) args) (CR (fun _ _ _ _ _ _ => False) outer P w H s Q (fun _ _ _ => False)) s
def fnE (N : Nat) (g : Str → En → Store → Res) : Str → Store → Out Val := fun q S => match g q (List.replicate N none) S with
  | .nx _ S1 => .ok .non S1
  | .rt v S1 => .ok v S1
  | _ => .bad
theorem fnE_ok {P : Program} {w : World} {K : PySem.W.Frag} {mg : Str → Option Value} {base : Heap} {Y : Sy} {x qual : Str} {st : Stmt} {f : Addr} {fd : FuncData} {N ps : List Str} {k : Nat} {g : Str → En → Store → Res} (F : Fun K x qual st f fd) (S : FnScope N ps (defScope st)) (h1 : ps.length = 1)
    (hb : ∀ (cdv : Value) (A : Around) (outer : List Env) (s : Shared) (H : Hp) (a : Addr) (oe : Obj) (q : Str) (cls : Value) (d : Option Addr) (fs : List (Str × Val)), Y.er q = some cls → Zc cls d oe → (∃ vs, oe.data = .fields vs) → (a, oe) ∈ (cxH (fun _ _ _ _ _ _ => False) P w K mg base N qual (defScope st) f cdv A outer s H (fun _ _ _ => False) (a, oe)).pn →
      Cs (cxH (fun _ _ _ _ _ _ => False) P w K mg base N qual (defScope st) f cdv A outer s H (fun _ _ _ => False) (a, oe)) →
      SSs (cxH (fun _ _ _ _ _ _ => False) P w K mg base N qual (defScope st) f cdv A outer s H (fun _ _ _ => False) (a, oe)) { Y with xi := some (0, a, cls, d, fs) } W0 (defBody st) (g q)) :
    FnE P w K mg base Y (k + 1) f fd ps (fnE N.length g) := by
  refine ⟨h1, fun A outer s H args a oe Q hr hpin e0 hbn hsp => ?_⟩
  obtain ⟨oc, od, kV, doc, pm, an, cdv, ct, osl, rfl, lk, hcd⟩ := F.ex
  have KX : K.In s.heap := e0.mod.kin.keeps fun b o e => (e0.bs b o e).1
  have lim : s.heap.NoLimit := e0.mod.nolimit.keeps fun b o e => (e0.bs b o e).1
  have hkind : ∀ y ∈ ps.zip [Value.ref a], (defScope st).names.lookup y.1 = some .local ∨ ((defScope st).names.lookup y.1 = some .cell ∧ ((cellsFrom (s.heap.objs.size + 1) (defScope st).names []).lookup y.1).isSome = true) := fun ⟨n, v⟩ hy => by
    rcases S.par n (List.of_mem_zip hy).1 with q | q
    · exact .inl q
    · exact .inr ⟨q, PySem.W.cellsFrom_some _ _ _ (.inl q)⟩
  refine codeAny_call_function hr.depth (KX _ _ lk) rfl S.co S.gen rfl (PySem.W.codeRec_of KX hcd) (hbn _ _ _ _ ?_)
  refine wpAny_newFunctionEnv_cells S.kind hkind fun env he s1 x => ?_
  subst he
  refine ⟨lim.keeps x.toInCall.keep, codeAny_func ?_⟩
  have I := inv_startH (CX := fun _ _ _ _ _ _ => False) (E := fun _ _ _ => False) S hpin e0 (vs := [V.ref a]) h1.symm (.cons rfl .nil) x
  obtain ⟨q, cls, d, fs, ρ, S0, hq, hz, hf, hd, hs, hp⟩ := hsp
  have hrd := hr.deeper (envOfC qual (defScope st) s.heap.objs.size f cdv)
  have cs : Cs (cxH (fun _ _ _ _ _ _ => False) P w K mg base N qual (defScope st) f cdv A outer s H (fun _ _ _ => False) (a, oe)) := ⟨S.nd, by have := hrd.un; show _ < _; first | exact Nat.lt_of_le_of_lt (by omega) this | (have h3 := this; simp only [cxH, cxOf] at *; omega)⟩
  have body := hb cdv A outer s H a oe q cls d fs hq hz hf List.mem_cons_self cs
  have hN : 1 ≤ N.length := by have := congrArg List.length S.pre; rw [List.length_take] at this; omega
  refine wpAny_mono (body.run [] s1 (L2.start N [V.ref a]) H { nx := fun _ H' => Q .non H', rt := Q } I ?_) (fun fl s' hs' => ?_) fun e s' hs' => ?_
  · refine ⟨ρ, List.replicate N.length none, S0, ⟨?_, fun i y hi => ?_, fun n b cv d' fs' z => ?_⟩, hs.y rfl, ?_⟩
    · unfold L2.start; simp; omega
    · have := List.mem_of_getElem? hi
      simp [List.mem_replicate] at this
    · cases z
      exact ⟨by unfold L2.start; rfl, hd⟩
    · unfold fnE at hp
      show PostS K _ _ ρ H _ (g q _ S0)
      generalize hgr : g q (List.replicate N.length none) S0 = r at hp
      cases r with
      | nx e1 S1 => exact fun σ' ρ' H' p e z s => hp _ ρ' H' p e (s.y rfl) .non
      | rt v S1 => exact fun v ρ' H' p e s r => hp v ρ' H' p e (s.y rfl) r
      | bk e1 S1 => exact (show False from hp).elim
      | ct e1 S1 => exact (show False from hp).elim
      | er c fs e1 S1 => exact (show False from hp).elim
      | bad => exact hp
  · have fin : ∀ {σ' : L2.St} {H' : Hp} {v : V} {u : Value}, Inv (cxH (fun _ _ _ _ _ _ => False) P w K mg base N qual (defScope st) f cdv A outer s H (fun _ _ _ => False) (a, oe)) [] σ' H' s' → RelV v u → Q v H' → CE outer P w H s Q u s' :=
      fun {σ' H' v u} J rv q => ⟨v, H', J.os, J.bare, J.base, J.hok, rv, q⟩
    cases fl with
    | ret u =>
      obtain ⟨v, σ', H', J, rv, q⟩ := hs'
      exact fin J rv q
    | next =>
      obtain ⟨σ', H', J, q⟩ := hs'
      exact fin (v := V.non) (u := Value.none) J rfl q
    | brk =>
      obtain ⟨_, _, _, q⟩ := hs'
      exact False.elim q
    | cont =>
      obtain ⟨_, _, _, q⟩ := hs'
      exact False.elim q
  · exact hs'
end Mp

set_option Elab.async false
set_option linter.all false
set_option maxRecDepth 100000
set_option maxHeartbeats 4000000
/-! The call of such a def in a suite; xs.index(y), xs.count(y) of flat things. -/
namespace Mp
open PySem PySem.Spec PySem.Calls PyProof.Rows L2 L2H
theorem FnE.mono {P : Program} {w : World} {K : PySem.W.Frag} {mg : Str → Option Value} {base : Heap} {Y : Sy} {j k : Nat} {f : Addr} {fd : FuncData} {ps : List Str} {g : Str → Store → Out Val} (F : FnE P w K mg base Y j f fd ps g) (h : j ≤ k) : FnE P w K mg base Y k f fd ps g :=
  ⟨F.one, fun A outer s H args a oe Q hr => F.run A outer s H args a oe Q (hr.mono h)⟩
structure EfAt (P : Program) (w : World) (K : PySem.W.Frag) (mg : Str → Option Value) (base : Heap) (Y : Sy) (k : Nat) (x : Str) (g : Str → Store → Out Val) : Prop where
  ex : ∃ f fd ps, FnE P w K mg base Y k f fd ps g ∧ mg x = some (.ref f) ∧ PySem.W.keepIn K (.ref f) = true ∧ Binds K fd ps []
  ne : ∀ q S c fs S1, g q S ≠ .err c fs S1
theorem fnE_ne {N : Nat} {g : Str → En → Store → Res} (q : Str) (S : Store) (c : Str) (fs : List (Str × Val)) (S1 : Store) : fnE N g q S ≠ .err c fs S1 := by
  unfold fnE
  split <;> simp
theorem EfAt.of {P : Program} {w : World} {K : PySem.W.Frag} {mg : Str → Option Value} {base : Heap} {Y : Sy} {x qual : Str} {st : Stmt} {f : Addr} {fd : FuncData} {N ps : List Str} {k : Nat} {g : Str → En → Store → Res} (F : FunS K x qual st f fd) (hm : mg x = some (.ref f)) (S : FnScope N ps (defScope st)) (hb : BindsS x qual st ps) (h1 : ps.length = 1)
    (h : ∀ (cdv : Value) (A : Around) (outer : List Env) (s : Shared) (H : Hp) (a : Addr) (oe : Obj) (q : Str) (cls : Value) (d : Option Addr) (fs : List (Str × Val)), Y.er q = some cls → Zc cls d oe → (∃ vs, oe.data = .fields vs) → (a, oe) ∈ (cxH (fun _ _ _ _ _ _ => False) P w K mg base N qual (defScope st) f cdv A outer s H (fun _ _ _ => False) (a, oe)).pn →
      Cs (cxH (fun _ _ _ _ _ _ => False) P w K mg base N qual (defScope st) f cdv A outer s H (fun _ _ _ => False) (a, oe)) →
      SSs (cxH (fun _ _ _ _ _ _ => False) P w K mg base N qual (defScope st) f cdv A outer s H (fun _ _ _ => False) (a, oe)) { Y with xi := some (0, a, cls, d, fs) } W0 (defBody st) (g q)) : EfAt P w K mg base Y (k + 1) x (fnE N.length g) :=
  ⟨⟨f, fd, ps, fnE_ok F.fun S h1 h, hm, F.kp, F.fun.binds hb⟩, fnE_ne⟩
/-- f(e) -/
def eE (g : Str → Store → Out Val) (q : Str) : En → Store → Out Val := fun _ S => g q S
section
variable {X : Cx} {Y : Sy} {W W' : WX} {k kc i : Nat} {x nm : Str} {a : Addr} {oe : Obj} {cls : Value} {d : Option Addr} {pn : List (Addr × Obj)} {fs : List (Str × Val)} {q : Str} {p p1 pos : Pos} {g : Str → Store → Out Val}
theorem se_callE (c : Cc X Y W kc) (F : EfAt X.prog X.w X.K X.mg X.base Y k x g) (hk : k ≤ kc) (hq : Y.er q = some cls) (hz : Zc cls d oe) (hf : ∃ vs, oe.data = .fields vs) (hg : Gl X x) (hN : X.N[i]? = some nm) (hv : X.env.scope.names.lookup nm = some .local)
    (hdb : (x == ("__debug__" : Str)) = false := by decide) (hd : (nm == ("__debug__" : Str)) = false := by decide) (hcd : (nm == ("__classdict__" : Str)) = false := by decide)
    (he : starEach [.Name nm p1] X.env = (false, eval (.Name nm p1) X.env) :: starEach [] X.env := by rfl) (hpl : (backTo pos (starEach [] X.env)).any (·.1) = false := by rfl) :
    SE (X.suite a ((a, oe) :: pn)) { Y with xi := some (i, a, cls, d, fs) } W' (.Call (.Name x p) [.Name nm p1] [] pos) (eE g q) := by
  obtain ⟨f, fd, ps, F0, hm, kp, hb⟩ := F.ex
  have F1 := F0.mono hk
  have ha : PA (X.suite a ((a, oe) :: pn)) [.Name nm p1] _ := pa_cons (pe_var (i := i) hN (.inl hv) hd hcd) pa_nil he
  refine ⟨fun pins s σ H Q I h => ?_⟩
  obtain ⟨ρ, env, S, he', hs, h⟩ := h
  obtain ⟨h1, h3⟩ := he'.xi i a cls d fs rfl
  refine wpAny_Call_Name_kw (ld_glob (X := X.suite a ((a, oe) :: pn)) I hg hm ?_ hdb)
  refine PySem.W.callWith_K (h₀ := X.base) I.ok.mod.kin kp (thn (ha.run pos pins s σ H (fun vs H1 => vs = [V.ref a] ∧ H1 = H) I ⟨.ref a, h1, rfl, rfl⟩) fun us s1 ⟨vs, H1, I1, r, ev, eh⟩ => ⟨I1.kIn, ?_⟩) he hpl
  subst ev eh
  obtain ⟨u, rfl, ru⟩ := vals1 r
  obtain rfl : u = Value.ref a := ru
  have P1 := I1.pin (a, oe) (List.mem_append_left _ List.mem_cons_self)
  have hpin : PinOk (X.suite a ((a, oe) :: pn)).stack H1 s1 (a, oe) := ⟨P1.1, P1.2.1, fun hm => (List.mem_cons.mp (I1.stkSub a hm)).elim P1.2.2.1 P1.2.2.2.1, P1.2.2.2.2⟩
  have b := hb s1 [Value.ref a] I1.kIn (by rw [List.append_nil]; exact F1.one.symm)
  rw [List.append_nil] at b
  have hsp : spE X.K Y g a oe H1 Q := by
    refine ⟨q, cls, d, fs, ρ, S, hq, hz, hf, h3, hs.y rfl, ?_⟩
    unfold eE at h
    have hne := F.ne q S
    generalize g q S = o at h hne
    cases o with
    | ok v S1 => exact fun v' ρ' H' p e s r => h v' ρ' H' p e (s.y rfl) r
    | err c fs S1 => exact absurd rfl (hne c fs S1)
    | bad => exact h
  refine wpAny_call (codeAny_mono (F1.run (X.suite a ((a, oe) :: pn)).A (X.suite a ((a, oe) :: pn)).stack s1 H1 ⟨[Value.ref a], []⟩ a oe Q ⟨c.room.dp, c.room.un⟩ hpin I1.env0 b hsp) fun r s' hq' => ?_)
  cases r with
  | error e => exact False.elim hq'
  | ok fl =>
    cases fl with
    | ret u => exact I1.after hq'
    | next => exact False.elim hq'
    | brk => exact False.elim hq'
    | cont => exact False.elim hq'
end
/-! ### xs.index(y), xs.count(y) -/
section
variable {X : Cx}
def rCount (K : PySem.W.Frag) : V → List V → Hp → VK → Prop := fun x xs H Q => ∃ (a : Addr) (ys : List V) (y : V), x = V.ref a ∧ xs = [y] ∧ SqL K H a ys ∧ flatV y = true ∧ ys.all flatV = true ∧ Q (.int ((ys.countP fun z => eqV z y : Nat) : Int)) H
theorem count_eqU {y : V} : ∀ {ys : List V} {us : List Value}, Vals ys us → ys.all flatV = true → us.countP (eqU y) = ys.countP fun z => eqV z y
  | _, _, .nil, _ => rfl
  | z :: ys, u :: us, .cons r t, f => by
    rw [List.all_cons, Bool.and_eq_true] at f
    rw [List.countP_cons, List.countP_cons, count_eqU t f.2, eqU_of r f.1]
theorem mt_countL : MtR X "list.count" (rCount X.K) := by
  intro pins s σ H x xs v us Q I rx rxs h
  obtain ⟨a, ys, y, rfl, rfl, hs, fy, fys, q⟩ := h
  cases rx
  cases rxs with
  | cons ry rt =>
    rename_i uy ut
    cases rt
    obtain ⟨its, rv, ⟨⟨cls, dd, data, sl⟩, n, ho, hc, hdn, hd⟩, hlen⟩ := I.list hs
    simp only at hc hd
    subst hc hd
    refine call_meets PySem.F.slot_list_count ⟨_, ho, rfl⟩ PySem.F.entry_list_count (PySem.F.args_list_count_2 _ _)
      (SeqAt.list_countAt a its.toArray n dd sl uy (eqU y)) ⟨ho, fun u' hu' => mem_eqAt ry fy rv fys u' (by simpa using hu'), ?_⟩
    have e : its.toArray.toList.countP (eqU y) = ys.countP fun z => eqV z y := count_eqU rv fys
    rw [e]
    exact ⟨.int ((ys.countP fun z => eqV z y : Nat) : Int), H, I.tok _, ⟨_, rfl⟩, q⟩
end
def toFs : List Val → Option (List V)
  | [] => some []
  | x :: r => (toF x).bind fun v => (toFs r).map fun vs => v :: vs
theorem toFs_rep {K : PySem.W.Frag} {ρ : List Addr} {H : Hp} : ∀ {ws : List V} {xs : List Val} {vs : List V}, Reps K ρ H ws xs → toFs xs = some vs → ws = vs ∧ ws.all flatV = true
  | _, _, _, .nil, h => by cases h; exact ⟨rfl, rfl⟩
  | _, _, _, .cons r rs, h => by
    simp only [toFs, Option.bind_eq_some_iff, Option.map_eq_some_iff] at h
    obtain ⟨v, e1, vs, e2, rfl⟩ := h
    obtain ⟨rfl, f1⟩ := toF_rep r e1
    obtain ⟨rfl, f2⟩ := toFs_rep rs e2
    exact ⟨rfl, by rw [List.all_cons, f1, f2]; rfl⟩
def lIndex : Lm := fun _ xs ys S => match ys with
  | [y] => match toF y, toFs xs with
    | some v, some vs => match vs.findIdx? (fun z => eqV z v) with
      | some j => .ok (.int (j : Int)) S
      | none => .bad
    | _, _ => .bad
  | _ => .bad
def lCount : Lm := fun _ xs ys S => match ys with
  | [y] => match toF y, toFs xs with
    | some v, some vs => .ok (.int ((vs.countP fun z => eqV z v : Nat) : Int)) S
    | _, _ => .bad
  | _ => .bad
section
variable {X : Cx} {Y : Sy} {W : WX} {o e : Expr} {fo : En → Store → Out Val} {ga : En → Store → Out (List Val)} {cpos apos : Pos}
theorem lIndex_ok : LmS X Y (rIndex X.K) lIndex := by
  intro W' ρ H S a i ws vs xs ys Q hs hi ex ew rw' ry hp
  unfold lIndex at hp
  split at hp
  · rename_i y
    split at hp
    · rename_i v us e1 e2
      split at hp
      · rename_i j ej
        obtain ⟨v', rfl, rv⟩ := reps1 ry
        obtain ⟨rfl, f1⟩ := toF_rep rv e1
        obtain ⟨rfl, f2⟩ := toFs_rep rw' e2
        obtain ⟨hj, hjt, hjn⟩ := List.findIdx?_eq_some_iff_getElem.mp ej
        refine ⟨a, ws, v', j, ws[j], rfl, rfl, SqL.of ew, f1, f2, List.getElem?_eq_getElem hj, hjt, fun m z' hm hz => ?_, hp _ ρ H (Pre.refl _) (Ext.refl _) hs (.int _)⟩
        have hml : m < ws.length := by omega
        rw [List.getElem?_eq_getElem hml] at hz
        cases hz
        have := hjn m hm
        simpa using this
      · exact hp.elim
    · exact hp.elim
  · exact hp.elim
theorem lCount_ok : LmS X Y (rCount X.K) lCount := by
  intro W' ρ H S a i ws vs xs ys Q hs hi ex ew rw' ry hp
  unfold lCount at hp
  split at hp
  · rename_i y
    split at hp
    · rename_i v us e1 e2
      obtain ⟨v', rfl, rv⟩ := reps1 ry
      obtain ⟨rfl, f1⟩ := toF_rep rv e1
      obtain ⟨rfl, f2⟩ := toFs_rep rw' e2
      exact ⟨a, ws, v', rfl, rfl, SqL.of ew, f1, f2, hp _ ρ H (Pre.refl _) (Ext.refl _) hs (.int _)⟩
    · exact hp.elim
  · exact hp.elim
theorem se_index (ho : SE X Y W o fo) (ha : SA X Y W [e] ga) (hbase : attributeBase o "index" X.env (eval o X.env) = eval o X.env := by rfl)
    (hfew : ((backTo cpos (starEach [e] X.env)).all (fun x => !x.1) && (backToKw cpos (keywordEach [] X.env)).all (fun x => x.1.isSome)
      && decide ([e].length + ([] : List Keyword).length + (if ([] : List Keyword).isEmpty then 0 else 1) < 30)) = true := by rfl)
    (hline : (apos.endLine == cpos.line) = true := by rfl) (hs : starEach [e] X.env = (false, eval e X.env) :: starEach [] X.env := by rfl) : SE X Y W (.Call (.Attribute o "index" apos) [e] [] cpos) (eLm lIndex fo ga) :=
  PE.imp (pe_bm PySem.F.plainAttrs_list PySem.F.slot_list_index PySem.F.type_list_index mt_index ho ha hbase hfew hline hs) fun _ _ _ h => tBM_of lIndex_ok h
theorem se_count (ho : SE X Y W o fo) (ha : SA X Y W [e] ga) (hbase : attributeBase o "count" X.env (eval o X.env) = eval o X.env := by rfl)
    (hfew : ((backTo cpos (starEach [e] X.env)).all (fun x => !x.1) && (backToKw cpos (keywordEach [] X.env)).all (fun x => x.1.isSome)
      && decide ([e].length + ([] : List Keyword).length + (if ([] : List Keyword).isEmpty then 0 else 1) < 30)) = true := by rfl)
    (hline : (apos.endLine == cpos.line) = true := by rfl) (hs : starEach [e] X.env = (false, eval e X.env) :: starEach [] X.env := by rfl) : SE X Y W (.Call (.Attribute o "count" apos) [e] [] cpos) (eLm lCount fo ga) :=
  PE.imp (pe_bm PySem.F.plainAttrs_list PySem.F.slot_list_count PySem.F.type_list_count mt_countL ho ha hbase hfew hline hs) fun _ _ _ h => tBM_of lCount_ok h
end
/-! ### words -/
section
variable {env : En} {S : Store} {P : Val → Store → Prop} {E : XO}
@[simp] theorem wO_eE {g : Str → Store → Out Val} {q : Str} : wO (eE g q env S) P E = wO (g q S) P E := rfl
theorem wO_fnE {N : Nat} {g : Str → En → Store → Res} {q : Str} : wO (fnE N g q S) P E = wR (g q (List.replicate N none) S) ⟨fun _ S1 => P .non S1, P, fun _ _ => False, fun _ _ => False, fun _ _ _ _ => False⟩ := by
  unfold fnE
  cases g q (List.replicate N none) S <;> rfl
theorem wO_index {i j : Nat} {xs : List Val} {y : Val} {v : V} {vs : List V} (h1 : toF y = some v) (h2 : toFs xs = some vs) (h3 : vs.findIdx? (fun z => eqV z v) = some j) : wO (lIndex i xs [y] S) P E = P (.int (j : Int)) S := by
  simp only [lIndex, h1, h2, h3]; rfl
theorem wO_count {i : Nat} {xs : List Val} {y : Val} {v : V} {vs : List V} (h1 : toF y = some v) (h2 : toFs xs = some vs) : wO (lCount i xs [y] S) P E = P (.int ((vs.countP fun z => eqV z v : Nat) : Int)) S := by
  simp only [lCount, h1, h2]; rfl
end
end Mp

set_option Elab.async false
set_option linter.all false
set_option maxRecDepth 100000
set_option maxHeartbeats 4000000
/-! == of data with lists of the store within. -/
namespace Mp
open PySem PySem.Spec PyProof.Rows L2
def readsR (f : Val → Option PyData) : List Val → Option (List PyData)
  | [] => some []
  | x :: xs => (f x).bind fun d => (readsR f xs).map fun ds => d :: ds
/-- the data that a value is, lists of the store followed n deep -/
def readR : Nat → Store → Val → Option PyData
  | 0, S, x => toD1 S x
  | n + 1, S, x => match x with
    | .tup xs => (readsR (readR n S) xs).map PyData.tuple
    | .ref i => match S[i]? with
      | some (.lst xs) => (readsR (readR n S) xs).map PyData.list
      | _ => none
    | x => toD x
section
variable {K : PySem.W.Frag} {Y : Sy} {ρ : List Addr} {H : Hp} {S : Store}
theorem readsR_dp {f : Val → Option PyData} (hf : ∀ {v : V} {x : Val} {d : PyData}, Rep K ρ H v x → f x = some d → Dp K H v d) : ∀ {vs : List V} {xs : List Val} {ds : List PyData}, Reps K ρ H vs xs → readsR f xs = some ds → DpAll K H vs ds
  | _, _, ds, .nil, h => by simp only [readsR, Option.some.injEq] at h; subst h; exact .nil
  | _, _, ds, .cons h1 h2, h => by
    simp only [readsR, Option.bind_eq_some_iff, Option.map_eq_some_iff] at h
    obtain ⟨d, e1, ds', e2, rfl⟩ := h
    exact .cons (hf h1 e1) (readsR_dp hf h2 e2)
theorem readR_dp (s : Sim K Y ρ H S) : ∀ (n : Nat) {v : V} {x : Val} {d : PyData}, Rep K ρ H v x → readR n S x = some d → Dp K H v d
  | 0, v, x, d, r, h => toD1_dp s r h
  | n + 1, v, x, d, r, h => by
    cases x with
    | tup xs =>
      cases r with
      | tup e r =>
        obtain ⟨ds, h1, rfl⟩ := Option.map_eq_some_iff.mp (show (readsR (readR n S) xs).map PyData.tuple = some d from h)
        exact .tup (SqT.of e) (readsR_dp (fun r h => readR_dp s n r h) r h1)
    | ref i =>
      cases r with
      | @ref a _ hi =>
        have h : (match S[i]? with
          | some (.lst xs) => (readsR (readR n S) xs).map PyData.list
          | _ => none) = some d := h
        split at h
        · rename_i ys e1
          obtain ⟨ds, h1, rfl⟩ := Option.map_eq_some_iff.mp h
          obtain ⟨vs, e2, r⟩ := s.lst hi e1
          exact .lst (SqL.of e2) (readsR_dp (fun r h => readR_dp s n r h) r h1)
        · cases h
    | non => exact toD_dp r h
    | bl b => exact toD_dp r h
    | int b => exact toD_dp r h
    | str b => exact toD_dp r h
    | frz b => exact toD_dp r h
    | ktp b => exact toD_dp r h
end
def eqvR (S : Store) (x y : Val) : Option Bool := (readR 3 S x).bind fun d => (readR 3 S y).bind fun e => if SeqAt.shaped d = true ∧ SeqAt.shaped e = true then some (PyData.eqv d e) else none
def vEqR : BOp := fun x y S => match eqvR S x y with
  | some k => .ok (.bl k) S
  | none => .bad
def vNeR : BOp := fun x y S => match eqvR S x y with
  | some k => .ok (.bl (!k)) S
  | none => .bad
section
variable {X : Cx} {Y : Sy} {W : WX} {a b : Expr} {fa fb : En → Store → Out Val} {pos : Pos}
theorem eqvR_dp {K : PySem.W.Frag} {ρ : List Addr} {H : Hp} {S : Store} {v w : V} {x y : Val} {k : Bool} (hs : Sim K Y ρ H S) (rx : Rep K ρ H v x) (ry : Rep K ρ H w y) (h : eqvR S x y = some k) :
    ∃ d e, Dp K H v d ∧ Dp K H w e ∧ SeqAt.shaped d = true ∧ SeqAt.shaped e = true ∧ PyData.eqv d e = k := by
  unfold eqvR at h
  simp only [Option.bind_eq_some_iff] at h
  obtain ⟨d, h1, e, h2, h3⟩ := h
  split at h3
  · rename_i hz
    cases h3
    exact ⟨d, e, readR_dp hs 3 rx h1, readR_dp hs 3 ry h2, hz.1, hz.2, rfl⟩
  · cases h3
theorem vEqR_ok : OpS X Y (rEqD X.K) vEqR := by
  intro W' ρ H S v w x y Q hs rx ry h
  unfold vEqR at h
  split at h
  · rename_i k e
    obtain ⟨d, d', h1, h2, h3, h4, h5⟩ := eqvR_dp hs rx ry e
    exact ⟨d, d', h1, h2, h3, h4, by rw [h5]; exact h _ ρ H (Pre.refl _) (Ext.refl _) hs (.bl _)⟩
  · exact h.elim
theorem vNeR_ok : OpS X Y (rNeD X.K) vNeR := by
  intro W' ρ H S v w x y Q hs rx ry h
  unfold vNeR at h
  split at h
  · rename_i k e
    obtain ⟨d, d', h1, h2, h3, h4, h5⟩ := eqvR_dp hs rx ry e
    exact ⟨d, d', h1, h2, h3, h4, by rw [h5]; exact h _ ρ H (Pre.refl _) (Ext.refl _) hs (.bl _)⟩
  · exact h.elim
theorem se_eqR (hu : X.A.units + 64 < cLine) (ha : SE X Y W a fa) (hb : SE X Y W b fb) : SE X Y W (.Compare a [.Eq] [b] pos) (eB2 vEqR fa fb) := se_cmp (op_eqD hu) vEqR_ok ha hb (nomark _)
theorem se_neR (hu : X.A.units + 64 < cLine) (ha : SE X Y W a fa) (hb : SE X Y W b fb) : SE X Y W (.Compare a [.NotEq] [b] pos) (eB2 vNeR fa fb) := se_cmp (op_neD hu) vNeR_ok ha hb (nomark _)
theorem st_eqR (hu : X.A.units + 64 < cLine) (ha : SE X Y W a fa) (hb : SE X Y W b fb) : ST X Y W (.Compare a [.Eq] [b] pos) (bV (eB2 vEqR fa fb)) := st_cmp (op_eqD hu) vEqR_ok ha hb (nomark _)
theorem st_neR (hu : X.A.units + 64 < cLine) (ha : SE X Y W a fa) (hb : SE X Y W b fb) : ST X Y W (.Compare a [.NotEq] [b] pos) (bV (eB2 vNeR fa fb)) := st_cmp (op_neD hu) vNeR_ok ha hb (nomark _)
end
section
variable {S : Store} {P : Val → Store → Prop} {E : XO} {x y : Val}
@[simp] theorem wO_eqR : wO (vEqR x y S) P E = wP (eqvR S x y) fun k => P (.bl k) S := by
  unfold vEqR; cases eqvR S x y <;> rfl
@[simp] theorem wO_neR : wO (vNeR x y S) P E = wP (eqvR S x y) fun k => P (.bl (!k)) S := by
  unfold vNeR; cases eqvR S x y <;> rfl
end
/-! ### flags of isinstance of errors, the errors' own part once -/
def excsB (errs : List Str) : FB := fun K => errs.all fun q => excB q K
def isekB (errs : List Str) (c : Str) (m : Str → Bool) : FB := fun K => errs.all fun q => decide (PySem.W.kitOne K (.ref (He.ga K q)) (.ref (He.ga K c)) = some (m q))
def isetkB (errs : List Str) (T : String) (m : Str → Bool) : FB := fun K => errs.all fun q => decide (PySem.W.kitOne K (.ref (He.ga K q)) (.type T) = some (m q))
theorem isek_of {owns errs : List Str} {c : Str} {m : Str → Bool} {K : PySem.W.Frag} {mg : Str → Option Value} (hm : mg c = some (.ref (He.ga K c))) (he : excsB errs K = true) (h : isekB errs c m K = true) : IsEAt K mg (YYg owns errs K) c m := by
  refine ⟨_, hm, fun q cls hq => ?_⟩
  obtain ⟨h1, rfl⟩ := yy_er hq
  exact ⟨_, rfl, exc_of (List.all_eq_true.mp he q h1), of_decide_eq_true (List.all_eq_true.mp h q h1)⟩
theorem isetk_of {owns errs : List Str} {T : String} {m : Str → Bool} {K : PySem.W.Frag} (he : excsB errs K = true) (h : isetkB errs T m K = true) : IsETy K (YYg owns errs K) T m := by
  refine ⟨fun q cls hq => ?_⟩
  obtain ⟨h1, rfl⟩ := yy_er hq
  exact ⟨_, rfl, exc_of (List.all_eq_true.mp he q h1), of_decide_eq_true (List.all_eq_true.mp h q h1)⟩
end Mp

set_option Elab.async false
set_option linter.all false
set_option maxRecDepth 100000
set_option maxHeartbeats 4000000
/-! texts: str(i), int(text), divmod, s.split(t), s.isascii(), s.isdigit(), s.zfill(k). -/
namespace Mp
open PySem PySem.Spec PyProof.Rows L2
section
variable {X : Cx} {Y : Sy} {W : WX} {o e e2 : Expr} {fo f : En → Store → Out Val} {ga : En → Store → Out (List Val)} {p pos cpos apos : Pos}
/-! ### str(i) -/
def fStrI : Fn := fun vs S => match vs with
  | [.int i] => if i.natAbs.log2 < 1920 then .ok (.str (toString i)) S else .bad
  | _ => .bad
theorem se_strI (hg : Gl X "str") (hm : X.mg "str" = none) (ha : SA X Y W [e] ga) (he : starEach [e] X.env = [(false, eval e X.env)] := by rfl) : SE X Y W (.Call (.Name "str" p) [e] [] pos) (eCall fStrI ga) := by
  refine se_ty call_str_int (fun W' ρ H S vs xs Q hs rx h => ?_) hg hm (by decide +kernel) ha (he := he)
  unfold fStrI at h
  split at h
  · rename_i i
    split at h
    · rename_i hz
      obtain ⟨v, rfl, rv⟩ := reps1 rx
      cases rv
      exact ⟨i, rfl, hz, h _ ρ H (Pre.refl _) (Ext.refl _) hs (.str _)⟩
    · exact h.elim
  · exact h.elim
/-! ### int(text) -/
def fIntS : Fn := fun vs S => match vs with
  | [.str a] => (match PySem.intText? a with
    | some n => if a.length ≤ 640 then .ok (.int n) S else .bad
    | none => .bad)
  | _ => .bad
theorem se_intS (hg : Gl X "int") (hm : X.mg "int" = none) (ha : SA X Y W [e] ga) (he : starEach [e] X.env = [(false, eval e X.env)] := by rfl) : SE X Y W (.Call (.Name "int" p) [e] [] pos) (eCall fIntS ga) := by
  refine se_ty call_int_str (fun W' ρ H S vs xs Q hs rx h => ?_) hg hm (by decide +kernel) ha (he := he)
  unfold fIntS at h
  split at h
  · rename_i a
    split at h
    · rename_i n en
      split at h
      · rename_i hz
        obtain ⟨v, rfl, rv⟩ := reps1 rx
        cases rv
        exact ⟨a, n, rfl, en, hz, h _ ρ H (Pre.refl _) (Ext.refl _) hs (.int _)⟩
      · exact h.elim
    · exact h.elim
  · exact h.elim
/-! ### divmod(i, j) -/
open Classical in
noncomputable def fDivmod : Fn := fun vs S => match vs with
  | [.int i, .int j] => if CDivP i j then .ok (.tup [.int (i / j), .int (i % j)]) S else .bad
  | _ => .bad
theorem se_divmod (hg : Gl X "divmod") (hm : X.mg "divmod" = none) (ha : SA X Y W [e, e2] ga) (he : starEach [e, e2] X.env = (false, eval e X.env) :: starEach [e2] X.env := by rfl) (hpl : (backTo pos (starEach [e2] X.env)).any (·.1) = false := by rfl) :
    SE X Y W (.Call (.Name "divmod" p) [e, e2] [] pos) (eCall fDivmod ga) := by
  refine se_b call_divmodW (fun W' ρ H S vs xs Q hs rx h => ?_) hg hm (by decide +kernel) ha (he := he) (hpl := hpl)
  unfold fDivmod at h
  split at h
  · rename_i i j
    split at h
    · rename_i hz
      obtain ⟨v, w, rfl, r1, r2⟩ := reps2 rx
      cases r1
      cases r2
      refine ⟨i, j, rfl, hz, fun q hq => ?_⟩
      have e3 := Ext.new (o := .tup [.int (i / j), .int (i % j)]) hq
      exact h _ ρ _ (Pre.refl _) e3 (hs.other hq) (.tup upd_same (.cons (.int _) (.cons (.int _) .nil)))
    · exact h.elim
  · exact h.elim
/-! ### methods of texts -/
def kIsascii (x : Val) (S1 : Store) : Out Val := match x with
  | .str a => .ok (.bl (Txt.isascii a)) S1
  | _ => .bad
def eIsascii (fo : En → Store → Out Val) : En → Store → Out Val := fun env S => (fo env S).bind kIsascii
def kIsdigit (x : Val) (S1 : Store) : Out Val := match x with
  | .str a => .ok (.bl (Txt.isdigit a)) S1
  | _ => .bad
def eIsdigit (fo : En → Store → Out Val) : En → Store → Out Val := fun env S => (fo env S).bind kIsdigit
theorem se_isascii (ho : SE X Y W o fo) (hbase : attributeBase o "isascii" X.env (eval o X.env) = eval o X.env := by rfl) (hline : (apos.endLine == cpos.line) = true := by rfl) : SE X Y W (.Call (.Attribute o "isascii" apos) [] [] cpos) (eIsascii fo) := by
  refine PE.imp (pe_bm0 PySem.F.plainAttrs_str PySem.F.slot_str_isascii PySem.F.type_str_isascii mt_isascii ho hbase hline) fun σ H Q h => ?_
  refine tG.bind (k := fun _ => kIsascii) h fun ρ env v x H1 S1 he hs rx hp => ?_
  cases rx <;> try (exact hp.elim)
  rename_i a
  exact ⟨rfl, a, rfl, rfl, trivial, hp _ ρ H1 (Pre.refl _) (Ext.refl _) hs (.bl _)⟩
theorem se_isdigit (ho : SE X Y W o fo) (hbase : attributeBase o "isdigit" X.env (eval o X.env) = eval o X.env := by rfl) (hline : (apos.endLine == cpos.line) = true := by rfl) : SE X Y W (.Call (.Attribute o "isdigit" apos) [] [] cpos) (eIsdigit fo) := by
  refine PE.imp (pe_bm0 PySem.F.plainAttrs_str PySem.F.slot_str_isdigit PySem.F.type_str_isdigit mt_isdigit ho hbase hline) fun σ H Q h => ?_
  refine tG.bind (k := fun _ => kIsdigit) h fun ρ env v x H1 S1 he hs rx hp => ?_
  cases rx <;> try (exact hp.elim)
  rename_i a
  exact ⟨rfl, a, rfl, rfl, trivial, hp _ ρ H1 (Pre.refl _) (Ext.refl _) hs (.bl _)⟩
/-- what a text's method with one argument tells: a value, or a new list of texts -/
abbrev Sm := Str → Val → Store → Out Val
def smK (g : Sm) (a : Str) (ys : List Val) (S2 : Store) : Out Val := match ys with
  | [y] => g a y S2
  | _ => .bad
def smA (g : Sm) (ga : En → Store → Out (List Val)) (env : En) (x : Val) (S1 : Store) : Out Val := match x with
  | .str a => (ga env S1).bind (smK g a)
  | _ => .bad
def eSm (g : Sm) (fo : En → Store → Out Val) (ga : En → Store → Out (List Val)) : En → Store → Out Val := fun env S => (fo env S).bind (smA g ga env)
def gSplit : Sm := fun a y S => match y with
  | .str b => if (b.length == 0) = false ∧ a.length + 2 ≤ LIM then .ok (.ref S.length) (S ++ [.lst ((Txt.split a b).map Val.str)]) else .bad
  | _ => .bad
def gZfill : Sm := fun a y S => match y with
  | .int k => if PadOk k = true then .ok (.str (Txt.zfill a k)) S else .bad
  | _ => .bad
theorem reps_strs {K : PySem.W.Frag} {ρ : List Addr} {H : Hp} : ∀ ys : List Str, Reps K ρ H (ys.map V.str) (ys.map Val.str)
  | [] => .nil
  | y :: ys => .cons (.str _) (reps_strs ys)
theorem se_split (ho : SE X Y W o fo) (ha : SA X Y W [e] ga) (hbase : attributeBase o "split" X.env (eval o X.env) = eval o X.env := by rfl)
    (hfew : ((backTo cpos (starEach [e] X.env)).all (fun x => !x.1) && (backToKw cpos (keywordEach [] X.env)).all (fun x => x.1.isSome)
      && decide ([e].length + ([] : List Keyword).length + (if ([] : List Keyword).isEmpty then 0 else 1) < 30)) = true := by rfl)
    (hline : (apos.endLine == cpos.line) = true := by rfl) (hs : starEach [e] X.env = (false, eval e X.env) :: starEach [] X.env := by rfl) : SE X Y W (.Call (.Attribute o "split" apos) [e] [] cpos) (eSm gSplit fo ga) := by
  refine PE.imp (pe_bm PySem.F.plainAttrs_str PySem.F.slot_str_split PySem.F.type_str_split mt_split ho ha hbase hfew hline hs) fun σ H Q h => ?_
  refine tG.bind (k := smA gSplit ga) h fun ρ env v x H1 S1 he hs rx hp => ?_
  cases rx <;> try (exact hp.elim)
  rename_i a
  refine ⟨rfl, ?_⟩
  refine tG.go he hs hp fun ρ2 vs ys H2 S2 p2 e2 he2 hs2 ry hp2 => ?_
  unfold smK at hp2
  split at hp2
  · rename_i y
    obtain ⟨w, rfl, rw'⟩ := reps1 ry
    unfold gSplit at hp2
    split at hp2
    · rename_i b
      split at hp2
      · rename_i hz
        cases rw'
        refine ⟨a, b, rfl, rfl, hz.1, lim_le hz.2, fun q hq => ?_⟩
        exact hp2 _ (ρ2 ++ [q]) _ (Pre.snoc _ _) (Ext.new hq) (hs2.new hq ⟨_, upd_same, reps_strs _⟩) (rep_new hs2.len.symm)
      · exact hp2.elim
    · exact hp2.elim
  · exact hp2.elim
theorem se_zfill (ho : SE X Y W o fo) (ha : SA X Y W [e] ga) (hbase : attributeBase o "zfill" X.env (eval o X.env) = eval o X.env := by rfl)
    (hfew : ((backTo cpos (starEach [e] X.env)).all (fun x => !x.1) && (backToKw cpos (keywordEach [] X.env)).all (fun x => x.1.isSome)
      && decide ([e].length + ([] : List Keyword).length + (if ([] : List Keyword).isEmpty then 0 else 1) < 30)) = true := by rfl)
    (hline : (apos.endLine == cpos.line) = true := by rfl) (hs : starEach [e] X.env = (false, eval e X.env) :: starEach [] X.env := by rfl) : SE X Y W (.Call (.Attribute o "zfill" apos) [e] [] cpos) (eSm gZfill fo ga) := by
  refine PE.imp (pe_bm PySem.F.plainAttrs_str PySem.F.slot_str_zfill PySem.F.type_str_zfill mt_zfill ho ha hbase hfew hline hs) fun σ H Q h => ?_
  refine tG.bind (k := smA gZfill ga) h fun ρ env v x H1 S1 he hs rx hp => ?_
  cases rx <;> try (exact hp.elim)
  rename_i a
  refine ⟨rfl, ?_⟩
  refine tG.go he hs hp fun ρ2 vs ys H2 S2 p2 e2 he2 hs2 ry hp2 => ?_
  unfold smK at hp2
  split at hp2
  · rename_i y
    obtain ⟨w, rfl, rw'⟩ := reps1 ry
    unfold gZfill at hp2
    split at hp2
    · rename_i k
      split at hp2
      · rename_i hz
        cases rw'
        exact ⟨a, k, rfl, rfl, hz, hp2 _ ρ2 H2 (Pre.refl _) (Ext.refl _) hs2 (.str _)⟩
      · exact hp2.elim
    · exact hp2.elim
  · exact hp2.elim
end
section
variable {env : En} {S : Store} {P : Val → Store → Prop} {E : XO} {a b : Str} {i j : Int} {n : Int}
theorem wO_strI (h : i.natAbs.log2 < 1920) : wO (fStrI [.int i] S) P E = P (.str (toString i)) S := by
  simp only [fStrI, if_pos h]; rfl
theorem wO_intS (h : PySem.intText? a = some n) (hl : a.length ≤ 640) : wO (fIntS [.str a] S) P E = P (.int n) S := by
  simp only [fIntS, h, if_pos hl]; rfl
theorem wO_divmod (h : CDivP i j) : wO (fDivmod [.int i, .int j] S) P E = P (.tup [.int (i / j), .int (i % j)]) S := by
  simp only [fDivmod, if_pos h]; rfl
@[simp] theorem wO_eIsascii {fo : En → Store → Out Val} : wO (eIsascii fo env S) P E = wO (fo env S) (fun x S1 => wO (kIsascii x S1) P E) E := wO_bind
@[simp] theorem wO_eIsdigit {fo : En → Store → Out Val} : wO (eIsdigit fo env S) P E = wO (fo env S) (fun x S1 => wO (kIsdigit x S1) P E) E := wO_bind
@[simp] theorem wO_kIsascii : wO (kIsascii (.str a) S) P E = P (.bl (Txt.isascii a)) S := rfl
@[simp] theorem wO_kIsdigit : wO (kIsdigit (.str a) S) P E = P (.bl (Txt.isdigit a)) S := rfl
@[simp] theorem wO_eSm {g : Sm} {fo : En → Store → Out Val} {ga : En → Store → Out (List Val)} : wO (eSm g fo ga env S) P E = wO (fo env S) (fun x S1 => wO (smA g ga env x S1) P E) E := wO_bind
@[simp] theorem wO_smA {g : Sm} {ga : En → Store → Out (List Val)} : wO (smA g ga env (.str a) S) P E = wO (ga env S) (fun ys S1 => wO (smK g a ys S1) P E) E := wO_bind
@[simp] theorem wO_smK {g : Sm} {y : Val} : wO (smK g a [y] S) P E = wO (g a y S) P E := rfl
theorem wO_gSplit (h : (b.length == 0) = false) (hl : a.length + 2 ≤ LIM) : wO (gSplit a (.str b) S) P E = P (.ref S.length) (S ++ [.lst ((Txt.split a b).map Val.str)]) := by
  simp only [gSplit, if_pos (And.intro h hl)]; rfl
theorem wO_gZfill (h : PadOk i = true) : wO (gZfill a (.int i) S) P E = P (.str (Txt.zfill a i)) S := by
  simp only [gZfill, if_pos h]; rfl
end
end Mp

set_option Elab.async false
set_option linter.all false
set_option maxRecDepth 100000
set_option maxHeartbeats 4000000
/-! a, o[i], o.f = e: targets within a tuple that change the store. -/
namespace Mp
open PySem PySem.Spec PyProof.Rows L2
/-- what storing a value comes to: only .nx and .er count -/
abbrev Tr := Val → En → Store → Res
abbrev Trs := List Val → En → Store → Res
def Res.andThen (r : Res) (f : En → Store → Res) : Res := match r with
  | .nx e S => f e S
  | .er c fs e S => .er c fs e S
  | _ => .bad
def tRg (K : PySem.W.Frag) (Y : Sy) (W : WX) (t : Tr) : TG := fun v σ H Q => ∃ ρ env S x, ERep K Y ρ H σ env ∧ Sim K Y ρ H S ∧ Rep K ρ H v x ∧ PostS K Y W ρ H { nx := Q, rt := fun _ _ => False } (t x env S)
def tRgs (K : PySem.W.Frag) (Y : Sy) (W : WX) (t : Trs) : TGs := fun v σ H Q => ∃ ρ env S x, ERep K Y ρ H σ env ∧ Sim K Y ρ H S ∧ Reps K ρ H v x ∧ PostS K Y W ρ H { nx := Q, rt := fun _ _ => False } (t x env S)
def SR (X : Cx) (Y : Sy) (W : WX) (tg : Expr) (t : Tr) : Prop := PG X tg (tRg X.K Y W t)
def SRs (X : Cx) (Y : Sy) (W : WX) (tg : List Expr) (t : Trs) : Prop := PGs X tg (tRgs X.K Y W t)
def rN (i : Nat) : Tr := fun x env S => .nx (env.set i (some x)) S
def rNil : Trs := fun xs env S => match xs with
  | [] => .nx env S
  | _ => .bad
def rCons (t : Tr) (u : Trs) : Trs := fun xs env S => match xs with
  | x :: r => (t x env S).andThen (u r)
  | [] => .bad
def rTupR (n : Nat) (u : Trs) : Tr := fun x env S => match x with
  | .tup xs => if xs.length = n then u xs env S else .bad
  | _ => .bad
def rSub (fo fi : En → Store → Out Val) : Tr := fun v env S => (fo env S).toS env fun d S2 => (fi env S2).toS env fun i S3 => kPutIx d i v env S3
def rFld (cs : List Str) (f : Str) (go : En → Store → Out Val) : Tr := fun v env S => (go env S).toS env (kFld cs f v env)
section
variable {X : Cx} {Y : Sy} {W : WX} {o e i : Expr} {es : List Expr} {f fo fi go : En → Store → Out Val} {pos pos' : Pos} {t : Tr} {u : Trs} {n : Nat}
theorem sr_name {i : Nat} {x : Str} (hy : Y.xi = none) (hN : X.N.Nodup) (hi : X.N[i]? = some x) (hx : Loc X.env.scope x) (hf : X.fn x = true ∨ X.env.scope.names.lookup x = some .local := by first | exact .inl rfl | exact .inr rfl | assumption) : SR X Y W (.Name x pos) (rN i) := by
  refine PG.imp (pg_name hN hi hx hf) fun v σ H Q h => ?_
  obtain ⟨ρ, env, S, x, he, hs, hr, hp⟩ := h
  exact hp _ ρ H (Pre.refl _) (Ext.refl _) (he.set hr hy) hs
theorem srs_nil : SRs X Y W [] rNil := by
  refine PGs.imp pgs_nil fun v σ H Q h => ?_
  obtain ⟨ρ, env, S, x, he, hs, hr, hp⟩ := h
  cases hr with
  | nil => exact ⟨rfl, hp σ ρ H (Pre.refl _) (Ext.refl _) he hs⟩
  | cons a b => exact hp.elim
theorem srs_cons (h1 : SR X Y W e t) (h2 : SRs X Y W es u) (hs : (assignEach (e :: es) X.env).map (·.2) = assign e X.env :: (assignEach es X.env).map (·.2) := by rfl) : SRs X Y W (e :: es) (rCons t u) := by
  refine PGs.imp (pgs_cons h1 h2 hs) fun v σ H Q h => ?_
  obtain ⟨ρ, env, S, x, he, hs, hr, hp⟩ := h
  cases hr with
  | nil => exact hp.elim
  | @cons v vs x xs a b =>
    refine ⟨v, vs, rfl, ρ, env, S, x, he, hs, a, ?_⟩
    have hp : PostS X.K Y W ρ H { nx := Q, rt := fun _ _ => False } ((t x env S).andThen (u xs)) := hp
    generalize t x env S = r at hp
    cases r with
    | nx e1 S1 => exact fun σ' ρ' H' p e he1 hs1 => ⟨ρ', e1, S1, xs, he1, hs1, b.up p e, PostS.up p e hp⟩
    | er c fs e1 S1 => exact hp
    | rt _ _ => exact hp.elim
    | bk _ _ => exact hp.elim
    | ct _ _ => exact hp.elim
    | bad => exact hp.elim
theorem sr_tup {k : Nat} (hc : X.calm = true) (h : SRs X Y W es u) (hn : (assignEach es X.env).length = n := by rfl) (hst : (assignEach es X.env).findIdx? (·.1) = none := by rfl) : SR X Y W (.Tuple es k pos) (rTupR n u) := by
  refine PG.imp (pg_tup hc h hn hst) fun v σ H Q h => ?_
  obtain ⟨ρ, env, S, x, he, hs, hr, hp⟩ := h
  unfold rTupR at hp
  split at hp
  · rename_i xs
    split at hp
    · rename_i hl
      cases hr with
      | tup e1 r => exact ⟨_, _, rfl, SqT.of e1, r.length.trans hl, ρ, env, S, xs, he, hs, r, hp⟩
    · exact hp.elim
  · exact hp.elim
theorem sr_sub (hu : X.A.units + 1 < cLine) (ho : SE X Y W o fo) (hi : SE X Y W i fi)
    (ha : ∀ v, assign (.Subscript o i pos') X.env v = (do
      let ov ← holding [v] (eval o X.env)
      let iv ← holding [v, ov] (eval i X.env)
      standAt pos'
      holding [v, ov, iv] (setItem ov iv v)
      release [v, ov, iv] []) := by first | rfl | (intro _; rfl)) : SR X Y W (.Subscript o i pos') (rSub fo fi) := by
  refine PG.imp (pg_sub ho hi (set_u hu) ha) fun v σ H Q h => ?_
  obtain ⟨ρ, env, S, y, he, hs, ry, hp⟩ := h
  refine tS.in he hs hp fun ρ2 d dd H2 S2 p2 e2 he2 hs2 rd hp2 => ?_
  refine tS.in he2 hs2 hp2 fun ρ3 j jj H3 S3 p3 e3 he3 hs3 rj hp3 => ?_
  unfold kPutIx at hp3
  split at hp3
  · rename_i S' es
    refine putIx_ok hs3 (rd.up p3 e3) rj (ry.up (p2.trans p3) (e2.trans e3)) es fun H' q1 q2 => ?_
    exact hp3 σ ρ3 H' (Pre.refl _) q1 (he3.up (Pre.refl _) q1) q2
  · exact hp3.elim
/-- the library's rule of o.f = e, as a target -/
def gFld (K : PySem.W.Frag) (ta : TE) (f : Str) : TG := fun y σ H Q => ta σ H fun x H2 => ∃ a C dx fs, x = .ref a ∧ H2 a = some (.ins C dx fs) ∧ Cls K C ∧ PySem.W.findIn K (.ref C) f = some none ∧ fs.length < 1000 ∧ Q σ (upd H2 a (.ins C dx (putF f y fs)))
theorem pg_fld {ta : TE} {fn : Str} (ho : PE X o ta) : PG X (.Attribute o fn pos') (gFld X.K ta fn) := by
  refine ⟨fun pins s σ H y u Q I ry h => ?_⟩
  rw [assign_Attribute]
  apply wpAny_bind
  apply wpAny_holding
  refine thn (ho.run pins s σ H _ I h) fun ov s2 z => ?_
  obtain ⟨x, H2, I2, rx, a, C, dx, fs, ex, ea, c, n, l, q2⟩ := z
  subst ex
  obtain rfl : ov = Value.ref a := rx
  apply wpAny_bind
  apply wpAny_standAt
  apply wpAny_bind
  apply wpAny_holding
  refine setattr_ok I2 ea c n l ry fun s3 I3 => ?_
  exact wpAny_release ⟨σ, _, I3, q2⟩
end
end Mp

set_option Elab.async false
set_option linter.all false
set_option maxRecDepth 100000
set_option maxHeartbeats 4000000
/-! the statement rule of the targets of Mp62 -/
namespace Mp
open PySem PySem.Spec PyProof.Rows L2
def sAsgR (f : En → Store → Out Val) (t : Tr) : En → Store → Res := fun env S => (f env S).toS env fun x S1 => (t x env S1).andThen .nx
section
variable {X : Cx} {Y : Sy} {W : WX} {o e i : Expr} {f go : En → Store → Out Val} {pos pos' : Pos} {t : Tr} {cs : List Str} {fn : Str} {R : RP} {env : En} {S : Store}
theorem sr_fld (hK : Kls X.K Y) (hn : NoF X.K Y cs fn) (ho : SE X Y W o go) : SR X Y W (.Attribute o fn pos') (rFld cs fn go) := by
  refine PG.imp (pg_fld ho) fun v σ H Q h => ?_
  obtain ⟨ρ, env, S, y, he, hs, ry, hp⟩ := h
  refine tS.in he hs hp fun ρ2 d dd H2 S2 p2 e2 he2 s2 rd hp2 => ?_
  simp only [kFld] at hp2
  cases rd <;> try (exact hp2.elim)
  rename_i a i hi
  dsimp only at hp2
  split at hp2
  · rename_i c fs e4
    split at hp2
    · rename_i hc
      obtain ⟨C, dx, gs, h1, h2, h3⟩ := (s2.ob i a _ hi e4 : ObRep X.K Y ρ2 H2 a (.ins c fs))
      refine ⟨a, C, dx, gs, rfl, h2, (hK c C h1).cls, hn c C hc.1 h1, by rw [h3.length]; exact hc.2, ?_⟩
      obtain ⟨e5, s5⟩ := s2.put (u := .ins C dx (putF fn v gs)) (o := .ins c (putS fn y fs)) hi ⟨C, dx, _, h1, upd_same, ((RepK.putS (ry.up p2 e2) h3).up (Pre.refl _) (Ext.mut h2 fun z => z))⟩
      exact hp2 σ ρ2 _ (Pre.refl _) e5 (he2.up (Pre.refl _) e5) s5
    · exact hp2.elim
  · exact hp2.elim
theorem ss_asgR {tg : Expr} (he : SE X Y W e f) (hg : SR X Y W tg t) (hs : swapsWithSole [tg] e pos.line X.env = pure false := by rfl) (hw : swappedStores [tg] e X.env = pure none := by rfl)
    (h1 : (assignEach [tg] X.env).map (·.2) = [assign tg X.env] := by rfl) : SS X Y W (.Assign [tg] e pos) (sAsgR f t) := by
  refine PS.imp (ps_asg he hg hs hw h1) fun D σ H h => ?_
  refine tS.go (k := fun env x S1 => (t x env S1).andThen .nx) h fun ρ env v x H1 S1 he hs rx hp => ?_
  refine ⟨ρ, env, S1, x, he, hs, rx, ?_⟩
  generalize t x env S1 = r at hp
  cases r with
  | nx e1 S2 => exact hp
  | er c fs S2 => exact hp
  | rt _ _ => exact hp.elim
  | bk _ _ => exact hp.elim
  | ct _ _ => exact hp.elim
  | bad => exact hp.elim
/-! words -/
theorem andThen_assoc {r : Res} {g h : En → Store → Res} : (r.andThen g).andThen h = r.andThen fun e S => (g e S).andThen h := by cases r <;> rfl
@[simp] theorem andThen_nx {g : En → Store → Res} : (Res.nx env S).andThen g = g env S := rfl
theorem wR_andThen {r : Res} {g : En → Store → Res} : wR (r.andThen g) R = wR r ⟨fun e S => wR (g e S) R, fun _ _ => False, fun _ _ => False, fun _ _ => False, R.er⟩ := by cases r <;> rfl
theorem wR_sAsgR : wR (sAsgR f t env S) R = wO (f env S) (fun x S1 => wR (t x env S1) ⟨R.nx, fun _ _ => False, fun _ _ => False, fun _ _ => False, R.er⟩) (fun c fs S1 => R.er c fs env S1) := by
  refine wR_toS.trans (wO_ext fun x S1 => ?_)
  rw [wR_andThen]; rfl
theorem wR_rN {i : Nat} {x : Val} : wR (rN i x env S) R = R.nx (env.set i (some x)) S := rfl
theorem wR_rNil : wR (rNil [] env S) R = R.nx env S := rfl
theorem wR_rCons {u : Trs} {x : Val} {xs : List Val} : wR (rCons t u (x :: xs) env S) R = wR (t x env S) ⟨fun e S => wR (u xs e S) R, fun _ _ => False, fun _ _ => False, fun _ _ => False, R.er⟩ := wR_andThen
theorem wR_rTupR {u : Trs} {n : Nat} {xs : List Val} (h : xs.length = n := by rfl) : wR (rTupR n u (.tup xs) env S) R = wR (u xs env S) R := by
  simp only [rTupR, if_pos h]
theorem wR_rSub {fo fi : En → Store → Out Val} {v : Val} : wR (rSub fo fi v env S) R = wO (fo env S) (fun d S2 => wO (fi env S2) (fun i S3 => wR (kPutIx d i v env S3) R) fun c fs S1 => R.er c fs env S1) fun c fs S1 => R.er c fs env S1 := by
  unfold rSub
  exact wR_toS.trans (wO_ext fun d S2 => wR_toS)
theorem wR_rFld {v : Val} : wR (rFld cs fn go v env S) R = wO (go env S) (fun x S2 => wR (kFld cs fn v env x S2) R) fun c fs S1 => R.er c fs env S1 := wR_toS
end
end Mp

set_option Elab.async false
set_option linter.all false
set_option maxRecDepth 100000
set_option maxHeartbeats 4000000
/-! Own errors as values: made, asked, read. -/
namespace Mp
open PySem PySem.Spec PySem.Calls PyProof.Rows L2
theorem exd_frz {e : Addr} {fs : List (Str × V)} {o : Obj} {u : HO} : exd e fs ≠ .frz o u := fun z => by
  have z' : HO.ext _ = HO.frz o u := z
  cases z'
theorem exd_tbl {e : Addr} {fs : List (Str × V)} {ps : Array Value} : exd e fs ≠ .tbl ps := fun z => by
  have z' : HO.ext _ = HO.tbl ps := z
  cases z'
section
variable {X : Cx} {Y : Sy} {W : WX} {k : Nat}
/-- C(), its __init__ does nothing -/
theorem pe_mk0 {CXt : CXT} {x : Str} {C fI : Addr} {fd : FuncData} {ps : List Str} {sp : Sp} {p pos : Pos} (T : OexC X.K C) (iC : PySem.W.findIn X.K (.ref C) "__init__" = some (some (.ref fI))) (tI : PySem.W.typeIn X.K (.ref fI) = some (.type "function"))
    (F1 : FnOk X.prog X.w X.K X.mg X.base CXt k fI fd ps sp) (hr : Room (k + 1) X.A) (hb : Binds X.K fd ps []) (hx : Passes CXt X (fun _ _ _ => False)) (hg : Gl X x) (hm : X.mg x = some (.ref C)) (hdb : (x == ("__debug__" : Str)) = false := by decide) :
    PE X (.Call (.Name x p) [] [] pos) (fun σ H Q => ∀ a, H a = none → sp [.ref a] (upd H a (exo a C none)) (fun v H2 => v = .non ∧ H2 a = some (exo a C none) ∧ Q (.ref a) H2) (fun _ _ _ => False)) := by
  refine ⟨fun pins s σ H Q I h => ?_⟩
  obtain ⟨nm, qn, N, bs, bm, sn, sub, ab, col, dd, k0, k1, k2, k3, k5, isC, isVE⟩ := T.cls
  refine wpAny_Call_Name_kw (ld_glob I hg hm ?_ hdb)
  refine PySem.W.callWith_K0 I.kIn T.kC ?_
  show wpAny _ _ (call (.ref C) []) _ _ _
  obtain ⟨u1, gs, dr, tk, q⟩ := s
  have le1 : u1.objs.size ≤ u1.objs.size + 1 := Nat.le_succ _
  have fr1 : H (u1.objs.size + 1) = none := I.hok.fresh le1
  have want := h (u1.objs.size + 1) fr1
  have kp : ∀ b o, u1.get? b = some o → ((u1.push (PySem.W.kdv_tup [])).push (PySem.HandSPX.excO C u1.objs.size)).get? b = some o := fun b o e => Heap.get?_push_of_some _ (Heap.get?_push_of_some _ e)
  have stands : ((u1.push (PySem.W.kdv_tup [])).push (PySem.HandSPX.excO C u1.objs.size)).get? (u1.objs.size + 1) = some (PySem.HandSPX.excO C u1.objs.size) := by heap_get
  have I2 : Inv X pins σ (upd H (u1.objs.size + 1) (exo (u1.objs.size + 1) C none)) ⟨(u1.push (PySem.W.kdv_tup [])).push (PySem.HandSPX.excO C u1.objs.size), gs, dr, tk, q⟩ :=
    I.laid (t' := tk) (a := u1.objs.size + 1) (o := exo (u1.objs.size + 1) C none) (h' := (u1.push (PySem.W.kdv_tup [])).push (PySem.HandSPX.excO C u1.objs.size)) kp le1 (exo_ok stands)
  have one : Vals [V.ref (u1.objs.size + 1)] [Value.ref (u1.objs.size + 1)] := .cons rfl .nil
  have len1 : [Value.ref (u1.objs.size + 1)].length = ps.length := by
    have e := F1.len _ _ _ _ want
    simpa using e
  have bnd := hb _ [Value.ref (u1.objs.size + 1)] I2.kIn (by rw [List.append_nil]; exact len1)
  rw [List.append_nil] at bnd
  refine wpAny_call (PySem.HandSPX.call_own F.excBase_ValueError (fun Z => PySem.HandSPX.refsVE_contains Z bm isVE) (I.kIn _ _ isC) (PySem.W.looks_findIn I.kIn iC) (fun self => PySem.W.bind_fn I.kIn self tI) (Nat.zero_le _)
    (codeAny_mono (F1.run _ X.stack _ _ ⟨[Value.ref (u1.objs.size + 1)], []⟩ [Value.ref (u1.objs.size + 1)] _ _ (fun _ _ _ => False) (hr.make C [] []) (I2.env0.make C [] []) bnd one want) fun r s' hq' => ?_))
  cases r with
  | error er => exact hx pins σ _ _ er s' I2 hq'
  | ok fl =>
    cases fl with
    | ret u =>
      obtain ⟨v, H2, os2, bare2, un2, hok2, rv, ev, en, q2⟩ := hq'
      subst ev
      exact ⟨rv, .ref (u1.objs.size + 1), H2, I2.call' (ch := []) os2 un2 hok2 bare2 (fun b z => absurd z (by simp)), rfl, q2⟩
    | next => exact False.elim hq'
    | brk => exact False.elim hq'
    | cont => exact False.elim hq'
/-- C(e, ..) -/
theorem pe_mk1 {CXt : CXT} {x : Str} {C fI : Addr} {fd : FuncData} {ps : List Str} {sp : Sp} {p pos : Pos} {e : Expr} {es : List Expr} {ta : TA} (T : OexC X.K C) (iC : PySem.W.findIn X.K (.ref C) "__init__" = some (some (.ref fI))) (tI : PySem.W.typeIn X.K (.ref fI) = some (.type "function"))
    (F1 : FnOk X.prog X.w X.K X.mg X.base CXt k fI fd ps sp) (hr : Room (k + 1) X.A) (hb : Binds X.K fd ps []) (hx : Passes CXt X (fun _ _ _ => False)) (hg : Gl X x) (hm : X.mg x = some (.ref C)) (ha : PA X (e :: es) ta)
    (hdb : (x == ("__debug__" : Str)) = false := by decide) (he : starEach (e :: es) X.env = (false, eval e X.env) :: starEach es X.env := by rfl) (hpl : (backTo pos (starEach es X.env)).any (·.1) = false := by rfl) :
    PE X (.Call (.Name x p) (e :: es) [] pos) (fun σ H Q => ta σ H fun vs H1 => vs.length ≤ 1000 ∧ ∀ a, H1 a = none → sp (.ref a :: vs) (upd H1 a (exo a C none))
      (fun v H2 => v = .non ∧ ∃ (d : Addr) (fs : List (Str × V)), H2 a = some (exo a C (some d)) ∧ H2 d = some (exd d fs) ∧ H1 d = none ∧ Q (.ref a) (upd H2 d (.xd fs))) (fun _ _ _ => False)) := by
  refine ⟨fun pins s σ H Q I h => ?_⟩
  obtain ⟨nm, q, N, bs, bm, sn, sub, ab, col, dd, k0, k1, k2, k3, k5, hC, hbm⟩ := T.cls
  refine wpAny_Call_Name_kw (ld_glob I hg hm ?_ hdb)
  refine PySem.W.callWith_K (h₀ := X.base) I.ok.mod.kin T.kC (thn (ha.run pos pins s σ H _ I h) fun us s1 ⟨vs, H1, I1, r1, hz, q1⟩ => ⟨I1.kIn, ?_⟩) he hpl
  show wpAny _ _ (call (.ref C) us) _ _ _
  obtain ⟨hp, g, dr, tk, os⟩ := s1
  have hsz : hp.objs.size ≤ hp.objs.size + 1 := Nat.le_succ _
  have hn : H1 (hp.objs.size + 1) = none := I1.hok.fresh hsz
  have hq := q1 (hp.objs.size + 1) hn
  have kk : ∀ b o, hp.get? b = some o → ((hp.push (PySem.W.kdv_tup us)).push (PySem.HandSPX.excO C hp.objs.size)).get? b = some o := fun b o e => Heap.get?_push_of_some _ (Heap.get?_push_of_some _ e)
  have hget : ((hp.push (PySem.W.kdv_tup us)).push (PySem.HandSPX.excO C hp.objs.size)).get? (hp.objs.size + 1) = some (PySem.HandSPX.excO C hp.objs.size) := by heap_get
  have I2 : Inv X pins σ (upd H1 (hp.objs.size + 1) (exo (hp.objs.size + 1) C none)) ⟨(hp.push (PySem.W.kdv_tup us)).push (PySem.HandSPX.excO C hp.objs.size), g, dr, tk, os⟩ :=
    I1.laid (t' := tk) (a := hp.objs.size + 1) (o := exo (hp.objs.size + 1) C none) (h' := (hp.push (PySem.W.kdv_tup us)).push (PySem.HandSPX.excO C hp.objs.size)) kk hsz (exo_ok hget)
  have r2 : Vals (V.ref (hp.objs.size + 1) :: vs) (Value.ref (hp.objs.size + 1) :: us) := .cons rfl r1
  have hl : (Value.ref (hp.objs.size + 1) :: us).length = ps.length := by
    have e := r2.length
    rw [F1.len _ _ _ _ hq] at e
    exact e.symm
  have hus : us.length ≤ sizeLine := by
    rw [← Paired.length r1, sizeLine_eq]
    omega
  have bnd := hb _ (Value.ref (hp.objs.size + 1) :: us) I2.kIn (by rw [List.append_nil]; exact hl)
  rw [List.append_nil] at bnd
  refine wpAny_call (PySem.HandSPX.call_own F.excBase_ValueError (fun Y => PySem.HandSPX.refsVE_contains Y bm hbm) (I1.kIn _ _ hC) (PySem.W.looks_findIn I1.kIn iC) (fun self => PySem.W.bind_fn I1.kIn self tI) hus
    (codeAny_mono (F1.run _ X.stack _ _ ⟨Value.ref (hp.objs.size + 1) :: us, []⟩ (Value.ref (hp.objs.size + 1) :: us) _ _ (fun _ _ _ => False) (hr.make C us []) (I2.env0.make C us []) bnd r2 hq) fun r s' hq' => ?_))
  cases r with
  | error er => exact hx pins σ _ _ er s' I2 hq'
  | ok fl =>
    cases fl with
    | ret u =>
      obtain ⟨v, H2, os2, bare2, un2, hok2, rv, ev, d, fs, ea, ed, hd1, q2⟩ := hq'
      subst ev
      obtain ⟨mA, hns, rel⟩ := exd_at hok2 ed
      have nd : ∀ {b : Addr} {o : HO}, H2 b = some o → o ≠ exd d fs → b ≠ d := fun z n => fun e => by
        rw [e, ed] at z; exact n (Option.some.inj z).symm
      have U : Un (frs X.stack) [] (upd H1 (hp.objs.size + 1) (exo (hp.objs.size + 1) C none)) (upd H2 d (.xd fs)) ((hp.push (PySem.W.kdv_tup us)).push (PySem.HandSPX.excO C hp.objs.size)) s'.heap := {
        keep := un2.keep
        slot := un2.slot
        free := fun b o z n hx => by
          have y := un2.free b o z n hx
          have : b ≠ d := fun e => by rw [e, ed] at y; cases y
          rw [upd_ne this]; exact y
        there := un2.there
        tups := fun b xs z => by
          have y := un2.tups b xs z
          rw [upd_ne (nd y fun e => exd_tup e.symm)]; exact y
        frzs := fun b o v z => by
          have y := un2.frzs b o v z
          rw [upd_ne (nd y fun e => exd_frz e.symm)]; exact y
        tbls := fun b ps z => by
          obtain ⟨m, y⟩ := un2.tbls b ps z
          exact ⟨m, by rw [upd_ne (nd y fun e => exd_tbl e.symm)]; exact y⟩ }
      have hok3 : HOk X.prog X.w (upd H2 d (.xd fs)) s'.heap := fun b o z => by
        by_cases hbd : b = d
        · subst hbd
          rw [upd_same] at z
          cases z
          exact ⟨mA, hns, rel⟩
        · rw [upd_ne hbd] at z
          exact (hok2 b o z).stay (fun c v _ y => y) (fun c hc => by rw [upd_ne (at_ne ed hc exd_own)]; exact hc) (fun c xs hc => by rw [upd_ne (at_ne ed hc exd_tup)]; exact hc)
      exact ⟨rv, .ref (hp.objs.size + 1), upd H2 d (.xd fs), I2.call' (ch := []) os2 U hok3 bare2 (fun b z => absurd z (by simp)), rfl, q2⟩
    | next => exact False.elim hq'
    | brk => exact False.elim hq'
    | cont => exact False.elim hq'
end
/-! ### the rules -/
def eMkE0 (c : Str) : En → Store → Out Val := fun _ S => .ok (.ref S.length) (S ++ [.exo c []])
def eMkE1 (c n : Str) (f : En → Store → Out Val) : En → Store → Out Val := fun env S => (f env S).bind fun x S1 => .ok (.ref S1.length) (S1 ++ [.exo c [(n, x)]])
theorem snoc_last {ρ : List Addr} {a : Addr} {n : Nat} (h : ρ.length = n) : (ρ ++ [a])[n]? = some a := by
  rw [← h]; simp
section
variable {X : Cx} {Y : Sy} {W : WX} {kc : Nat} {c n : Str} {p pos : Pos} {e : Expr} {f : En → Store → Out Val}
theorem se_mkE0 (cc : Cc X Y W kc) (F : Er0At X.prog X.w X.K X.mg X.base Y c) (h2 : 2 ≤ kc) (hg : Gl X c) (hdb : (c == ("__debug__" : Str)) = false := by decide) :
    SE X Y W (.Call (.Name c p) [] [] pos) (eMkE0 c) := by
  obtain ⟨C, fI, fd, hc, hm, T, iC, tI, F1, hb⟩ := F.ex
  refine PE.imp (pe_mk0 T iC tI F1 (cc.room.mono h2) hb passL hg hm hdb) fun σ H Q h => ?_
  obtain ⟨ρ, env, S, he, hs, h⟩ := h
  intro a ha
  refine ⟨rfl, rfl, upd_same, ?_⟩
  have en : Ext H (upd H a (exo a C none)) := Ext.new ha
  exact h (.ref a) (ρ ++ [a]) _ (Pre.snoc ρ a) en (hs.new ha ⟨C, none, hc, .inl upd_same, .inl ⟨rfl, rfl⟩⟩) (.ref (snoc_last hs.len))
theorem se_mkE1 (cc : Cc X Y W kc) (F : Er1At X.prog X.w X.K X.mg X.base Y c n) (h2 : 2 ≤ kc) (hg : Gl X c) (he : SE X Y W e f) (hdb : (c == ("__debug__" : Str)) = false := by decide)
    (hs : starEach [e] X.env = (false, eval e X.env) :: starEach [] X.env := by rfl) : SE X Y W (.Call (.Name c p) [e] [] pos) (eMkE1 c n f) := by
  obtain ⟨C, fI, fd, hc, hm, T, iC, tI, F1, hb⟩ := F.ex
  refine PE.imp (pe_mk1 T iC tI F1 (cc.room.mono h2) hb passL hg hm (pa_cons he pa_nil hs) hdb hs rfl) fun σ H Q h => ?_
  refine tG.bind (k := fun _ x S1 => Out.ok (Val.ref S1.length) (S1 ++ [.exo c [(n, x)]])) h fun ρ env v x H1 S1 he hs rx hp => ?_
  refine ⟨by show 1 ≤ 1000; decide, fun a ha => ⟨rfl, a, v, rfl, upd_same, fun dx hd hne => ?_⟩⟩
  have hd1 : H1 dx = none := by rw [upd_ne hne] at hd; exact hd
  refine ⟨rfl, dx, _, upd_same, by rw [upd_ne hne, upd_same], hd1, ?_⟩
  have e2 : upd (upd (upd (upd H1 a (exo a C none)) dx (exd dx [(n, v)])) a (exo a C (some dx))) dx (.xd [(n, v)]) = upd (upd H1 dx (.xd [(n, v)])) a (exo a C (some dx)) := by
    funext b
    by_cases h1 : b = dx
    · subst h1; rw [upd_same, upd_ne hne, upd_same]
    · rw [upd_ne h1]
      by_cases h2 : b = a
      · subst h2; rw [upd_same, upd_same]
      · rw [upd_ne h2, upd_ne h1, upd_ne h2, upd_ne h2, upd_ne h1]
  rw [e2]
  have ha2 : upd H1 dx (.xd [(n, v)]) a = none := by rw [upd_ne (Ne.symm hne)]; exact ha
  have e1 : Ext H1 (upd H1 dx (.xd [(n, v)])) := Ext.new hd1
  have e3 : Ext (upd H1 dx (.xd [(n, v)])) (upd (upd H1 dx (.xd [(n, v)])) a (exo a C (some dx))) := Ext.new ha2
  have en := e1.trans e3
  exact hp (.ref a) (ρ ++ [a]) _ (Pre.snoc ρ a) en ((hs.other hd1).new ha2 ⟨C, some dx, hc, .inl upd_same, .inr ⟨dx, [(n, v)], rfl, e3 _ _ trivial upd_same, .cons ⟨rfl, rx.up (Pre.snoc ρ a) en⟩ .nil⟩⟩) (.ref (snoc_last hs.len))
end
/-! ### isinstance, e.f -/
theorem exoL_at {X : Cx} {pins : List (Addr × Obj)} {σ : L2.St} {H : Hp} {s : Shared} {a C : Addr} {d : Option Addr} (I : Inv X pins σ H s) (h : exoL H a C d) : ∃ oe vs, s.heap.get? a = some oe ∧ Zc (.ref C) d oe ∧ oe.data = .fields vs := by
  rcases h with h | ⟨rfl, h⟩
  · obtain ⟨t, h1⟩ := exo_at I.hok h
    exact ⟨_, _, h1, ⟨rfl, rfl⟩, rfl⟩
  · obtain ⟨⟨oe, vs, ho, hz, hd, h1, _⟩, _, _⟩ := I.hok a _ h
    exact ⟨oe, vs, ho, hz, hd⟩
def rIsV (K : PySem.W.Frag) : List V → Hp → VK → Prop := fun xs H Q => ∃ (a D : Addr) (d : Option Addr) (c : V) (cv : Value) (b : Bool), xs = [.ref a, c] ∧ ExcC K D ∧ exoL H a D d ∧ ClsV c cv ∧ PySem.W.kitOne K (.ref D) cv = some b ∧ (d = none ∨ ∃ dd gs, d = some dd ∧ H dd = some (.xd gs)) ∧ Q (.bl b) H
theorem call_isV {X : Cx} : CallR X (.builtin "isinstance") (rIsV X.K) := by
  intro pins s σ H xs us Q I r h
  obtain ⟨a, D, d, c, cv, b, rfl, C, hx, hcv, e, hd, k⟩ := h
  match us, r with
  | [u1, u2], .cons r1 (.cons r2 .nil) =>
    obtain rfl : u1 = Value.ref a := r1
    obtain rfl : u2 = cv := hcv.eq r2
    obtain ⟨oe, vs, at_, ⟨z1, z2⟩, hv⟩ := exoL_at I hx
    have J : ∃ od, PySem.W.InstAt s.heap a oe D od := by
      rcases hd with rfl | ⟨dd, gs, rfl, h1⟩
      · refine ⟨none, at_, z1, by simp only [PySem.W.notCls, hv], by rw [z2]; trivial⟩
      · obtain ⟨mA, ⟨o1, es, ep, e1, c1⟩, _⟩ := (show ObjOk X.prog X.w H s.heap dd (.xd gs) from I.hok dd _ h1)
        refine ⟨some o1, at_, z1, by simp only [PySem.W.notCls, hv], ?_⟩
        rw [z2]
        exact e1
    exact PySem.W.kia_one (exc_kit C) I.kIn J e (by simp) fun tk => ⟨.bl b, H, I.kept (t' := tk) fun _ _ z => z, rfl, k⟩
def exOf (S : Store) : Val → Option (Str × List (Str × Val))
  | .ref i => match S[i]? with
    | some (.exo c fs) => some (c, fs)
    | _ => none
  | _ => none
def kIsE (m : Str → Bool) : Val → Store → Out Val := fun x S => match exOf S x with
  | some (c, _) => .ok (.bl (m c)) S
  | none => .bad
def eIsE (m : Str → Bool) (f : En → Store → Out Val) : En → Store → Out Val := fun env S => (f env S).bind (kIsE m)
def kFldE (cs : List Str) (n : Str) : Val → Store → Out Val := fun x S => match exOf S x with
  | some (c, fs) => if cs.contains c = true then (match fs.lookup n with | some v => .ok v S | none => .bad) else .bad
  | none => .bad
def eFldE (cs : List Str) (n : Str) (f : En → Store → Out Val) : En → Store → Out Val := fun env S => (f env S).bind (kFldE cs n)
theorem exOf_rep {K : PySem.W.Frag} {Y : Sy} {ρ : List Addr} {H : Hp} {S : Store} {v : V} {x : Val} {c : Str} {fs : List (Str × Val)} (hs : Sim K Y ρ H S) (r : Rep K ρ H v x) (h : exOf S x = some (c, fs)) :
    ∃ a C d, v = .ref a ∧ Y.er c = some (.ref C) ∧ exoL H a C d ∧ ErrF K ρ H d fs := by
  unfold exOf at h
  split at h
  · rename_i i
    split at h
    · rename_i c' fs' hS
      cases h
      cases r with
      | ref hi =>
        obtain ⟨a, ha, C, d, h1, h2, h3⟩ := hs.at_ hS
        rw [hi] at ha; cases ha
        exact ⟨_, C, d, rfl, h1, h2, h3⟩
    · cases h
  · cases h
section
variable {X : Cx} {Y : Sy} {W : WX} {c : Str} {m : Str → Bool} {f : En → Store → Out Val} {e : Expr} {p p2 pos : Pos}
theorem isE_post {cv : Value} {cV : V} {W' : Value → Option Addr → Hp → Prop} {ρ : List Addr} {H : Hp} {S : Store} {v : V} {x : Val} {Q : VK} (hF : ∀ q cls, Y.er q = some cls → ∃ D, cls = .ref D ∧ ExcC X.K D ∧ PySem.W.kitOne X.K (.ref D) cv = some (m q)) (hcv : ClsV cV cv)
    (hs : Sim X.K Y ρ H S) (rx : Rep X.K ρ H v x) (hp : Post X.K Y W' ρ H (RV X.K) Q (kIsE m x S)) : rIsV X.K [v, cV] H Q := by
  unfold kIsE at hp
  split at hp
  · rename_i q fs hq
    obtain ⟨a, C, d, rfl, h1, h2, h3⟩ := exOf_rep hs rx hq
    obtain ⟨D, e1, hC, hk⟩ := hF q _ h1
    cases e1
    refine ⟨a, C, d, cV, cv, m q, rfl, hC, h2, hcv, hk, ?_, hp (.bl (m q)) ρ H (Pre.refl _) (Ext.refl _) hs (.bl _)⟩
    rcases h3 with ⟨_, rfl⟩ | ⟨dd, gs, rfl, e1, _⟩
    · exact .inl rfl
    · exact .inr ⟨dd, gs, rfl, e1⟩
  · exact hp.elim
theorem sv_isE (F : IsEAt X.K X.mg Y c m) (hg : Gl X "isinstance") (hm : X.mg "isinstance" = none) (hg2 : Gl X c) (ha : SE X Y W e f) (hdc : (c == ("__debug__" : Str)) = false := by decide)
    (he : starEach [e, .Name c p2] X.env = (false, eval e X.env) :: starEach [.Name c p2] X.env := by rfl) (hpl : (backTo pos (starEach [.Name c p2] X.env)).any (·.1) = false := by rfl) (h2 : starEach [.Name c p2] X.env = (false, eval (.Name c p2) X.env) :: starEach [] X.env := by rfl) :
    SE X Y W (.Call (.Name "isinstance" p) [e, .Name c p2] [] pos) (eIsE m f) := by
  obtain ⟨C, hmc, hF⟩ := F.ex
  refine PE.imp (pe_callB call_isV hg hm (by decide +kernel) (pa_cons ha (pa_cons (pe_glob hg2 hmc hdc) pa_nil h2) he) (he := he) (hpl := hpl)) fun σ H Q h => ?_
  refine tG.bind (k := fun _ => kIsE m) h fun ρ env v x H1 S1 he hs rx hp => ?_
  exact isE_post (cV := .ref C) hF (.own C) hs rx hp
theorem sv_isET {T : String} (F : IsETy X.K Y T m) (hg : Gl X "isinstance") (hm : X.mg "isinstance" = none) (hg2 : Gl X c) (hm2 : X.mg c = none) (hb : bootBuiltins c = some (.type T)) (ha : SE X Y W e f) (hn : c ≠ "__name__" := by decide) (hdc : (c == ("__debug__" : Str)) = false := by decide)
    (he : starEach [e, .Name c p2] X.env = (false, eval e X.env) :: starEach [.Name c p2] X.env := by rfl) (hpl : (backTo pos (starEach [.Name c p2] X.env)).any (·.1) = false := by rfl) (h2 : starEach [.Name c p2] X.env = (false, eval (.Name c p2) X.env) :: starEach [] X.env := by rfl) :
    SE X Y W (.Call (.Name "isinstance" p) [e, .Name c p2] [] pos) (eIsE m f) := by
  refine PE.imp (pe_callB call_isV hg hm (by decide +kernel) (pa_cons ha (pa_cons (pe_bltn (v := .ty T) hg2 hm2 hb rfl hn hdc) pa_nil h2) he) (he := he) (hpl := hpl)) fun σ H Q h => ?_
  refine tG.bind (k := fun _ => kIsE m) h fun ρ env v x H1 S1 he hs rx hp => ?_
  exact isE_post (cV := .ty T) F.ex (.ty T) hs rx hp
theorem se_fldE {n : Str} {cs : List Str} (F : ∀ c ∈ cs, XfAt X.K Y c n) (he : SE X Y W e f) (hb : attributeBase e n X.env (eval e X.env) = eval e X.env := by rfl) : SE X Y W (.Attribute e n pos) (eFldE cs n f) := by
  refine ⟨fun pins s σ H Q I h => ?_⟩
  have h' := tG.bind (R := RV X.K) (k := fun _ => kFldE cs n) (Q' := fun (v : V) H1 => ∃ (a C dd : Addr) (fs : List (Str × V)) (w : V), v = V.ref a ∧ exoL H1 a C (some dd) ∧ XfC X.K C ∧ PySem.W.findIn X.K (.ref C) n = some none ∧ H1 dd = some (.xd fs) ∧ fs.lookup n = some w ∧ Q w H1) h fun ρ env v x H1 S1 he hs rx hp => by
    unfold kFldE at hp
    split at hp
    · rename_i c fs hq
      obtain ⟨a, C, d, rfl, h1, h2, h3⟩ := exOf_rep hs rx hq
      by_cases hc : cs.contains c = true
      · rw [if_pos hc] at hp
        obtain ⟨C', e1, T, hno⟩ := (F c (by simpa using hc)).ex
        rw [h1] at e1; cases e1
        split at hp
        · rename_i y hy
          rcases h3 with ⟨rfl, _⟩ | ⟨dd, gs, rfl, e1, r1⟩
          · cases hy
          · obtain ⟨w, l1, r2⟩ := r1.xlook hy
            exact ⟨a, C, dd, gs, w, rfl, h2, T, hno, e1, l1, hp w ρ H1 (Pre.refl _) (Ext.refl _) hs r2⟩
        · exact hp.elim
      · rw [if_neg hc] at hp; exact hp.elim
    · exact hp.elim
  refine attr_of hb (thn (he.run pins s σ H _ I h') fun u s1 hh => ?_)
  obtain ⟨x, H1, I1, rx, a, C, dd, fs, v, rfl, hx, T, hno, ea, l, q⟩ := hh
  obtain rfl : u = Value.ref a := rx
  obtain ⟨oe, vs, at_, hz, hd⟩ := exoL_at I1 hx
  have hxd : ObjOk X.prog X.w H1 s1.heap dd (.xd fs) := I1.hok dd _ ea
  obtain ⟨mA, hns, hr⟩ := hxd
  obtain ⟨od, ho, hl⟩ := lookIn_ns hns
  obtain ⟨u, hu, ru⟩ := RelO.some_of (v := v) (o := mA n) (by rw [← l]; exact hr n)
  have J : PySem.W.InstAt s1.heap a oe C (some od) := ⟨at_, hz.1, by unfold PySem.W.notCls; rw [hd] <;> rfl, by rw [hz.2]; exact ho⟩
  exact HandSPX.exc_get I1.kIn J T.ga T.gg T.exC (PySem.W.findObj_own T.hdC hno rfl (by rw [hl, hu])) (handed_of ru) ⟨v, H1, I1.tok _, ru, q⟩
end
/-! ### words -/
section
variable {env : En} {S : Store} {P : Val → Store → Prop} {E : XO}
@[simp] theorem wO_eMkE0 {c : Str} : wO (eMkE0 c env S) P E = P (.ref S.length) (S ++ [.exo c []]) := rfl
@[simp] theorem wO_eMkE1 {c n : Str} {f : En → Store → Out Val} : wO (eMkE1 c n f env S) P E = wO (f env S) (fun x S1 => P (.ref S1.length) (S1 ++ [.exo c [(n, x)]])) E := by
  unfold eMkE1
  cases f env S <;> rfl
@[simp] theorem wO_eIsE {m : Str → Bool} {f : En → Store → Out Val} : wO (eIsE m f env S) P E = wO (f env S) (fun x S1 => wO (kIsE m x S1) P E) E := by
  unfold eIsE
  cases f env S <;> rfl
@[simp] theorem wO_eFldE {cs : List Str} {n : Str} {f : En → Store → Out Val} : wO (eFldE cs n f env S) P E = wO (f env S) (fun x S1 => wO (kFldE cs n x S1) P E) E := by
  unfold eFldE
  cases f env S <;> rfl
end
end Mp

set_option Elab.async false
set_option linter.all false
set_option maxRecDepth 100000
set_option maxHeartbeats 4000000
/-! try with several clauses, each with the same name. -/
namespace L2
open PySem PySem.Spec PyProof.Rows
/-- what the clauses wish, slot i the name's -/
def wManyAs (K : PySem.W.Frag) (Wout : WX) (D : Ends) (i : Nat) : List (Value × (Addr → Value → Option Addr → TS)) → WX
  | [] => Wout
  | (c, ts) :: r => fun cls d σ H => ∃ b, PySem.W.exmOne K cls c = some b ∧ (b = true → ∀ a, H a = none → ts a cls d { nx := fun σ' H' => D.nx (σ'.set i none) H', rt := D.rt, bk := fun σ' H' => D.bk (σ'.set i none) H', ct := fun σ' H' => D.ct (σ'.set i none) H' } (σ.set i (some (.ref a))) H) ∧ (b = false → wManyAs K Wout D i r cls d σ H)
inductive HdsOkAs (X : Cx) (n : Str) : List ExceptHandler → List (Value × (Addr → Value → Option Addr → TS)) → Prop
  | nil : HdsOkAs X n [] []
  | cons {x : Str} {c : Value} {ts : Addr → Value → Option Addr → TS} {b₀ : Stmt} {suite : List Stmt} {np pos' : Pos} {hds : List ExceptHandler} {l : List (Value × (Addr → Value → Option Addr → TS))} (hc : Names X x c)
      (hsu : ∀ (a : Addr) (oe : Obj) (cls : Value) (d : Option Addr) (pn : List (Addr × Obj)), Zc cls d oe → (∃ vs, oe.data = .fields vs) → PSs (X.suite a ((a, oe) :: pn)) (b₀ :: suite) (ts a cls d)) (r : HdsOkAs X n hds l) :
      HdsOkAs X n (.ExceptHandler (some (.Name x np)) (some n) (b₀ :: suite) pos' :: hds) ((c, ts) :: l)
/-- an exception stands caught at a: sI what stood when it left the body -/
structure Cau (X : Cx) (pins : List (Addr × Obj)) (a : Addr) (cls : Value) (d : Option Addr) (B : Heap) (sI : Shared) (σ : St) (H : Hp) (s : Shared) : Prop where
  inv : Inv X pins σ H sI
  nb : ∀ b o, sI.heap.get? b = some o → b ∉ frs X.stack → B.get? b = some o
  fly : HandSPX.FlyingZ B (X.env :: X.outer) a (Zc cls d) s.heap
  up : sI.heap.UpToSlots s.heap
  na : H a = none
  os : s.os = sI.os
  ag : AllBare s.gens
section
variable {X : Cx} {pins : List (Addr × Obj)} {a : Addr} {cls : Value} {d : Option Addr} {B : Heap} {sI s : Shared} {σ : St} {H : Hp} {i : Nat} {n : Str} {D : Ends} {Wout : WX}
theorem Cau.now (C : Cau X pins a cls d B sI σ H s) : Inv X pins σ H s := C.inv.landed C.nb C.fly.1 C.up C.os C.ag
theorem Cau.sta (C : Cau X pins a cls d B sI σ H s) (hf : X.env.frame = some X.env.locals) : ∃ oe, s.heap.get? a = some oe ∧ Zc cls d oe ∧ (∃ vs, oe.data = .fields vs) ∧ Inv (X.suite a ((a, oe) :: (X.pn ++ pins))) [] σ H s := by
  obtain ⟨oe, vs, e1, e2, e3⟩ := C.fly.there
  have far : a ∉ frs (X.env :: X.outer) := fun hm => by
    obtain ⟨_, o, e4, no⟩ := C.fly.2.2.1.mem hm
    rw [e1] at e4
    cases e4
    exact no _ e3
  refine ⟨oe, e1, e2, ⟨vs, e3⟩, C.now.suite e1 e3 C.na ?_ ?_⟩
  · intro z
    exact far (List.mem_filterMap.mpr ⟨X.env, List.mem_cons_self, by rw [hf, z]⟩)
  · intro hm
    obtain ⟨e, he, q⟩ := List.mem_filterMap.mp hm
    exact far (List.mem_filterMap.mpr ⟨e, List.mem_cons_of_mem _ he, q⟩)
theorem Cau.again (C : Cau X pins a cls d B sI σ H s) {h : Heap} (fl : HandSPX.FlyingZ B (X.env :: X.outer) a (Zc cls d) h) (up : s.heap.UpToSlots h) : Cau X pins a cls d B sI σ H { s with heap := h } :=
  ⟨C.inv, C.nb, fl, C.up.trans up, C.na, C.os, C.ag⟩
/-- no clause is left -/
theorem Cau.on (C : Cau X pins a cls d B sI σ H s) (hs : X.stack = X.env :: X.outer) (hf : X.env.frame = some X.env.locals) (tk : Takes X Wout) (w : Wout cls d σ H) {P : Flow → Shared → Prop} :
    wpAny (model X.prog X.w) X.A (handleBy (.ref a) X.env []) P X.xe s := by
  refine wpAny_handleBy_nil ?_
  have fin : wpAny (model X.prog X.w) X.A (setFlight (.ref a) X.env.frame) (fun _ s4 => wpAny (model X.prog X.w) X.A (throw (.ref a) : Sem Flow) P X.xe s4) X.xe s := by
    rw [hf]
    exact HandSPX.setFlight_upZ C.fly fun h4 hh up => wpAny_throw (tk _ _ ⟨a, B, sI, pins, σ, H, cls, d, rfl, C.inv, C.nb, C.up.trans up, .inr (.inr (hs ▸ hh)), C.na, C.os, C.ag, w⟩)
  obtain ⟨_, _, _, oe, vs, T, _, _, e1, _, e3, e4, _⟩ := C.fly
  unfold PySem.passOn
  refine wpAny_bind (wpAny_field e1 e3 e4 ?_)
  rw [if_neg (by simp)]
  first
    | exact wpAny_bind (wpAny_pure (wpAny_bind fin))
    | exact wpAny_bind fin
/-- the clauses, one behind the other -/
theorem Cau.by_ (hs : X.stack = X.env :: X.outer) (hf : X.env.frame = some X.env.locals) (hN : X.N.Nodup) (hi : X.N[i]? = some n) (hln : X.env.kindOf n = some .local) (tk : Takes X Wout) (ok : X.Ok) {hds : List ExceptHandler} {l : List (Value × (Addr → Value → Option Addr → TS))} (hk : HdsOkAs X n hds l) :
    ∀ {s : Shared}, Cau X pins a cls d B sI σ H s → wManyAs X.K Wout D i l cls d σ H → wpAny (model X.prog X.w) X.A (handleBy (.ref a) X.env hds) (SP X pins D) X.xe s := by
  induction hk with
  | nil => exact fun C w => C.on hs hf tk w
  | @cons x c ts b₀ suite np pos' rest lrest hc hsu _ ih =>
    intro s C w
    obtain ⟨b, e, yes, no⟩ := w
    obtain ⟨oe, o1, o2, _, S⟩ := C.sta hf
    refine wpAny_handleBy_cons (codeAny_handlers_test ?_) (by intro q; cases q)
    have lk : PySem.W.Looks (model X.prog X.w) s.heap (typeOf (.ref a)) cls := fun _ _ _ _ k q => wpAny_typeOf_ref (k _ _ o1) (by rw [o2.1]; exact q)
    have cls_ : ∀ {Q : Value → Shared → Prop} {E : Value → Shared → Prop}, Q c s → wpAny (model X.prog X.w) (X.A.mark (some (.ref a))) (eval (.Name x np) X.env) Q E s := fun q => by
      rcases hc with ⟨g, db, m | ⟨m, v, nn⟩⟩
      · exact ld_glob (X := X.suite a ((a, oe) :: (X.pn ++ pins))) S g m q db
      · exact ld_blt (X := X.suite a ((a, oe) :: (X.pn ++ pins))) S g m v q nn db
    refine cls_ ((PySem.W.exm_one (M := model X.prog X.w) C.now.kIn lk e).here ?_)
    cases b with
    | false => exact ih C (no rfl)
    | true =>
      refine codeAny_handlers_suite_as (HandSPX.lands_againZ C.fly fun h fl up => ?_)
      obtain ⟨oe2, p1, p2, p3, S2⟩ := (C.again fl up).sta hf
      refine store_ok (X := X.suite a ((a, oe2) :: (X.pn ++ pins))) (v := .ref a) S2 hN hi (.inl hln) rfl (fun s5 S5 => ?_) (.inr hln)
      refine wpAny_mono ((hsu a oe2 cls d (X.pn ++ pins) p2 p3).run [] s5 _ H _ S5 (yes rfl a C.na)) (fun f s6 q => ?_) fun _ _ z => z.elim
      cases f with
      | ret u =>
        obtain ⟨_, _, _, S6, r, q⟩ := q
        exact gone_ok (S6.unsuite ok) hN hi hln fun _ J => ⟨_, _, _, J, r, q⟩
      | _ =>
        obtain ⟨_, _, S6, q⟩ := q
        exact gone_ok (S6.unsuite ok) hN hi hln fun _ J => ⟨_, _, J, q⟩
variable {body : List Stmt} {h₀ : ExceptHandler} {hds : List ExceptHandler} {l : List (Value × (Addr → Value → Option Addr → TS))} {pos : Pos} {tb : WX → TS}
theorem ps_try_manyAs (hs : X.stack = X.env :: X.outer) (hf : X.env.frame = some X.env.locals) (hN : X.N.Nodup) (hi : X.N[i]? = some n) (hln : X.env.kindOf n = some .local) (tk : Takes X Wout)
    (hb : ∀ (W : WX) (pn : List (Addr × Obj)) (xe : Value → Shared → Prop), Takes (X.tr pn xe) W → PassesOwn (model X.prog X.w) X.A X.env xe → PSs (X.tr pn xe) body (tb W)) (hh : HdsOkAs X n (h₀ :: hds) l) :
    PS X (.Try body (h₀ :: hds) [] [] pos) (fun D σ H => tb (wManyAs X.K Wout D i l) D σ H) := by
  refine ⟨fun pins s σ H D I h => wpAny_Try_except ?_⟩
  have ok := I.ok
  refine wpAny_mono ((hb (wManyAs X.K Wout D i l) (X.pn ++ pins) (fun e s₁ => wpAny (model X.prog X.w) X.A (noteFrame e X.env) (fun _ s₂ => wpAny (model X.prog X.w) X.A (setFlight e none) (fun _ s₃ =>
    wpAny (model X.prog X.w) X.A (handleBy e X.env (h₀ :: hds)) (SP X pins D) X.xe s₃) X.xe s₂) X.xe s₁) (fun u s' c => ?_) PassesOwn.looking).run [] s σ H D (I.toTry _) h) (fun f s1 q => ?_) fun _ _ z => z
  · obtain ⟨a, B, sI, _, σ1, H1, cls, d, rfl, J, nb, up, sky, na, os, ag, w⟩ := c
    rw [show X.stack = (X.env :: X.outer) from hs] at sky
    exact Sky.land Zc.steady (by rw [ok.frames, hs]) hf sky fun h fl up2 => Cau.by_ hs hf hN hi hln tk ok hh ⟨J.ofTry ok, nb, fl, up.trans up2, na, os, ag⟩ w
  · cases f with
    | next =>
      obtain ⟨_, _, J, q⟩ := q
      exact wpAny_execs_nil ⟨_, _, J.ofTry ok, q⟩
    | ret u =>
      obtain ⟨_, _, _, J, r, q⟩ := q
      exact ⟨_, _, _, J.ofTry ok, r, q⟩
    | _ =>
      obtain ⟨_, _, J, q⟩ := q
      exact ⟨_, _, J.ofTry ok, q⟩
end
end L2
namespace Mp
open PySem PySem.Spec PyProof.Rows L2
abbrev HdA := (Str → Bool) × (Str → List (Str × Val) → En → Store → Res)
def tryHdA (i : Nat) (c : Str) (fs : List (Str × Val)) (e : En) (S : Store) : List HdA → Res
  | [] => .er c fs e S
  | (m, g) :: r => if m c = true then (if i < e.length then (g c fs (e.set i none) S).let i else .bad) else tryHdA i c fs e S r
def sTryM (i : Nat) (gb : En → Store → Res) (l : List HdA) : En → Store → Res := fun env S => match gb env S with
  | .er c fs e S1 => tryHdA i c fs e S1 l
  | r => r
inductive HdsA (X : Cx) (Y : Sy) (i : Nat) (n : Str) : List ExceptHandler → List (Value × (Addr → Value → Option Addr → TS)) → List HdA → Prop
  | nil : HdsA X Y i n [] [] []
  | cons {x : Str} {hv : Value} {m : Str → Bool} {g : Str → List (Str × Val) → En → Store → Res} {b₀ : Stmt} {suite : List Stmt} {np pos' : Pos} {hds : List ExceptHandler} {l' : List (Value × (Addr → Value → Option Addr → TS))} {l : List HdA} (hc : Names X x hv)
      (hm : ∀ q cls, Y.er q = some cls → PySem.W.exmOne X.K cls hv = some (m q))
      (hsu : ∀ (a : Addr) (oe : Obj) (q : Str) (cls : Value) (d : Option Addr) (pn : List (Addr × Obj)) (fs : List (Str × Val)), Y.er q = some cls → m q = true → Zc cls d oe → (∃ vs, oe.data = .fields vs) → Cs (X.suite a ((a, oe) :: pn)) →
        SSs (X.suite a ((a, oe) :: pn)) { Y with xi := some (i, a, cls, d, fs) } W0 (b₀ :: suite) (g q fs)) (r : HdsA X Y i n hds l' l) :
      HdsA X Y i n (.ExceptHandler (some (.Name x np)) (some n) (b₀ :: suite) pos' :: hds) ((hv, tsAs X.K Y m i g) :: l') ((m, g) :: l)
theorem HdsA.ok {X : Cx} {Y : Sy} {i : Nat} {n : Str} (cs : ∀ a pn, Cs (X.suite a pn)) {hds : List ExceptHandler} {l' : List (Value × (Addr → Value → Option Addr → TS))} {l : List HdA} (h : HdsA X Y i n hds l' l) : HdsOkAs X n hds l' := by
  induction h with
  | nil => exact .nil
  | cons hc hm hsu r ih =>
    refine .cons hc (fun a oe cls d pn hz hd => ⟨fun pins s σ H D I hh => ?_⟩) ih
    obtain ⟨q, fs, e1, e2, hh⟩ := hh
    exact (hsu a oe q cls d pn fs e1 e2 hz hd (cs _ _)).run pins s σ H D I hh
theorem HdsA.post {X : Cx} {Y : Sy} {W : WX} {D : Ends} {i : Nat} {n : Str} {c : Str} {fs : List (Str × Val)} {e : En} {S : Store} {cls : Value} {d : Option Addr} {σ : L2.St} {ρ : List Addr} {H : Hp} (hxi : Y.xi = none) (he : ERep X.K Y ρ H σ e) (hs : Sim X.K Y ρ H S) (her : ErrRep X.K Y ρ H cls d c fs)
    {hds : List ExceptHandler} {l' : List (Value × (Addr → Value → Option Addr → TS))} {l : List HdA} (h : HdsA X Y i n hds l' l) (hp : PostS X.K Y W ρ H D (tryHdA i c fs e S l)) : wManyAs X.K W D i l' cls d σ H := by
  induction h with
  | nil => exact hp cls d σ ρ H (Pre.refl _) (Ext.refl _) he hs her
  | @cons x hv m g b₀ suite np pos' hds l' l hc hm hsu r ih =>
    refine ⟨m c, hm c cls her.1, fun hq a ha => ?_, fun hq => ?_⟩
    · simp only [tryHdA, hq, if_true] at hp
      by_cases hl : i < e.length
      · rw [if_pos hl] at hp
        refine ⟨c, fs, her.1, hq, ρ, e.set i none, S, ⟨?_, fun j y z => ?_, fun n' a' cv' d' fs' z => ?_⟩, hs.y rfl, ?_⟩
        · simp [he.len]
        · by_cases hj : j = i
          · subst hj
            rw [List.getElem?_set_self hl] at z; cases z
          · rw [List.getElem?_set_ne (Ne.symm hj)] at z ⊢
            exact he.at_ j y z
        · cases z
          exact ⟨List.getElem?_set_self (by rw [he.len]; exact hl), her.2⟩
        · generalize g c fs (e.set i none) S = r2 at hp
          cases r2 with
          | nx e2 S2 => exact fun σ2 ρ2 H2 p2 x2 he2 hs2 => hp (σ2.set i none) ρ2 H2 p2 x2 (he2.unset i Y hxi) (hs2.y rfl)
          | rt v S2 => exact fun v2 ρ2 H2 p2 x2 hs2 r2 => hp v2 ρ2 H2 p2 x2 (hs2.y rfl) r2
          | bk e2 S2 => exact fun σ2 ρ2 H2 p2 x2 he2 hs2 => hp (σ2.set i none) ρ2 H2 p2 x2 (he2.unset i Y hxi) (hs2.y rfl)
          | ct e2 S2 => exact fun σ2 ρ2 H2 p2 x2 he2 hs2 => hp (σ2.set i none) ρ2 H2 p2 x2 (he2.unset i Y hxi) (hs2.y rfl)
          | er c2 fs2 e2 S2 => exact hp.elim
          | bad => exact hp.elim
      · rw [if_neg hl] at hp; exact hp.elim
    · simp only [tryHdA, hq] at hp
      exact ih hp
theorem ss_tryM {X : Cx} {Y : Sy} {W : WX} {kc : Nat} {i : Nat} {n : Str} {body : List Stmt} {pos : Pos} {gb : En → Store → Res} {h₀ : ExceptHandler} {hds : List ExceptHandler} {l : List HdA} (c : Cc X Y W kc) (hi : X.N[i]? = some n) (hln : X.env.kindOf n = some .local)
    (hb : ∀ pn xe W', Cc (X.tr pn xe) Y W' kc → SSs (X.tr pn xe) Y W' body gb) (hh : ∃ l', HdsA X Y i n (h₀ :: hds) l' l)
    (hs : X.stack = X.env :: X.outer := by rfl) (hf : X.env.frame = some X.env.locals := by rfl) : SS X Y W (.Try body (h₀ :: hds) [] [] pos) (sTryM i gb l) := by
  obtain ⟨l', hh⟩ := hh
  refine PS.imp (ps_try_manyAs (tb := fun W' => tS X.K Y W' gb) hs hf c.nd hi hln c.tk (fun W' pn xe tk po => hb pn xe W' ⟨c.calm, c.nd, c.xi, po, tk, c.room⟩) (hh.ok fun a pn => ⟨c.nd, c.un⟩)) fun D σ H h => ?_
  obtain ⟨ρ, env, S, he, hs, h⟩ := h
  refine ⟨ρ, env, S, he, hs, ?_⟩
  unfold sTryM at h
  generalize hgr : gb env S = r at h
  cases r with
  | nx e1 S1 => exact h
  | rt v S1 => exact h
  | bk e1 S1 => exact h
  | ct e1 S1 => exact h
  | bad => exact h
  | er q fs e1 S1 => exact fun cls d σ1 ρ1 H1 p1 x1 he1 hs1 her => hh.post c.xi he1 hs1 her (PostS.up p1 x1 h)
theorem ha_nil {X : Cx} {Y : Sy} {i : Nat} {n : Str} : ∃ l', HdsA X Y i n [] l' [] := ⟨_, .nil⟩
theorem ha_cons {X : Cx} {Y : Sy} {i : Nat} {n : Str} {c : Str} {m : Str → Bool} {gs : Str → List (Str × Val) → En → Store → Res} {b₀ : Stmt} {suite : List Stmt} {np pos' : Pos} {hds : List ExceptHandler} {l : List HdA} (F : HdAt X.K X.mg Y c m) (hg : Gl X c)
    (hsu : ∀ (a : Addr) (oe : Obj) (q : Str) (cls : Value) (d : Option Addr) (pn : List (Addr × Obj)) (fs : List (Str × Val)), Y.er q = some cls → m q = true → Zc cls d oe → (∃ vs, oe.data = .fields vs) → Cs (X.suite a ((a, oe) :: pn)) →
      SSs (X.suite a ((a, oe) :: pn)) { Y with xi := some (i, a, cls, d, fs) } W0 (b₀ :: suite) (gs q fs))
    (r : ∃ l', HdsA X Y i n hds l' l) : ∃ l', HdsA X Y i n (.ExceptHandler (some (.Name c np)) (some n) (b₀ :: suite) pos' :: hds) l' ((m, gs) :: l) := by
  obtain ⟨hv, ⟨h0, h1⟩, h2⟩ := F.ex
  obtain ⟨l', r⟩ := r
  exact ⟨_, .cons ⟨hg, h0, h1⟩ h2 hsu r⟩
/-! ### words -/
section
variable {env : En} {S : Store}
def wHA (R : RP) (i : Nat) (c : Str) (fs : List (Str × Val)) (e : En) (S : Store) : List HdA → Prop
  | [] => R.er c fs e S
  | (m, g) :: r => if m c = true then (i < e.length ∧ wR (g c fs (e.set i none) S) ⟨fun e S => R.nx (e.set i none) S, R.rt, fun e S => R.bk (e.set i none) S, fun e S => R.ct (e.set i none) S, fun _ _ _ _ => False⟩) else wHA R i c fs e S r
theorem wR_sTryM {R : RP} {i : Nat} {gb : En → Store → Res} {l : List HdA} : wR (sTryM i gb l env S) R = wR (gb env S) { R with er := fun c fs e S1 => wHA R i c fs e S1 l } := by
  simp only [sTryM]
  cases h : gb env S with
  | er c fs e S1 =>
    simp only [wR_er]
    induction l with
    | nil => rfl
    | cons p r ih =>
      obtain ⟨m, g⟩ := p
      simp only [tryHdA, wHA]
      by_cases q : m c = true
      · rw [if_pos q, if_pos q]
        by_cases l : i < e.length
        · rw [if_pos l, wR_let]; simp [l]
        · rw [if_neg l]; simp [l]
      · rw [if_neg q, if_neg q]; exact ih
  | _ => rfl
end
end Mp

set_option Elab.async false
set_option linter.all false
set_option maxRecDepth 100000
set_option maxHeartbeats 4000000
/-! repr of data with lists and empty dicts of the store within, where no repr is under way. -/
namespace Mp
open PySem PySem.Spec PySem.Calls PyProof.Rows L2
/-- the data that a value is, lists and empty dicts of the store followed -/
def readP : Nat → Store → Val → Option PyData
  | 0, _, _ => none
  | n + 1, S, x => match x with
    | .non => some .none
    | .bl b => some (.bool b)
    | .int i => some (.int i)
    | .str y => some (.str y)
    | .tup xs => (readsR (readP n S) xs).map PyData.tuple
    | .ref i => match S[i]? with
      | some (.lst xs) => (readsR (readP n S) xs).map PyData.list
      | some (.dk kvs) => if kvs.isEmpty = true then some (.dict []) else none
      | _ => none
    | _ => none
section
variable {X : Cx} {Y : Sy} {pins : List (Addr × Obj)} {σ : L2.St} {H : Hp} {s : Shared} {ρ : List Addr} {S : Store}
theorem readsP_reads {f : Val → Option PyData} (hf : ∀ {v : V} {x : Val} {d : PyData} {u : Value}, Rep X.K ρ H v x → RelV v u → f x = some d → ∃ as, Reads s.heap u d as ∧ ∀ b ∈ as, H b ≠ none) :
    ∀ {vs : List V} {xs : List Val} {ds : List PyData} {us : List Value}, Reps X.K ρ H vs xs → Vals vs us → readsR f xs = some ds → ∃ as, ReadsAll s.heap us ds as ∧ ∀ b ∈ as, H b ≠ none
  | _, _, _, _, .nil, .nil, h => by
    simp only [readsR, Option.some.injEq] at h
    subst h
    exact ⟨[], .nil, fun b hb => by cases hb⟩
  | _, _, _, _, .cons h1 h2, .cons r1 r2, h => by
    simp only [readsR, Option.bind_eq_some_iff, Option.map_eq_some_iff] at h
    obtain ⟨d, e1, ds', e2, rfl⟩ := h
    obtain ⟨a1, q1, n1⟩ := hf h1 r1 e1
    obtain ⟨a2, q2, n2⟩ := readsP_reads hf h2 r2 e2
    exact ⟨a1 ++ a2, .cons q1 q2, fun b hb => (List.mem_append.mp hb).elim (n1 b) (n2 b)⟩
theorem readP_reads (I : Inv X pins σ H s) (hs : Sim X.K Y ρ H S) : ∀ (n : Nat) {v : V} {x : Val} {d : PyData} {u : Value}, Rep X.K ρ H v x → RelV v u → readP n S x = some d → ∃ as, Reads s.heap u d as ∧ ∀ b ∈ as, H b ≠ none
  | 0, _, _, _, _, _, _, h => by simp [readP] at h
  | n + 1, v, x, d, u, r, ru, h => by
    have nil : ∀ b ∈ ([] : List Addr), H b ≠ none := fun b hb => by cases hb
    cases r with
    | non => obtain rfl : u = .none := ru; cases h; exact ⟨[], .none, nil⟩
    | bl b => obtain rfl : u = .bool b := ru; cases h; exact ⟨[], .bool b, nil⟩
    | int i => obtain ⟨t, rfl⟩ : ∃ t, u = .int i t := ru; cases h; exact ⟨[], .int i t, nil⟩
    | str y => obtain ⟨t, rfl⟩ : ∃ t, u = .str y t := ru; cases h; exact ⟨[], .str y t, nil⟩
    | frz _ _ => simp [readP] at h
    | ktp _ _ => simp [readP] at h
    | @tup a vs xs e rs =>
      obtain rfl : u = .ref a := ru
      obtain ⟨ds, h1, rfl⟩ := Option.map_eq_some_iff.mp (show (readsR (readP n S) xs).map PyData.tuple = some d from h)
      obtain ⟨its, rv, ⟨o, eo, ec, m, ed⟩, _⟩ := I.tuple (SqT.of e)
      obtain ⟨as, q, na⟩ := readsP_reads (s := s) (fun r ru h => readP_reads I hs n r ru h) rs rv h1
      exact ⟨as, .tuple eo ec ed (by simpa using q), na⟩
    | @ref a i hi =>
      obtain rfl : u = .ref a := ru
      have h : (match S[i]? with
          | some (.lst xs) => (readsR (readP n S) xs).map PyData.list
          | some (.dk kvs) => if kvs.isEmpty = true then some (.dict []) else none
          | _ => none) = some d := h
      split at h
      · rename_i xs e1
        obtain ⟨ds, h1, rfl⟩ := Option.map_eq_some_iff.mp h
        obtain ⟨vs, e2, rs⟩ := hs.lst hi e1
        obtain ⟨its, rv, ⟨o, m, eo, ec, _, ed⟩, _⟩ := I.list (SqL.of e2)
        obtain ⟨as, q, na⟩ := readsP_reads (s := s) (fun r ru h => readP_reads I hs n r ru h) rs rv h1
        refine ⟨a :: as, .list eo ec ed (by simpa using q), fun b hb => ?_⟩
        rcases List.mem_cons.mp hb with rfl | hb
        · rw [e2]; simp
        · exact na b hb
      · rename_i kvs e1
        split at h
        · rename_i hk
          cases h
          obtain rfl : kvs = [] := List.isEmpty_iff.mp hk
          obtain ⟨b, hb, ws, e2, rs⟩ := hs.at_ e1
          rw [hi] at hb; cases hb
          cases rs
          obtain ⟨_, _, vs, kv, o, es, ep, eo, ex, ed, _, pr, _⟩ := dk_of I.hok e2
          cases kv
          have ee : es.toList = [] := by
            generalize es.toList = l at pr
            cases pr
            rfl
          refine ⟨[a] ++ [], .dict (kvs := []) (as := []) (bs := []) eo ex.1 ed (by rw [ee]; exact .nil) (by rw [ee]; exact .nil), fun b hb => ?_⟩
          have : b = a := by simpa using hb
          rw [this, e2]; simp
        · cases h
      · cases h
/-- the address of sys.modules is none of ours -/
theorem noSys (I : Inv X pins σ H s) (h : (X.K.lookup sysModules).isSome = true) : H sysModules = none := by
  obtain ⟨o, e⟩ := Option.isSome_iff_exists.mp h
  have e1 := I.ok.mod.kin _ _ e
  obtain ⟨e2, e3⟩ := I.ok.bs _ _ e1
  exact I.base.free _ _ e2 e3 (I.ok.noex _ _ e1)
def rRepr (K : PySem.W.Frag) (Y : Sy) : List V → Hp → VK → Prop := fun vs H Q => ∃ ρ S n v x d, vs = [v] ∧ Sim K Y ρ H S ∧ Rep K ρ H v x ∧ readP n S x = some d ∧ d.showable = true ∧ d.shown.length ≤ sizeLine ∧ d.depth ≤ 150 ∧ Q (.str d.shown) H
theorem call_reprP (hg : X.A.guards = some []) (hu : X.A.units + 200 < cLine) (hk : (X.K.lookup sysModules).isSome = true) : CallR X (.builtin "repr") (rRepr X.K Y) := by
  intro pins s σ H vs us Q I r h
  obtain ⟨ρ, S, n, v, x, d, rfl, hs, rx, hd, h1, h2, h3, q⟩ := h
  match us, r with
  | [u], .cons r1 .nil =>
    obtain ⟨as, rd, na⟩ := readP_reads I hs n rx r1 hd
    have hsm : d.hasDict = true → sysModules ∉ as := fun _ hm => na _ hm (noSys I hk)
    have fin : ∀ (h' : Heap) (t tk : Nat), (∀ b o, s.heap.get? b = some o → h'.get? b = some o) → ∃ (v' : V) (H' : Hp), Inv X pins σ H' { s with heap := h', toks := tk } ∧ RelV v' (.str d.shown t) ∧ Q v' H' := fun h' t tk k => ⟨.str d.shown, H, I.kept (t' := tk) k, ⟨t, rfl⟩, q⟩
    cases rd with
    | none => exact P.repr_of_none (fin s.heap _ _ fun _ _ z => z)
    | bool b => exact P.repr_of_bool (fin s.heap _ _ fun _ _ z => z)
    | int i t => exact P.repr_of_int (by simpa [PyData.showable] using h1) (fin s.heap _ _ fun _ _ z => z)
    | str y t => exact P.repr_of_str (fin s.heap _ _ fun _ _ z => z) h2
    | list a b c d' => exact repr_of_reads' (.list a b c d') h1 hsm hg (by omega) (fun _ _ z => z) (fun h' t tk k => fin h' t tk k) h2
    | tuple a b c d' => exact repr_of_reads' (.tuple a b c d') h1 hsm hg (by omega) (fun _ _ z => z) (fun h' t tk k => fin h' t tk k) h2
    | dict a b c d' e' => exact repr_of_reads' (.dict a b c d' e') h1 hsm hg (by omega) (fun _ _ z => z) (fun h' t tk k => fin h' t tk k) h2
end
def ShowOk (d : PyData) : Prop := d.showable = true ∧ d.shown.length ≤ sizeLine ∧ d.depth ≤ 150
noncomputable def kRepr : Val → Store → Out Val := fun x S => match readP 100 S x with
  | some d => @ite _ (ShowOk d) (Classical.propDecidable _) (.ok (.str d.shown) S) .bad
  | none => .bad
noncomputable def eRepr (f : En → Store → Out Val) : En → Store → Out Val := fun env S => (f env S).bind kRepr
theorem se_reprP {X : Cx} {Y : Sy} {W : WX} {e : Expr} {f : En → Store → Out Val} {p pos : Pos} (hG : X.A.guards = some []) (hu : X.A.units + 200 < cLine) (hk : (X.K.lookup sysModules).isSome = true) (hg : Gl X "repr") (hm : X.mg "repr" = none) (ha : SE X Y W e f)
    (he : starEach [e] X.env = (false, eval e X.env) :: starEach [] X.env := by rfl) (hpl : (backTo pos (starEach [] X.env)).any (·.1) = false := by rfl) : SE X Y W (.Call (.Name "repr" p) [e] [] pos) (eRepr f) := by
  refine PE.imp (pe_callB (call_reprP (Y := Y) hG hu hk) hg hm (by decide +kernel) (pa_cons ha pa_nil he) (he := he) (hpl := hpl)) fun σ H Q h => ?_
  refine tG.bind (k := fun _ => kRepr) h fun ρ env v x H1 S1 he hs rx hp => ?_
  unfold kRepr at hp
  split at hp
  · rename_i d hd
    by_cases hz : ShowOk d
    · rw [if_pos hz] at hp
      exact ⟨ρ, S1, 100, v, x, d, rfl, hs, rx, hd, hz.1, hz.2.1, hz.2.2, hp _ ρ H1 (Pre.refl _) (Ext.refl _) hs (.str _)⟩
    · rw [if_neg hz] at hp
      exact hp.elim
  · exact hp.elim
section
variable {env : En} {S : Store} {P : Val → Store → Prop} {E : XO}
@[simp] theorem wO_eRepr {f : En → Store → Out Val} : wO (eRepr f env S) P E = wO (f env S) (fun x S1 => wO (kRepr x S1) P E) E := by
  unfold eRepr
  cases f env S <;> rfl
theorem wO_kRepr {x : Val} {d : PyData} (h : readP 100 S x = some d) (hz : ShowOk d) : wO (kRepr x S) P E = P (.str d.shown) S := by
  simp only [kRepr, h, if_pos hz]; rfl
end
end Mp

set_option Elab.async false
set_option linter.all false
set_option maxRecDepth 100000
set_option maxHeartbeats 4000000
/-! The law's def where nothing is under way yet (repr's guards are empty); the head with sys.modules among what it looks at. -/
namespace Mp
open PySem PySem.Spec PyProof.Rows L2
def LawC (P : Program) (w : World) (K : PySem.W.Frag) (mg : Str → Option Value) (base : Heap) (fd : FuncData) (f : Addr) (x : Str) (Y : Sy) (g : Fn) : Prop :=
  ∀ (s : Shared) (H : Hp) (args : Args) (us : List Value) (vs : List V) (Q : VK) (E : XK), Env0 P w K mg base callerA [] s H → BindsTo s fd args ([x].zip us) → Vals vs us → spOf K Y 1 g vs H Q E →
    codeAny (model P w) callerA (.call (.ref f) args) (CR (L2.CX P w) [] P w H s Q E) s
theorem fn_okC {P : Program} {w : World} {K : PySem.W.Frag} {mg : Str → Option Value} {base : Heap} {Y : Sy} {x qual p : Str} {st : Stmt} {f : Addr} {fd : FuncData} {N : List Str} {k : Nat} {g : En → Store → Res} (F : Fun K x qual st f fd) (S : FnScope N [p] (defScope st)) (hy : Y.xi = none) (hr : Room (k + 1) callerA)
    (hb : ∀ cdv s H E, Cc (cxOf (L2.CX P w) P w K mg base N qual (defScope st) f cdv callerA [] s H E) Y (fun cls d _ H' => E cls d H') k →
      SSs (cxOf (L2.CX P w) P w K mg base N qual (defScope st) f cdv callerA [] s H E) Y (fun cls d _ H' => E cls d H') (defBody st) g) :
    LawC P w K mg base fd f p Y (fnB N.length 1 g) := by
  intro s H args us vs Q E e0 hbn r hsp
  obtain ⟨oc, od, kV, doc, pm, an, cdv, ct, osl, rfl, lk, hcd⟩ := F.ex
  obtain ⟨hl, ρ, xs, S0, rx, hs, hp⟩ := hsp
  have inK : K.In s.heap := e0.mod.kin.keeps fun b o e => (e0.bs b o e).1
  refine codeAny_call_function hr.depth (inK _ _ lk) rfl S.co S.gen rfl (PySem.W.codeRec_of inK hcd) (hbn _ _ _ _ ?_)
  refine wpAny_newFunctionEnv_cells S.kind (fun y hy => ?_) fun env he s1 z => ?_
  · rcases S.par y.1 (List.of_mem_zip (b := y.2) hy).1 with q | q
    · exact .inl q
    · exact .inr ⟨q, PySem.W.cellsFrom_some _ _ _ (.inl q)⟩
  subst he
  refine ⟨(e0.mod.nolimit.keeps fun b o e => (e0.bs b o e).1).keeps z.toInCall.keep, codeAny_func ?_⟩
  have I := inv_start (CX := L2.CX P w) (E := E) S hr.hd e0 hl r z
  have body := hb cdv s H E ⟨rfl, S.nd, hy, passes_of rfl, takes_of rfl rfl rfl rfl, hr.deeper _⟩
  have hl2 : xs.length = 1 := rx.length.symm.trans hl
  unfold fnB at hp
  rw [if_pos hl2] at hp
  refine wpAny_mono (body.run [] s1 (L2.start N vs) H { nx := fun _ H' => Q .non H', rt := Q } I ⟨ρ, xs.map some ++ List.replicate (N.length - 1) none, S0, ⟨?_, fun i x hi => ?_, fun n a cv d fs q => by rw [hy] at q; cases q⟩, hs, ?_⟩) (fun fl s' q => ?_) fun _ _ q => q
  · unfold L2.start
    simp [rx.length, hl2]
  · unfold L2.start
    by_cases hi2 : i < xs.length
    · rw [List.getElem?_append_left (by simpa using hi2), List.getElem?_map] at hi
      have hx : xs[i]? = some x := by
        rw [List.getElem?_eq_getElem hi2] at hi ⊢
        simpa using hi
      obtain ⟨v, h1, h2⟩ := rx.get hx
      refine ⟨v, ?_, h2⟩
      rw [List.getElem?_append_left (by simpa [rx.length] using hi2), List.getElem?_map, h1]
      rfl
    · rw [List.getElem?_append_right (by simpa using Nat.le_of_not_lt hi2)] at hi
      have := List.mem_of_getElem? hi
      simp [List.mem_replicate] at this
  · show PostS K Y _ ρ H _ (g _ S0)
    generalize hgr : g (xs.map some ++ List.replicate (N.length - 1) none) S0 = r at hp
    cases r with
    | nx e1 S1 => exact fun σ' ρ' H' p e q s => hp _ ρ' H' p e s .non
    | rt v S1 => exact fun v ρ' H' p e s r => hp v ρ' H' p e s r
    | bk e1 S1 => exact (show False from hp).elim
    | ct e1 S1 => exact (show False from hp).elim
    | er c fs e1 S1 => exact fun cls d σ' ρ' H' p e _ s r => hp cls d ρ' H' p e s r
    | bad => exact (show False from hp).elim
  · cases fl with
    | ret u =>
      obtain ⟨v, _, H', J, rv, q⟩ := q
      exact ⟨v, H', J.os, J.bare, J.base, J.hok, rv, q⟩
    | next =>
      obtain ⟨_, H', J, q⟩ := q
      exact ⟨V.non, H', J.os, J.bare, J.base, J.hok, rfl, q⟩
    | brk => obtain ⟨_, _, _, q⟩ := q; exact q.elim
    | cont => obtain ⟨_, _, _, q⟩ := q; exact q.elim
/-- the law's call from its promise at callerA -/
theorem call_C {P : Program} {w : World} {K : PySem.W.Frag} {mg mb : Str → Option Value} {fa a : Addr} {fd : FuncData} {x : Str} {Y : Sy} {g : Fn} {s₁ : Shared} {vs : List Value} {ns : List Int}
    (inK : K.In s₁.heap) (hns : s₁.heap.Ns mainGlobals mg) (hb : s₁.heap.Ns builtinsNs mb) (hbb : ∀ x : Str, x ≠ "__name__" → mb x = bootBuiltins x) (hlim : s₁.heap.NoLimit) (hg : s₁.gens = #[])
    (ha : s₁.heap.get? a = some { cls := .type "list", data := .seq vs.toArray }) (hi : IntsAre vs ns) (hl : ns.length ≤ sizeLine)
    (F : ∀ base : Heap, K.In base → base.Ns mainGlobals mg → LawC P w K mg base fd fa x Y g) (hbind : ∀ (s : Shared) (u : Value), BindsTo s fd ⟨[u], []⟩ [(x, u)]) {S : Store} (em : g [.frz (ns.map Val.int)] [] = .ok (.bl true) S) :
    codeAny (model P w) callerA (.call (.ref fa) ⟨[.ref a], []⟩) (fun r s' => r = .ok (.ret (.bool true)) ∧ OldK s₁.heap s'.heap ∧ s'.os = s₁.os ∧ AllBare s'.gens) s₁ := by
  have rv := vals_ints hi
  have lv := hi.length
  -- what is tracked: the script, where the top hasn't laid it
  obtain ⟨H, hH, hF, hok⟩ : ∃ H : Hp, (∀ b, H b = none ∨ (b = a ∧ K.lookup a = none ∧ ∃ o u, H b = some (.frz o u))) ∧ Fzl K H a (ns.map V.int) ∧ HOk P w H s₁.heap := by
    cases hk : K.lookup a with
    | some o =>
      have e := inK a o hk
      rw [ha] at e
      cases e
      refine ⟨fun _ => none, fun _ => .inl rfl, .inr (.inr ⟨_, vs.toArray, _, hk, rfl, rfl, rfl, by rw [List.size_toArray, lv]; exact hl, by simpa using rv⟩), fun b u z => by cases z⟩
    | none =>
      refine ⟨fun b => if b = a then some (.frz { cls := .type "list", data := .seq vs.toArray } (.lst (ns.map V.int))) else none, fun b => ?_, .inl ⟨_, if_pos rfl⟩, fun b u z => ?_⟩
      · by_cases h : b = a
        · exact .inr ⟨h, rfl, _, _, if_pos h⟩
        · exact .inl (if_neg h)
      · by_cases h : b = a
        · subst h
          cases (if_pos rfl).symm.trans z
          exact ⟨ha, by rw [List.length_map]; exact hl, vs, _, rv, ha⟩
        · cases (if_neg h).symm.trans z
  have dicts : ∀ {b : Addr} {m : Str → Option Value}, s₁.heap.Ns b m → (hidT s₁.heap H).Ns b m := fun {b m} ⟨o, es, ep, e, d, r⟩ => by
    refine ⟨o, es, ep, hidT_get e ?_, d, r⟩
    rcases hH b with n | ⟨rfl, _⟩
    · exact n
    · rw [ha] at e
      cases e
      cases d
  have bK : K.In (hidT s₁.heap H) := fun b o e => hidT_get (inK b o e) (by
    rcases hH b with n | ⟨rfl, n, _⟩
    · exact n
    · rw [n] at e; cases e)
  have e0 : Env0 P w K mg (hidT s₁.heap H) callerA [] s₁ H :=
    ⟨rfl, ⟨bK, dicts hns, ⟨mb, dicts hb, hbb⟩, hlim.imp fun mc h => ⟨dicts h.1, h.2⟩⟩, fun b o e => of_hidT e, Nat.le_of_eq (hidT_size _ _), trivial, fun b hb => (by cases hb), hok, .of_eq hg⟩
  have sp : spOf K Y 1 g [.ref a] H (fun v _ => v = .bl true) fun _ _ _ => False := by
    refine ⟨rfl, [], [.frz (ns.map Val.int)], [], .cons (.frz hF (reps_ints ns)) .nil, ⟨rfl, List.nodup_nil, fun i b u h _ => by simp at h⟩, ?_⟩
    rw [em]
    intro v ρ' H' _ _ _ r
    cases r
    rfl
  refine codeAny_mono (F _ bK (dicts hns) s₁ H ⟨[.ref a], []⟩ [.ref a] [.ref a] _ _ e0 (hbind s₁ (.ref a)) (.cons rfl .nil) sp) fun r s' h => ?_
  cases r with
  | error e =>
    obtain ⟨_, _, _, _, _, _, _, _, _, _, _, _, no⟩ := h
    exact no.elim
  | ok fl =>
    cases fl with
    | ret u =>
      obtain ⟨v, H', os, bare, un, hok', r', q⟩ := h
      obtain rfl : v = .bl true := q
      obtain rfl : u = Value.bool true := r'
      refine ⟨rfl, OldK.of_keep fun b o e => ?_, os, bare⟩
      rcases hH b with n | ⟨_, _, ob, u, z⟩
      · exact un.keep b o e n (by intro z; cases z) (by simp)
      · obtain ⟨e1, _⟩ := hok b _ z
        obtain ⟨e2, _⟩ := hok' b _ (un.frzs b ob _ z)
        rw [e] at e1
        cases e1
        exact e2
    | next => exact h.elim
    | brk => exact h.elim
    | cont => exact h.elim
theorem walk_C {l : PySem.W.OpenLaw} {n : Nat} {q : Program} {loose : List Str} {XP : (Str → Option Value) → Heap → Prop} {YP : World → Heap → Prop} {d : DefRec} {x : Str} {Y : PySem.W.Frag → Sy} {g : Fn}
    (hn : l.most = some n) (hn2 : n ≤ sizeLine) (hdf : d.params.defaults = [])
    (F : ∀ (w : World) (mg : Str → Option Value) (fa : Addr) (h : Heap), YP w h → h.Ns mainGlobals mg → mg d.name = some (.ref fa) →
      ∃ (K : PySem.W.Frag) (fd : FuncData), K.In h ∧ (∀ (s : Shared) (u : Value), BindsTo s fd ⟨[u], []⟩ [(x, u)]) ∧ ∀ base : Heap, K.In base → base.Ns mainGlobals mg → LawC l.prog w K mg base fd fa x (Y K) g)
    (math : ∀ ns : List Int, ns.length ≤ n → ∃ S, g [.frz (ns.map Val.int)] [] = .ok (.bl true) S) : PySem.W.WalkO q loose XP YP l.row.toRowW d [] (fun f vs => PySem.call f vs) := by
  refine Att.attach_callB hn hdf fun w s0 s1 mg mb fa o pm cd doc a vs ns G Yh ho hd hcd hmg hobj hints hlen hbits hg => ?_
  obtain ⟨K, fd, inK, bd, ok⟩ := F w mg fa _ Yh G.T.g hmg
  obtain ⟨S, em⟩ := math ns hlen
  exact call_C inK G.T.g G.T.b G.T.builtins G.T.nolimit hg hobj hints (Nat.le_trans hlen hn2) ok bd em
/-! ### the head -/
def obsMS (n : Nat) (fa : List He.Fa) (fn : List He.DefD) (ex : List FB) (g : Addr → Option Obj) : AlM := obsM fa fn ex (He.frG g (sysModules :: He.asD g n))
def hookS (n : Nat) (fa : List He.Fa) (fn : List He.DefD) (ex : List FB) : PySem.W.Hook where
  α := AlM
  obs := fun s => obsMS n fa fn ex s.heap.get?
  val := fun _ => valM fn
  says := fun _ h => ∃ K : PySem.W.Frag, K.In h ∧ SaysM fa fn ex K
  of := fun _ _ e => ⟨_, He.frG_in, e⟩
  keeps := fun _ _ _ ⟨K, inH, c⟩ k => ⟨K, PySem.W.Frag.In.keeps inH k, c⟩
theorem obsMS_eq {n : Nat} {fa : List He.Fa} {fn : List He.DefD} {ex : List FB} {g : Addr → Option Obj} {s : Shared} (h : ∀ a, g a = s.heap.get? a) : obsMS n fa fn ex g = (hookS n fa fn ex).obs s := by
  rw [show g = s.heap.get? from funext h] <;> rfl
def sysB : FB := fun K => (K.lookup sysModules).isSome
end Mp

set_option Elab.async false
set_option linter.all false
set_option maxRecDepth 100000
set_option maxHeartbeats 4000000
/-! An own error class without an own __init__, made with nothing; small helps. -/
namespace Mp
open PySem PySem.Spec PySem.Calls PyProof.Rows L2
structure ErBAt (K : PySem.W.Frag) (mg : Str → Option Value) (Y : Sy) (c : Str) : Prop where
  ex : ∃ C, Y.er c = some (.ref C) ∧ mg c = some (.ref C) ∧ PySem.W.excIn K C [.type "ValueError", .type "Exception", .type "BaseException", .type "object"] "ValueError.__new__" = true ∧ PySem.W.keepIn K (.ref C) = true
theorem se_mkB {X : Cx} {Y : Sy} {W : WX} {c : Str} {p pos : Pos} (B : ErBAt X.K X.mg Y c) (hg : Gl X c) (hdb : (c == ("__debug__" : Str)) = false := by decide) : SE X Y W (.Call (.Name c p) [] [] pos) (eMkE0 c) := by
  obtain ⟨C, hc, hm, q, kC⟩ := B.ex
  refine ⟨fun pins s σ H Q I h => ?_⟩
  obtain ⟨ρ, env, S, he, hs, h⟩ := h
  refine wpAny_Call_Name_kw (ld_glob I hg hm ?_ hdb)
  refine PySem.W.callWith_K0 I.kIn kC ?_
  show wpAny _ _ (call (.ref C) []) _ _ _
  obtain ⟨_, _, _, _, _, _, _, _, _, _, _, _, _, _, _, _, _, isC, isN, noI, tl⟩ := L2.exc_obj I.kIn q
  obtain ⟨hp, g, dr, tk, os⟩ := s
  refine wpAny_call_exc_subT F.excBase_ValueError tl isC isN noI (fun h' a made => ?_) (Nat.zero_le _)
  have fr := I.hok.gone made.new
  obtain ⟨t, at_, _, _⟩ := made.there
  exact ⟨.ref a, upd H a (ExO (.ref C) a), I.laidN made.keeps made.new fr (exO_ok at_ ⟨rfl, rfl⟩ rfl rfl rfl (show 4 < 6 by decide)), rfl,
    h (.ref a) (ρ ++ [a]) _ (Pre.snoc ρ a) (Ext.new fr) (hs.new fr ⟨C, none, hc, .inr ⟨rfl, upd_same⟩, .inl ⟨rfl, rfl⟩⟩) (.ref (snoc_last hs.len))⟩
def erbB (c : Str) : FB := fun K => PySem.W.excIn K (He.ga K c) [.type "ValueError", .type "Exception", .type "BaseException", .type "object"] "ValueError.__new__" && PySem.W.keepIn K (.ref (He.ga K c))
theorem erb_of {owns errs : List Str} {c : Str} {K : PySem.W.Frag} {mg : Str → Option Value} (hc : errs.contains c = true) (hm : mg c = some (.ref (He.ga K c))) (h : erbB c K = true) : ErBAt K mg (YYg owns errs K) c := by
  obtain ⟨h1, h2⟩ := both h
  exact ⟨_, yy_er_of hc, hm, h1, h2⟩
theorem xfs_nil {K : PySem.W.Frag} {Y : Sy} {n : Str} : ∀ c ∈ ([] : List Str), XfAt K Y c n := fun _ h => by cases h
theorem xfs_cons {K : PySem.W.Frag} {Y : Sy} {n c : Str} {cs : List Str} (h : XfAt K Y c n) (r : ∀ c ∈ cs, XfAt K Y c n) : ∀ q ∈ c :: cs, XfAt K Y q n := fun q hq => by
  rcases List.mem_cons.mp hq with rfl | hq
  · exact h
  · exact r q hq
end Mp

set_option Elab.async false
set_option linter.all false
set_option maxRecDepth 100000
set_option maxHeartbeats 4000000
/-! leastroads_k00_errors_keep_what_is_passe: the meaning of each def, and that the code has it. Printed by gen.py. -/
namespace K00
open PySem PySem.Spec PyProof.Rows L2 Mp
noncomputable section
abbrev PW : Program := PySem.Challenge.pw_leastroads_k00_errors_keep_what_is_passe
def top (i : Nat) : Stmt := PW.main.body.getD i (.Pass ⟨0, 0, 0, 0⟩)
abbrev s_BadWeb_init : Stmt := (clsBody (top 2)).getD 0 (.Pass ⟨0, 0, 0, 0⟩)
abbrev s_NoHouse_init : Stmt := (clsBody (top 3)).getD 0 (.Pass ⟨0, 0, 0, 0⟩)
abbrev s_NoTie_init : Stmt := (clsBody (top 4)).getD 0 (.Pass ⟨0, 0, 0, 0⟩)
abbrev s_NoTree_init : Stmt := (clsBody (top 5)).getD 0 (.Pass ⟨0, 0, 0, 0⟩)
abbrev s_NotAsleep_init : Stmt := (clsBody (top 6)).getD 0 (.Pass ⟨0, 0, 0, 0⟩)
abbrev s_NoWord_init : Stmt := (clsBody (top 7)).getD 0 (.Pass ⟨0, 0, 0, 0⟩)
abbrev s_NoGlass_init : Stmt := (clsBody (top 8)).getD 0 (.Pass ⟨0, 0, 0, 0⟩)
abbrev s_NoMove_init : Stmt := (clsBody (top 9)).getD 0 (.Pass ⟨0, 0, 0, 0⟩)
abbrev s_NoChoices_init : Stmt := (clsBody (top 10)).getD 0 (.Pass ⟨0, 0, 0, 0⟩)
abbrev s_NoValues_init : Stmt := (clsBody (top 11)).getD 0 (.Pass ⟨0, 0, 0, 0⟩)
abbrev s_Wanted_init : Stmt := (clsBody (top 12)).getD 0 (.Pass ⟨0, 0, 0, 0⟩)
abbrev s_NoWay_init : Stmt := (clsBody (top 13)).getD 0 (.Pass ⟨0, 0, 0, 0⟩)
abbrev s_BadRecord_init : Stmt := (clsBody (top 14)).getD 0 (.Pass ⟨0, 0, 0, 0⟩)
abbrev s_NoMoment_init : Stmt := (clsBody (top 15)).getD 0 (.Pass ⟨0, 0, 0, 0⟩)
abbrev s_NoNumber_init : Stmt := (clsBody (top 16)).getD 0 (.Pass ⟨0, 0, 0, 0⟩)
abbrev s_NoState_init : Stmt := (clsBody (top 17)).getD 0 (.Pass ⟨0, 0, 0, 0⟩)
abbrev s_NoParcel_init : Stmt := (clsBody (top 18)).getD 0 (.Pass ⟨0, 0, 0, 0⟩)
abbrev s_NoRow_init : Stmt := (clsBody (top 19)).getD 0 (.Pass ⟨0, 0, 0, 0⟩)
abbrev s_BadRow_init : Stmt := (clsBody (top 20)).getD 0 (.Pass ⟨0, 0, 0, 0⟩)
abbrev s_NoCut_init : Stmt := (clsBody (top 21)).getD 0 (.Pass ⟨0, 0, 0, 0⟩)
abbrev s_NoBlocks_init : Stmt := (clsBody (top 22)).getD 0 (.Pass ⟨0, 0, 0, 0⟩)
abbrev s_NoDeed_init : Stmt := (clsBody (top 23)).getD 0 (.Pass ⟨0, 0, 0, 0⟩)
abbrev s_NoPast_init : Stmt := (clsBody (top 24)).getD 0 (.Pass ⟨0, 0, 0, 0⟩)
abbrev s_NoDisk_init : Stmt := (clsBody (top 25)).getD 0 (.Pass ⟨0, 0, 0, 0⟩)
abbrev s_OtherHouse_init : Stmt := (clsBody (top 26)).getD 0 (.Pass ⟨0, 0, 0, 0⟩)
abbrev s_BadDeeds_init : Stmt := (clsBody (top 27)).getD 0 (.Pass ⟨0, 0, 0, 0⟩)
abbrev s_BadText_init : Stmt := (clsBody (top 28)).getD 0 (.Pass ⟨0, 0, 0, 0⟩)
abbrev s_BadMoves_init : Stmt := (clsBody (top 29)).getD 0 (.Pass ⟨0, 0, 0, 0⟩)
abbrev s_NoLine_init : Stmt := (clsBody (top 30)).getD 0 (.Pass ⟨0, 0, 0, 0⟩)
abbrev s_NoName_init : Stmt := (clsBody (top 31)).getD 0 (.Pass ⟨0, 0, 0, 0⟩)
abbrev s_law_hand : Stmt := top 33
abbrev s_law_take : Stmt := top 34
abbrev s_law_odd : Stmt := top 35
abbrev s_law_thing : Stmt := top 36
abbrev s_law_all : Stmt := top 37
abbrev s_law_marks : Stmt := top 38
abbrev s_law_alien : Stmt := top 39
abbrev s_law_fields : Stmt := top 40
abbrev s_law_raise : Stmt := top 41
abbrev s_law_caught : Stmt := top 42
abbrev s_law_based : Stmt := top 43
abbrev s_law : Stmt := top 44
def errs : List Str := ["RoadError", "BadWeb", "NoHouse", "NoTie", "NoTree", "NotAsleep", "NoWord", "NoGlass", "NoMove", "NoChoices", "NoValues", "Wanted", "NoWay", "BadRecord", "NoMoment", "NoNumber", "NoState", "NoParcel", "NoRow", "BadRow", "NoCut", "NoBlocks", "NoDeed", "NoPast", "NoDisk", "OtherHouse", "BadDeeds", "BadText", "BadMoves", "NoLine", "NoName"]
def owns : List Str := []
abbrev YY (K : PySem.W.Frag) : Sy := YYg owns errs K
structure Txt (K : PySem.W.Frag) (mg : Str → Option Value) : Prop where
  b_ArithmeticError : mg "ArithmeticError" = none
  b_IndexError : mg "IndexError" = none
  b_KeyError : mg "KeyError" = none
  b_ValueError : mg "ValueError" = none
  b_int : mg "int" = none
  b_isinstance : mg "isinstance" = none
  b_len : mg "len" = none
  b_list : mg "list" = none
  b_range : mg "range" = none
  b_repr : mg "repr" = none
  kls : Kls K (YY K)
  sys : (K.lookup sysModules).isSome = true
  erb_RoadError : ErBAt K mg (YY K) "RoadError"
  hd_BadDeeds : HdAt K mg (YY K) "BadDeeds" (fun q => q == "BadDeeds")
  hd_BadMoves : HdAt K mg (YY K) "BadMoves" (fun q => q == "BadMoves")
  hd_BadRecord : HdAt K mg (YY K) "BadRecord" (fun q => q == "BadRecord")
  hd_BadRow : HdAt K mg (YY K) "BadRow" (fun q => q == "BadRow")
  hd_BadText : HdAt K mg (YY K) "BadText" (fun q => q == "BadText")
  hd_BadWeb : HdAt K mg (YY K) "BadWeb" (fun q => q == "BadWeb")
  hd_NoChoices : HdAt K mg (YY K) "NoChoices" (fun q => q == "NoChoices")
  hd_NoName : HdAt K mg (YY K) "NoName" (fun q => q == "NoName")
  hd_RoadError : HdAt K mg (YY K) "RoadError" (fun q => (["RoadError", "BadWeb", "NoHouse", "NoTie", "NoTree", "NotAsleep", "NoWord", "NoGlass", "NoMove", "NoChoices", "NoValues", "Wanted", "NoWay", "BadRecord", "NoMoment", "NoNumber", "NoState", "NoParcel", "NoRow", "BadRow", "NoCut", "NoBlocks", "NoDeed", "NoPast", "NoDisk", "OtherHouse", "BadDeeds", "BadText", "BadMoves", "NoLine", "NoName"] : List Str).contains q)
  xf_BadDeeds_index : XfAt K (YY K) "BadDeeds" "index"
  xf_BadMoves_index : XfAt K (YY K) "BadMoves" "index"
  xf_BadRecord_index : XfAt K (YY K) "BadRecord" "index"
  xf_BadRow_place : XfAt K (YY K) "BadRow" "place"
  xf_BadText_line : XfAt K (YY K) "BadText" "line"
  xf_BadWeb_part : XfAt K (YY K) "BadWeb" "part"
  xf_NoChoices_index : XfAt K (YY K) "NoChoices" "index"
  xf_NoName_name : XfAt K (YY K) "NoName" "name"
  ise_BadDeeds : IsEAt K mg (YY K) "BadDeeds" (fun q : Str => q == "BadDeeds")
  ise_BadMoves : IsEAt K mg (YY K) "BadMoves" (fun q : Str => q == "BadMoves")
  ise_BadRecord : IsEAt K mg (YY K) "BadRecord" (fun q : Str => q == "BadRecord")
  ise_BadRow : IsEAt K mg (YY K) "BadRow" (fun q : Str => q == "BadRow")
  ise_BadText : IsEAt K mg (YY K) "BadText" (fun q : Str => q == "BadText")
  ise_BadWeb : IsEAt K mg (YY K) "BadWeb" (fun q : Str => q == "BadWeb")
  ise_NoBlocks : IsEAt K mg (YY K) "NoBlocks" (fun q : Str => q == "NoBlocks")
  ise_NoChoices : IsEAt K mg (YY K) "NoChoices" (fun q : Str => q == "NoChoices")
  ise_NoCut : IsEAt K mg (YY K) "NoCut" (fun q : Str => q == "NoCut")
  ise_NoDeed : IsEAt K mg (YY K) "NoDeed" (fun q : Str => q == "NoDeed")
  ise_NoDisk : IsEAt K mg (YY K) "NoDisk" (fun q : Str => q == "NoDisk")
  ise_NoGlass : IsEAt K mg (YY K) "NoGlass" (fun q : Str => q == "NoGlass")
  ise_NoHouse : IsEAt K mg (YY K) "NoHouse" (fun q : Str => q == "NoHouse")
  ise_NoLine : IsEAt K mg (YY K) "NoLine" (fun q : Str => q == "NoLine")
  ise_NoMoment : IsEAt K mg (YY K) "NoMoment" (fun q : Str => q == "NoMoment")
  ise_NoMove : IsEAt K mg (YY K) "NoMove" (fun q : Str => q == "NoMove")
  ise_NoName : IsEAt K mg (YY K) "NoName" (fun q : Str => q == "NoName")
  ise_NoNumber : IsEAt K mg (YY K) "NoNumber" (fun q : Str => q == "NoNumber")
  ise_NoParcel : IsEAt K mg (YY K) "NoParcel" (fun q : Str => q == "NoParcel")
  ise_NoPast : IsEAt K mg (YY K) "NoPast" (fun q : Str => q == "NoPast")
  ise_NoRow : IsEAt K mg (YY K) "NoRow" (fun q : Str => q == "NoRow")
  ise_NoState : IsEAt K mg (YY K) "NoState" (fun q : Str => q == "NoState")
  ise_NoTie : IsEAt K mg (YY K) "NoTie" (fun q : Str => q == "NoTie")
  ise_NoTree : IsEAt K mg (YY K) "NoTree" (fun q : Str => q == "NoTree")
  ise_NoValues : IsEAt K mg (YY K) "NoValues" (fun q : Str => q == "NoValues")
  ise_NoWay : IsEAt K mg (YY K) "NoWay" (fun q : Str => q == "NoWay")
  ise_NoWord : IsEAt K mg (YY K) "NoWord" (fun q : Str => q == "NoWord")
  ise_NotAsleep : IsEAt K mg (YY K) "NotAsleep" (fun q : Str => q == "NotAsleep")
  ise_OtherHouse : IsEAt K mg (YY K) "OtherHouse" (fun q : Str => q == "OtherHouse")
  ise_RoadError : IsEAt K mg (YY K) "RoadError" (fun q => (["RoadError", "BadWeb", "NoHouse", "NoTie", "NoTree", "NotAsleep", "NoWord", "NoGlass", "NoMove", "NoChoices", "NoValues", "Wanted", "NoWay", "BadRecord", "NoMoment", "NoNumber", "NoState", "NoParcel", "NoRow", "BadRow", "NoCut", "NoBlocks", "NoDeed", "NoPast", "NoDisk", "OtherHouse", "BadDeeds", "BadText", "BadMoves", "NoLine", "NoName"] : List Str).contains q)
  ise_Wanted : IsEAt K mg (YY K) "Wanted" (fun q : Str => q == "Wanted")
  iset_ArithmeticError : IsETy K (YY K) "ArithmeticError" (fun _ => false)
  iset_IndexError : IsETy K (YY K) "IndexError" (fun _ => false)
  iset_KeyError : IsETy K (YY K) "KeyError" (fun _ => false)
  iset_ValueError : IsETy K (YY K) "ValueError" (fun _ => true)
section
variable {P : Program} {w : World} {K : PySem.W.Frag} {mg : Str → Option Value} {base : Heap}

/-! ### _law_hand -/
def g_law_hand_s : En → Store → Res := (sRet (eLst (aCons (eCall fList (aCons (eV 0) aNil)) (aCons (eC (.int 0)) (aCons (eC (.int 0)) (aCons (eC (.int 1)) (aCons (eC (.int 0)) aNil)))))))
def g_law_hand : Fn := fnB 1 1 g_law_hand_s
theorem sc_law_hand : FnScope ["_law_script"] ["_law_script"] (defScope s_law_hand) := ⟨rfl, rfl, rfl, by decide +kernel, rfl, by decide +kernel, by decide +kernel⟩
theorem ok_law_hand {f : Addr} {fd : FuncData} (T : Txt K mg) (F : FunS K "_law_hand" "_law_hand" s_law_hand f fd) (hm : mg "_law_hand" = some (.ref f)) : FnAt P w K mg base (YY K) 1 1 "_law_hand" g_law_hand :=
  FnAt.of (k := 0) (g := g_law_hand_s) F hm sc_law_hand (fun _ _ _ _ _ _ us hl => match us, hl with | [_], _ => rfl) rfl fun cdv A outer s H E c =>
    (ss_one (ss_ret (se_lst (sa_cons (se_list rfl T.b_list (sa_cons (se_v 0) sa_nil)) (sa_cons se_int (sa_cons se_int (sa_cons se_int (sa_cons se_int sa_nil))))))))

/-! ### _law_take -/
def g_law_take_s : En → Store → Res := (sSeq (sPutIx (eB2 vAdd (eB2 vIx (eV 0) (eC (.int 4))) (eC (.int 1))) (eV 0) (eC (.int 4))) (sSeq (sIf (bAnd (bV (eB2 vEq (eB2 vIx (eV 0) (eC (.int 2))) (eC (.int 0)))) (bV (eB2 vLt (eB2 vIx (eV 0) (eC (.int 1))) (eCall fLen (aCons (eB2 vIx (eV 0) (eC (.int 0))) aNil))))) (sSeq (sSet 2 (eCall fInt (aCons (eB2 vIx (eB2 vIx (eV 0) (eC (.int 0))) (eB2 vIx (eV 0) (eC (.int 1)))) aNil))) (sSeq (sPutIx (eB2 vAdd (eB2 vIx (eV 0) (eC (.int 1))) (eC (.int 1))) (eV 0) (eC (.int 1))) (sIf (bV (eB2 vGe (eV 2) (eB2 vPow (eC (.int 10)) (eC (.int 18))))) (sPutIx (eV 2) (eV 0) (eC (.int 2))) (sPutIx (eB2 vMod (eCall fInt (aCons (eB2 vAdd (eB2 vAdd (eB2 vMul (eB2 vIx (eV 0) (eC (.int 3))) (eC (.int 48271))) (eB2 vMod (eCall fInt (aCons (eV 2) aNil)) (eC (.int 2147483647)))) (eC (.int 1))) aNil)) (eC (.int 2147483647))) (eV 0) (eC (.int 3)))))) sNil) (sSeq (sIf (bV (eB2 vGt (eB2 vIx (eV 0) (eC (.int 2))) (eC (.int 0)))) (sSeq (sSet 3 (eB2 vMod (eCall fInt (aCons (eB2 vIx (eV 0) (eC (.int 2))) aNil)) (eV 1))) (sSeq (sPutIx (eB2 vFdiv (eCall fInt (aCons (eB2 vIx (eV 0) (eC (.int 2))) aNil)) (eV 1)) (eV 0) (eC (.int 2))) (sRet (eV 3)))) sNil) (sSeq (sPutIx (eB2 vMod (eCall fInt (aCons (eB2 vAdd (eB2 vMul (eB2 vIx (eV 0) (eC (.int 3))) (eC (.int 69621))) (eB2 vMul (eC (.int 7919)) (eB2 vIx (eV 0) (eC (.int 4))))) aNil)) (eC (.int 2147483647))) (eV 0) (eC (.int 3))) (sSeq (sSet 4 (eB2 vMod (eCall fInt (aCons (eB2 vMul (eB2 vIx (eV 0) (eC (.int 3))) (eB2 vAdd (eB2 vFdiv (eB2 vIx (eV 0) (eC (.int 3))) (eC (.int 1009))) (eC (.int 69621)))) aNil)) (eC (.int 2147483647)))) (sSeq (sSet 4 (eB2 vMod (eCall fInt (aCons (eB2 vMul (eV 4) (eB2 vAdd (eB2 vFdiv (eV 4) (eC (.int 2003))) (eC (.int 40692)))) aNil)) (eC (.int 2147483399)))) (sRet (eB2 vMod (eCall fInt (aCons (eB2 vFdiv (eV 4) (eC (.int 16))) aNil)) (eV 1)))))))))
def g_law_take : Fn := fnB 5 2 g_law_take_s
theorem sc_law_take : FnScope ["_law_hand_here", "_law_many", "_law_cell", "_law_found", "_law_number"] ["_law_hand_here", "_law_many"] (defScope s_law_take) := ⟨rfl, rfl, rfl, by decide +kernel, rfl, by decide +kernel, by decide +kernel⟩
theorem ok_law_take {f : Addr} {fd : FuncData} (T : Txt K mg) (F : FunS K "_law_take" "_law_take" s_law_take f fd) (hm : mg "_law_take" = some (.ref f)) : FnAt P w K mg base (YY K) 1 2 "_law_take" g_law_take :=
  FnAt.of (k := 0) (g := g_law_take_s) F hm sc_law_take (fun _ _ _ _ _ _ us hl => match us, hl with | [_, _], _ => rfl) rfl fun cdv A outer s H E c =>
    (ss_cons (ss_putIx c.u1 (se_add (se_ix c.u1 (se_v 0) se_int) se_int) (se_v 0) se_int)
    (ss_cons (ss_if (SW.st (sw_and (st_eq c.u64 (se_ix c.u1 (se_v 0) se_int) se_int) (sw_and1 (st_lt c.u0 (se_ix c.u1 (se_v 0) se_int) (se_len rfl T.b_len (sa_cons (se_ix c.u1 (se_v 0) se_int) sa_nil)))))) (ss_cons (ss_set (i := 2) c.xi c.nd rfl (by first | exact Or.inl rfl | exact Or.inr rfl) (se_int1 rfl T.b_int (sa_cons (se_ix c.u1 (se_ix c.u1 (se_v 0) se_int) (se_ix c.u1 (se_v 0) se_int)) sa_nil)))
    (ss_cons (ss_putIx c.u1 (se_add (se_ix c.u1 (se_v 0) se_int) se_int) (se_v 0) se_int)
    (ss_one (ss_if (st_ge (se_v 2) (se_pow se_int se_int)) (ss_one (ss_putIx c.u1 (se_v 2) (se_v 0) se_int)) (ss_one (ss_putIx c.u1 (se_mod (se_int1 rfl T.b_int (sa_cons (se_add (se_add (se_mul (se_ix c.u1 (se_v 0) se_int) se_int) (se_mod (se_int1 rfl T.b_int (sa_cons (se_v 2) sa_nil)) se_int)) se_int) sa_nil)) se_int) (se_v 0) se_int)))))) ss_nil)
    (ss_cons (ss_if (st_gt c.u0 (se_ix c.u1 (se_v 0) se_int) se_int) (ss_cons (ss_set (i := 3) c.xi c.nd rfl (by first | exact Or.inl rfl | exact Or.inr rfl) (se_mod (se_int1 rfl T.b_int (sa_cons (se_ix c.u1 (se_v 0) se_int) sa_nil)) (se_v 1)))
    (ss_cons (ss_putIx c.u1 (se_fdiv (se_int1 rfl T.b_int (sa_cons (se_ix c.u1 (se_v 0) se_int) sa_nil)) (se_v 1)) (se_v 0) se_int)
    (ss_one (ss_ret (se_v 3))))) ss_nil)
    (ss_cons (ss_putIx c.u1 (se_mod (se_int1 rfl T.b_int (sa_cons (se_add (se_mul (se_ix c.u1 (se_v 0) se_int) se_int) (se_mul se_int (se_ix c.u1 (se_v 0) se_int))) sa_nil)) se_int) (se_v 0) se_int)
    (ss_cons (ss_set (i := 4) c.xi c.nd rfl (by first | exact Or.inl rfl | exact Or.inr rfl) (se_mod (se_int1 rfl T.b_int (sa_cons (se_mul (se_ix c.u1 (se_v 0) se_int) (se_add (se_fdiv (se_ix c.u1 (se_v 0) se_int) se_int) se_int)) sa_nil)) se_int))
    (ss_cons (ss_set (i := 4) c.xi c.nd rfl (by first | exact Or.inl rfl | exact Or.inr rfl) (se_mod (se_int1 rfl T.b_int (sa_cons (se_mul (se_v 4) (se_add (se_fdiv (se_v 4) se_int) se_int)) sa_nil)) se_int))
    (ss_one (ss_ret (se_mod (se_int1 rfl T.b_int (sa_cons (se_fdiv (se_v 4) se_int) sa_nil)) (se_v 1))))))))))

/-! ### _law_odd -/
def g_law_odd_s : En → Store → Res := (sSeq (sSet 1 (eCall g_law_take (aCons (eV 0) (aCons (eC (.int 18)) aNil)))) (sSeq (sIf (bV (eB2 vLt (eV 1) (eC (.int 6)))) (sRet (eB2 vIx (eLst (aCons (eC .non) (aCons (eC (.bl true)) (aCons (eC (.bl false)) (aCons (eC (.str "")) (aCons (eC (.str "join")) (aCons (eC (.str "0")) aNil))))))) (eV 1))) sNil) (sSeq (sIf (bV (eB2 vLt (eV 1) (eC (.int 12)))) (sRet (eB2 vIx (eLst (aCons (eTup aNil) (aCons (eLst aNil) (aCons eDk (aCons (eTup (aCons (eC (.int 0)) aNil)) (aCons (eLst (aCons (eC (.int 0)) (aCons (eC (.int 0)) aNil))) (aCons (eTup (aCons (eTup aNil) aNil)) aNil))))))) (eB2 vSub (eV 1) (eC (.int 6))))) sNil) (sRet (eB2 vIx (eLst (aCons (eNeg (eC (.int 1))) (aCons (eC (.int 11)) (aCons (eB2 vSub (eB2 vPow (eC (.int 10)) (eC (.int 20))) (eC (.int 1))) (aCons (eTup (aCons (eC (.int 0)) (aCons (eC (.int 1)) aNil))) (aCons (eTup (aCons (eC (.str "yes")) aNil)) (aCons (eTup (aCons (eC (.int 0)) (aCons (eC (.int 1)) (aCons (eC (.int 5)) aNil)))) aNil))))))) (eB2 vSub (eV 1) (eC (.int 12))))))))
def g_law_odd : Fn := fnB 2 1 g_law_odd_s
theorem sc_law_odd : FnScope ["_law_hand_here", "_law_turn"] ["_law_hand_here"] (defScope s_law_odd) := ⟨rfl, rfl, rfl, by decide +kernel, rfl, by decide +kernel, by decide +kernel⟩
theorem ok_law_odd {f : Addr} {fd : FuncData} (T : Txt K mg) (F : FunS K "_law_odd" "_law_odd" s_law_odd f fd) (hm : mg "_law_odd" = some (.ref f)) (h_law_take : FnAt P w K mg base (YY K) 1 2 "_law_take" g_law_take) : FnAt P w K mg base (YY K) 2 1 "_law_odd" g_law_odd :=
  FnAt.of (k := 1) (g := g_law_odd_s) F hm sc_law_odd (fun _ _ _ _ _ _ us hl => match us, hl with | [_], _ => rfl) rfl fun cdv A outer s H E c =>
    (ss_cons (ss_set (i := 1) c.xi c.nd rfl (by first | exact Or.inl rfl | exact Or.inr rfl) (sx_call c h_law_take (by omega) rfl (sa_cons (se_v 0) (sa_cons se_int sa_nil))))
    (ss_cons (ss_if (st_lt c.u0 (se_v 1) se_int) (ss_one (ss_ret (se_ix c.u1 (se_lst (sa_cons se_non (sa_cons se_bl (sa_cons se_bl (sa_cons se_str (sa_cons se_str (sa_cons se_str sa_nil))))))) (se_v 1)))) ss_nil)
    (ss_cons (ss_if (st_lt c.u0 (se_v 1) se_int) (ss_one (ss_ret (se_ix c.u1 (se_lst (sa_cons (se_tup sa_nil) (sa_cons (se_lst sa_nil) (sa_cons se_dk (sa_cons (se_tup (sa_cons se_int sa_nil)) (sa_cons (se_lst (sa_cons se_int (sa_cons se_int sa_nil))) (sa_cons (se_tup (sa_cons (se_tup sa_nil) sa_nil)) sa_nil))))))) (se_sub (se_v 1) se_int)))) ss_nil)
    (ss_one (ss_ret (se_ix c.u1 (se_lst (sa_cons (se_neg se_int) (sa_cons se_int (sa_cons (se_sub (se_pow se_int se_int) se_int) (sa_cons (se_tup (sa_cons se_int (sa_cons se_int sa_nil))) (sa_cons (se_tup (sa_cons se_str sa_nil)) (sa_cons (se_tup (sa_cons se_int (sa_cons se_int (sa_cons se_int sa_nil)))) sa_nil))))))) (se_sub (se_v 1) se_int)))))))

/-! ### _law_thing -/
def g_law_thing_b1 : En → Store → Res := (sIf (bV (eB2 vEq (eCall g_law_take (aCons (eV 0) (aCons (eC (.int 2)) aNil))) (eC (.int 0)))) (sSet 1 (eTup (aCons (eV 1) (aCons (eV 2) aNil)))) (sSet 1 (eLst (aCons (eV 2) (aCons (eV 1) aNil)))))
def g_law_thing_s : En → Store → Res := (sSeq (sSet 1 (eCall g_law_odd (aCons (eV 0) aNil))) (sSeq (sFor (iR1 (aCons (eCall g_law_take (aCons (eV 0) (aCons (eC (.int 38)) aNil))) aNil)) (gN 2) g_law_thing_b1) (sRet (eV 1))))
def g_law_thing : Fn := fnB 3 1 g_law_thing_s
theorem sc_law_thing : FnScope ["_law_hand_here", "_law_thing_here", "_law_k"] ["_law_hand_here"] (defScope s_law_thing) := ⟨rfl, rfl, rfl, by decide +kernel, rfl, by decide +kernel, by decide +kernel⟩
theorem ok_law_thing {f : Addr} {fd : FuncData} (T : Txt K mg) (F : FunS K "_law_thing" "_law_thing" s_law_thing f fd) (hm : mg "_law_thing" = some (.ref f)) (h_law_odd : FnAt P w K mg base (YY K) 2 1 "_law_odd" g_law_odd) (h_law_take : FnAt P w K mg base (YY K) 1 2 "_law_take" g_law_take) : FnAt P w K mg base (YY K) 3 1 "_law_thing" g_law_thing :=
  FnAt.of (k := 2) (g := g_law_thing_s) F hm sc_law_thing (fun _ _ _ _ _ _ us hl => match us, hl with | [_], _ => rfl) rfl fun cdv A outer s H E c =>
    (ss_cons (ss_set (i := 1) c.xi c.nd rfl (by first | exact Or.inl rfl | exact Or.inr rfl) (sx_call c h_law_odd (by omega) rfl (sa_cons (se_v 0) sa_nil)))
    (ss_cons (ss_for c.hp c.calm (si_r1 rfl T.b_range (sa_cons (sx_call c h_law_take (by omega) rfl (sa_cons (se_v 0) (sa_cons se_int sa_nil))) sa_nil)) (sg_name (i := 2) c.xi c.nd rfl (by first | exact Or.inl rfl | exact Or.inr rfl)) (ss_one (ss_if (st_eq c.u64 (sx_call c h_law_take (by omega) rfl (sa_cons (se_v 0) (sa_cons se_int sa_nil))) se_int) (ss_one (ss_set (i := 1) c.xi c.nd rfl (by first | exact Or.inl rfl | exact Or.inr rfl) (se_tup (sa_cons (se_v 1) (sa_cons (se_v 2) sa_nil))))) (ss_one (ss_set (i := 1) c.xi c.nd rfl (by first | exact Or.inl rfl | exact Or.inr rfl) (se_lst (sa_cons (se_v 2) (sa_cons (se_v 1) sa_nil))))))))
    (ss_one (ss_ret (se_v 1)))))

/-! ### _law_all -/
def g_law_all_s : En → Store → Res := (sSeq (sSet 1 (eLst (aCons (eMkE1 "BadWeb" "part" (eV 0)) (aCons (eMkE0 "NoHouse") (aCons (eMkE0 "NoTie") (aCons (eMkE0 "NoTree") (aCons (eMkE0 "NotAsleep") (aCons (eMkE0 "NoWord") (aCons (eMkE0 "NoGlass") (aCons (eMkE0 "NoMove") (aCons (eMkE1 "NoChoices" "index" (eV 0)) aNil))))))))))) (sSeq (sSet 2 (eLst (aCons (eMkE0 "NoValues") (aCons (eMkE0 "Wanted") (aCons (eMkE0 "NoWay") (aCons (eMkE1 "BadRecord" "index" (eV 0)) (aCons (eMkE0 "NoMoment") (aCons (eMkE0 "NoNumber") (aCons (eMkE0 "NoState") (aCons (eMkE0 "NoParcel") (aCons (eMkE0 "NoRow") aNil))))))))))) (sSeq (sSet 3 (eLst (aCons (eMkE1 "BadRow" "place" (eV 0)) (aCons (eMkE0 "NoCut") (aCons (eMkE0 "NoBlocks") (aCons (eMkE0 "NoDeed") (aCons (eMkE0 "NoPast") (aCons (eMkE0 "NoDisk") (aCons (eMkE0 "OtherHouse") (aCons (eMkE1 "BadDeeds" "index" (eV 0)) aNil)))))))))) (sRet (eB2 vAdd (eB2 vAdd (eB2 vAdd (eV 1) (eV 2)) (eV 3)) (eLst (aCons (eMkE1 "BadText" "line" (eV 0)) (aCons (eMkE1 "BadMoves" "index" (eV 0)) (aCons (eMkE0 "NoLine") (aCons (eMkE1 "NoName" "name" (eV 0)) aNil))))))))))
def g_law_all : Fn := fnB 4 1 g_law_all_s
theorem sc_law_all : FnScope ["_law_thing_here", "_law_first", "_law_second", "_law_third"] ["_law_thing_here"] (defScope s_law_all) := ⟨rfl, rfl, rfl, by decide +kernel, rfl, by decide +kernel, by decide +kernel⟩
theorem ok_law_all {f : Addr} {fd : FuncData} (T : Txt K mg) (F : FunS K "_law_all" "_law_all" s_law_all f fd) (hm : mg "_law_all" = some (.ref f)) (h_BadWeb : Er1At P w K mg base (YY K) "BadWeb" "part") (h_NoHouse : Er0At P w K mg base (YY K) "NoHouse") (h_NoTie : Er0At P w K mg base (YY K) "NoTie") (h_NoTree : Er0At P w K mg base (YY K) "NoTree") (h_NotAsleep : Er0At P w K mg base (YY K) "NotAsleep") (h_NoWord : Er0At P w K mg base (YY K) "NoWord") (h_NoGlass : Er0At P w K mg base (YY K) "NoGlass") (h_NoMove : Er0At P w K mg base (YY K) "NoMove") (h_NoChoices : Er1At P w K mg base (YY K) "NoChoices" "index") (h_NoValues : Er0At P w K mg base (YY K) "NoValues") (h_Wanted : Er0At P w K mg base (YY K) "Wanted") (h_NoWay : Er0At P w K mg base (YY K) "NoWay") (h_BadRecord : Er1At P w K mg base (YY K) "BadRecord" "index") (h_NoMoment : Er0At P w K mg base (YY K) "NoMoment") (h_NoNumber : Er0At P w K mg base (YY K) "NoNumber") (h_NoState : Er0At P w K mg base (YY K) "NoState") (h_NoParcel : Er0At P w K mg base (YY K) "NoParcel") (h_NoRow : Er0At P w K mg base (YY K) "NoRow") (h_BadRow : Er1At P w K mg base (YY K) "BadRow" "place") (h_NoCut : Er0At P w K mg base (YY K) "NoCut") (h_NoBlocks : Er0At P w K mg base (YY K) "NoBlocks") (h_NoDeed : Er0At P w K mg base (YY K) "NoDeed") (h_NoPast : Er0At P w K mg base (YY K) "NoPast") (h_NoDisk : Er0At P w K mg base (YY K) "NoDisk") (h_OtherHouse : Er0At P w K mg base (YY K) "OtherHouse") (h_BadDeeds : Er1At P w K mg base (YY K) "BadDeeds" "index") (h_BadText : Er1At P w K mg base (YY K) "BadText" "line") (h_BadMoves : Er1At P w K mg base (YY K) "BadMoves" "index") (h_NoLine : Er0At P w K mg base (YY K) "NoLine") (h_NoName : Er1At P w K mg base (YY K) "NoName" "name") : FnAt P w K mg base (YY K) 3 1 "_law_all" g_law_all :=
  FnAt.of (k := 2) (g := g_law_all_s) F hm sc_law_all (fun _ _ _ _ _ _ us hl => match us, hl with | [_], _ => rfl) rfl fun cdv A outer s H E c =>
    (ss_cons (ss_set (i := 1) c.xi c.nd rfl (by first | exact Or.inl rfl | exact Or.inr rfl) (se_lst (sa_cons (se_mkE1 c h_BadWeb (by omega) rfl (se_v 0)) (sa_cons (se_mkE0 c h_NoHouse (by omega) rfl) (sa_cons (se_mkE0 c h_NoTie (by omega) rfl) (sa_cons (se_mkE0 c h_NoTree (by omega) rfl) (sa_cons (se_mkE0 c h_NotAsleep (by omega) rfl) (sa_cons (se_mkE0 c h_NoWord (by omega) rfl) (sa_cons (se_mkE0 c h_NoGlass (by omega) rfl) (sa_cons (se_mkE0 c h_NoMove (by omega) rfl) (sa_cons (se_mkE1 c h_NoChoices (by omega) rfl (se_v 0)) sa_nil)))))))))))
    (ss_cons (ss_set (i := 2) c.xi c.nd rfl (by first | exact Or.inl rfl | exact Or.inr rfl) (se_lst (sa_cons (se_mkE0 c h_NoValues (by omega) rfl) (sa_cons (se_mkE0 c h_Wanted (by omega) rfl) (sa_cons (se_mkE0 c h_NoWay (by omega) rfl) (sa_cons (se_mkE1 c h_BadRecord (by omega) rfl (se_v 0)) (sa_cons (se_mkE0 c h_NoMoment (by omega) rfl) (sa_cons (se_mkE0 c h_NoNumber (by omega) rfl) (sa_cons (se_mkE0 c h_NoState (by omega) rfl) (sa_cons (se_mkE0 c h_NoParcel (by omega) rfl) (sa_cons (se_mkE0 c h_NoRow (by omega) rfl) sa_nil)))))))))))
    (ss_cons (ss_set (i := 3) c.xi c.nd rfl (by first | exact Or.inl rfl | exact Or.inr rfl) (se_lst (sa_cons (se_mkE1 c h_BadRow (by omega) rfl (se_v 0)) (sa_cons (se_mkE0 c h_NoCut (by omega) rfl) (sa_cons (se_mkE0 c h_NoBlocks (by omega) rfl) (sa_cons (se_mkE0 c h_NoDeed (by omega) rfl) (sa_cons (se_mkE0 c h_NoPast (by omega) rfl) (sa_cons (se_mkE0 c h_NoDisk (by omega) rfl) (sa_cons (se_mkE0 c h_OtherHouse (by omega) rfl) (sa_cons (se_mkE1 c h_BadDeeds (by omega) rfl (se_v 0)) sa_nil))))))))))
    (ss_one (ss_ret (se_add (se_add (se_add (se_v 1) (se_v 2)) (se_v 3)) (se_lst (sa_cons (se_mkE1 c h_BadText (by omega) rfl (se_v 0)) (sa_cons (se_mkE1 c h_BadMoves (by omega) rfl (se_v 0)) (sa_cons (se_mkE0 c h_NoLine (by omega) rfl) (sa_cons (se_mkE1 c h_NoName (by omega) rfl (se_v 0)) sa_nil)))))))))))

/-! ### _law_marks -/
def g_law_marks_s : En → Store → Res := (sSeq (sSet 1 (eLst (aCons (eIsE (fun q : Str => q == "BadWeb") (eV 0)) (aCons (eIsE (fun q : Str => q == "NoHouse") (eV 0)) (aCons (eIsE (fun q : Str => q == "NoTie") (eV 0)) (aCons (eIsE (fun q : Str => q == "NoTree") (eV 0)) (aCons (eIsE (fun q : Str => q == "NotAsleep") (eV 0)) (aCons (eIsE (fun q : Str => q == "NoWord") (eV 0)) (aCons (eIsE (fun q : Str => q == "NoGlass") (eV 0)) (aCons (eIsE (fun q : Str => q == "NoMove") (eV 0)) (aCons (eIsE (fun q : Str => q == "NoChoices") (eV 0)) aNil))))))))))) (sSeq (sSet 2 (eLst (aCons (eIsE (fun q : Str => q == "NoValues") (eV 0)) (aCons (eIsE (fun q : Str => q == "Wanted") (eV 0)) (aCons (eIsE (fun q : Str => q == "NoWay") (eV 0)) (aCons (eIsE (fun q : Str => q == "BadRecord") (eV 0)) (aCons (eIsE (fun q : Str => q == "NoMoment") (eV 0)) (aCons (eIsE (fun q : Str => q == "NoNumber") (eV 0)) (aCons (eIsE (fun q : Str => q == "NoState") (eV 0)) (aCons (eIsE (fun q : Str => q == "NoParcel") (eV 0)) (aCons (eIsE (fun q : Str => q == "NoRow") (eV 0)) aNil))))))))))) (sSeq (sSet 3 (eLst (aCons (eIsE (fun q : Str => q == "BadRow") (eV 0)) (aCons (eIsE (fun q : Str => q == "NoCut") (eV 0)) (aCons (eIsE (fun q : Str => q == "NoBlocks") (eV 0)) (aCons (eIsE (fun q : Str => q == "NoDeed") (eV 0)) (aCons (eIsE (fun q : Str => q == "NoPast") (eV 0)) (aCons (eIsE (fun q : Str => q == "NoDisk") (eV 0)) (aCons (eIsE (fun q : Str => q == "OtherHouse") (eV 0)) (aCons (eIsE (fun q : Str => q == "BadDeeds") (eV 0)) aNil)))))))))) (sSeq (sSet 4 (eLst (aCons (eIsE (fun q : Str => q == "BadText") (eV 0)) (aCons (eIsE (fun q : Str => q == "BadMoves") (eV 0)) (aCons (eIsE (fun q : Str => q == "NoLine") (eV 0)) (aCons (eIsE (fun q : Str => q == "NoName") (eV 0)) aNil)))))) (sRet (eB2 vAdd (eB2 vAdd (eB2 vAdd (eV 1) (eV 2)) (eV 3)) (eV 4)))))))
def g_law_marks : Fn := fnB 5 1 g_law_marks_s
theorem sc_law_marks : FnScope ["_law_one", "_law_first", "_law_second", "_law_third", "_law_last"] ["_law_one"] (defScope s_law_marks) := ⟨rfl, rfl, rfl, by decide +kernel, rfl, by decide +kernel, by decide +kernel⟩
theorem ok_law_marks {f : Addr} {fd : FuncData} (T : Txt K mg) (F : FunS K "_law_marks" "_law_marks" s_law_marks f fd) (hm : mg "_law_marks" = some (.ref f)) : FnAt P w K mg base (YY K) 1 1 "_law_marks" g_law_marks :=
  FnAt.of (k := 0) (g := g_law_marks_s) F hm sc_law_marks (fun _ _ _ _ _ _ us hl => match us, hl with | [_], _ => rfl) rfl fun cdv A outer s H E c =>
    (ss_cons (ss_set (i := 1) c.xi c.nd rfl (by first | exact Or.inl rfl | exact Or.inr rfl) (se_lst (sa_cons (sv_isE T.ise_BadWeb rfl T.b_isinstance rfl (se_v 0)) (sa_cons (sv_isE T.ise_NoHouse rfl T.b_isinstance rfl (se_v 0)) (sa_cons (sv_isE T.ise_NoTie rfl T.b_isinstance rfl (se_v 0)) (sa_cons (sv_isE T.ise_NoTree rfl T.b_isinstance rfl (se_v 0)) (sa_cons (sv_isE T.ise_NotAsleep rfl T.b_isinstance rfl (se_v 0)) (sa_cons (sv_isE T.ise_NoWord rfl T.b_isinstance rfl (se_v 0)) (sa_cons (sv_isE T.ise_NoGlass rfl T.b_isinstance rfl (se_v 0)) (sa_cons (sv_isE T.ise_NoMove rfl T.b_isinstance rfl (se_v 0)) (sa_cons (sv_isE T.ise_NoChoices rfl T.b_isinstance rfl (se_v 0)) sa_nil)))))))))))
    (ss_cons (ss_set (i := 2) c.xi c.nd rfl (by first | exact Or.inl rfl | exact Or.inr rfl) (se_lst (sa_cons (sv_isE T.ise_NoValues rfl T.b_isinstance rfl (se_v 0)) (sa_cons (sv_isE T.ise_Wanted rfl T.b_isinstance rfl (se_v 0)) (sa_cons (sv_isE T.ise_NoWay rfl T.b_isinstance rfl (se_v 0)) (sa_cons (sv_isE T.ise_BadRecord rfl T.b_isinstance rfl (se_v 0)) (sa_cons (sv_isE T.ise_NoMoment rfl T.b_isinstance rfl (se_v 0)) (sa_cons (sv_isE T.ise_NoNumber rfl T.b_isinstance rfl (se_v 0)) (sa_cons (sv_isE T.ise_NoState rfl T.b_isinstance rfl (se_v 0)) (sa_cons (sv_isE T.ise_NoParcel rfl T.b_isinstance rfl (se_v 0)) (sa_cons (sv_isE T.ise_NoRow rfl T.b_isinstance rfl (se_v 0)) sa_nil)))))))))))
    (ss_cons (ss_set (i := 3) c.xi c.nd rfl (by first | exact Or.inl rfl | exact Or.inr rfl) (se_lst (sa_cons (sv_isE T.ise_BadRow rfl T.b_isinstance rfl (se_v 0)) (sa_cons (sv_isE T.ise_NoCut rfl T.b_isinstance rfl (se_v 0)) (sa_cons (sv_isE T.ise_NoBlocks rfl T.b_isinstance rfl (se_v 0)) (sa_cons (sv_isE T.ise_NoDeed rfl T.b_isinstance rfl (se_v 0)) (sa_cons (sv_isE T.ise_NoPast rfl T.b_isinstance rfl (se_v 0)) (sa_cons (sv_isE T.ise_NoDisk rfl T.b_isinstance rfl (se_v 0)) (sa_cons (sv_isE T.ise_OtherHouse rfl T.b_isinstance rfl (se_v 0)) (sa_cons (sv_isE T.ise_BadDeeds rfl T.b_isinstance rfl (se_v 0)) sa_nil))))))))))
    (ss_cons (ss_set (i := 4) c.xi c.nd rfl (by first | exact Or.inl rfl | exact Or.inr rfl) (se_lst (sa_cons (sv_isE T.ise_BadText rfl T.b_isinstance rfl (se_v 0)) (sa_cons (sv_isE T.ise_BadMoves rfl T.b_isinstance rfl (se_v 0)) (sa_cons (sv_isE T.ise_NoLine rfl T.b_isinstance rfl (se_v 0)) (sa_cons (sv_isE T.ise_NoName rfl T.b_isinstance rfl (se_v 0)) sa_nil))))))
    (ss_one (ss_ret (se_add (se_add (se_add (se_v 1) (se_v 2)) (se_v 3)) (se_v 4))))))))

/-! ### _law_alien -/
def g_law_alien_s : En → Store → Res := (sRet (eOr (eIsE (fun _ => false) (eV 0)) (eOr (eIsE (fun _ => false) (eV 0)) (eIsE (fun _ => false) (eV 0)))))
def g_law_alien : Fn := fnB 1 1 g_law_alien_s
theorem sc_law_alien : FnScope ["_law_one"] ["_law_one"] (defScope s_law_alien) := ⟨rfl, rfl, rfl, by decide +kernel, rfl, by decide +kernel, by decide +kernel⟩
theorem ok_law_alien {f : Addr} {fd : FuncData} (T : Txt K mg) (F : FunS K "_law_alien" "_law_alien" s_law_alien f fd) (hm : mg "_law_alien" = some (.ref f)) : FnAt P w K mg base (YY K) 1 1 "_law_alien" g_law_alien :=
  FnAt.of (k := 0) (g := g_law_alien_s) F hm sc_law_alien (fun _ _ _ _ _ _ us hl => match us, hl with | [_], _ => rfl) rfl fun cdv A outer s H E c =>
    (ss_one (ss_ret (se_or (sv_isET (T := "KeyError") T.iset_KeyError rfl T.b_isinstance rfl T.b_KeyError (by decide +kernel) (se_v 0)) (se_or (sv_isET (T := "IndexError") T.iset_IndexError rfl T.b_isinstance rfl T.b_IndexError (by decide +kernel) (se_v 0)) (se_one (sv_isET (T := "ArithmeticError") T.iset_ArithmeticError rfl T.b_isinstance rfl T.b_ArithmeticError (by decide +kernel) (se_v 0)))))))

/-! ### _law_fields -/
def g_law_fields_s : En → Store → Res := (sSeq (sSet 1 (eLst (aCons (eFldE ["BadWeb"] "part" (eB2 vIx (eV 0) (eC (.int 0)))) (aCons (eFldE ["NoChoices", "BadRecord", "BadDeeds", "BadMoves"] "index" (eB2 vIx (eV 0) (eC (.int 8)))) (aCons (eFldE ["NoChoices", "BadRecord", "BadDeeds", "BadMoves"] "index" (eB2 vIx (eV 0) (eC (.int 12)))) (aCons (eFldE ["BadRow"] "place" (eB2 vIx (eV 0) (eC (.int 18)))) (aCons (eFldE ["NoChoices", "BadRecord", "BadDeeds", "BadMoves"] "index" (eB2 vIx (eV 0) (eC (.int 25)))) (aCons (eFldE ["BadText"] "line" (eB2 vIx (eV 0) (eC (.int 26)))) aNil)))))))) (sRet (eB2 vAdd (eV 1) (eLst (aCons (eFldE ["NoChoices", "BadRecord", "BadDeeds", "BadMoves"] "index" (eB2 vIx (eV 0) (eC (.int 27)))) (aCons (eFldE ["NoName"] "name" (eB2 vIx (eV 0) (eC (.int 29)))) aNil))))))
def g_law_fields : Fn := fnB 2 1 g_law_fields_s
theorem sc_law_fields : FnScope ["_law_errors", "_law_first"] ["_law_errors"] (defScope s_law_fields) := ⟨rfl, rfl, rfl, by decide +kernel, rfl, by decide +kernel, by decide +kernel⟩
theorem ok_law_fields {f : Addr} {fd : FuncData} (T : Txt K mg) (F : FunS K "_law_fields" "_law_fields" s_law_fields f fd) (hm : mg "_law_fields" = some (.ref f)) : FnAt P w K mg base (YY K) 1 1 "_law_fields" g_law_fields :=
  FnAt.of (k := 0) (g := g_law_fields_s) F hm sc_law_fields (fun _ _ _ _ _ _ us hl => match us, hl with | [_], _ => rfl) rfl fun cdv A outer s H E c =>
    (ss_cons (ss_set (i := 1) c.xi c.nd rfl (by first | exact Or.inl rfl | exact Or.inr rfl) (se_lst (sa_cons (se_fldE (xfs_cons T.xf_BadWeb_part xfs_nil) (se_ix c.u1 (se_v 0) se_int)) (sa_cons (se_fldE (xfs_cons T.xf_NoChoices_index (xfs_cons T.xf_BadRecord_index (xfs_cons T.xf_BadDeeds_index (xfs_cons T.xf_BadMoves_index xfs_nil)))) (se_ix c.u1 (se_v 0) se_int)) (sa_cons (se_fldE (xfs_cons T.xf_NoChoices_index (xfs_cons T.xf_BadRecord_index (xfs_cons T.xf_BadDeeds_index (xfs_cons T.xf_BadMoves_index xfs_nil)))) (se_ix c.u1 (se_v 0) se_int)) (sa_cons (se_fldE (xfs_cons T.xf_BadRow_place xfs_nil) (se_ix c.u1 (se_v 0) se_int)) (sa_cons (se_fldE (xfs_cons T.xf_NoChoices_index (xfs_cons T.xf_BadRecord_index (xfs_cons T.xf_BadDeeds_index (xfs_cons T.xf_BadMoves_index xfs_nil)))) (se_ix c.u1 (se_v 0) se_int)) (sa_cons (se_fldE (xfs_cons T.xf_BadText_line xfs_nil) (se_ix c.u1 (se_v 0) se_int)) sa_nil))))))))
    (ss_one (ss_ret (se_add (se_v 1) (se_lst (sa_cons (se_fldE (xfs_cons T.xf_NoChoices_index (xfs_cons T.xf_BadRecord_index (xfs_cons T.xf_BadDeeds_index (xfs_cons T.xf_BadMoves_index xfs_nil)))) (se_ix c.u1 (se_v 0) se_int)) (sa_cons (se_fldE (xfs_cons T.xf_NoName_name xfs_nil) (se_ix c.u1 (se_v 0) se_int)) sa_nil)))))))

/-! ### _law_raise -/
def g_law_raise_s : En → Store → Res := (sSeq (sIf (bV (eB2 vEq (eV 0) (eC (.int 0)))) (sRaise1 "BadWeb" "part" (eV 1)) sNil) (sSeq (sIf (bV (eB2 vEq (eV 0) (eC (.int 1)))) (sRaise1 "NoChoices" "index" (eV 1)) sNil) (sSeq (sIf (bV (eB2 vEq (eV 0) (eC (.int 2)))) (sRaise1 "BadRecord" "index" (eV 1)) sNil) (sSeq (sIf (bV (eB2 vEq (eV 0) (eC (.int 3)))) (sRaise1 "BadRow" "place" (eV 1)) sNil) (sSeq (sIf (bV (eB2 vEq (eV 0) (eC (.int 4)))) (sRaise1 "BadDeeds" "index" (eV 1)) sNil) (sSeq (sIf (bV (eB2 vEq (eV 0) (eC (.int 5)))) (sRaise1 "BadText" "line" (eV 1)) sNil) (sSeq (sIf (bV (eB2 vEq (eV 0) (eC (.int 6)))) (sRaise1 "BadMoves" "index" (eV 1)) sNil) (sRaise1 "NoName" "name" (eV 1)))))))))
def g_law_raise : Fn := fnB 2 2 g_law_raise_s
theorem sc_law_raise : FnScope ["_law_which", "_law_thing_here"] ["_law_which", "_law_thing_here"] (defScope s_law_raise) := ⟨rfl, rfl, rfl, by decide +kernel, rfl, by decide +kernel, by decide +kernel⟩
theorem ok_law_raise {f : Addr} {fd : FuncData} (T : Txt K mg) (F : FunS K "_law_raise" "_law_raise" s_law_raise f fd) (hm : mg "_law_raise" = some (.ref f)) (h_BadWeb : Er1At P w K mg base (YY K) "BadWeb" "part") (h_NoChoices : Er1At P w K mg base (YY K) "NoChoices" "index") (h_BadRecord : Er1At P w K mg base (YY K) "BadRecord" "index") (h_BadRow : Er1At P w K mg base (YY K) "BadRow" "place") (h_BadDeeds : Er1At P w K mg base (YY K) "BadDeeds" "index") (h_BadText : Er1At P w K mg base (YY K) "BadText" "line") (h_BadMoves : Er1At P w K mg base (YY K) "BadMoves" "index") (h_NoName : Er1At P w K mg base (YY K) "NoName" "name") : FnAt P w K mg base (YY K) 3 2 "_law_raise" g_law_raise :=
  FnAt.of (k := 2) (g := g_law_raise_s) F hm sc_law_raise (fun _ _ _ _ _ _ us hl => match us, hl with | [_, _], _ => rfl) rfl fun cdv A outer s H E c =>
    (ss_cons (ss_if (st_eq c.u64 (se_v 0) se_int) (ss_one (sx_raise1 c h_BadWeb (by omega) rfl (se_v 1))) ss_nil)
    (ss_cons (ss_if (st_eq c.u64 (se_v 0) se_int) (ss_one (sx_raise1 c h_NoChoices (by omega) rfl (se_v 1))) ss_nil)
    (ss_cons (ss_if (st_eq c.u64 (se_v 0) se_int) (ss_one (sx_raise1 c h_BadRecord (by omega) rfl (se_v 1))) ss_nil)
    (ss_cons (ss_if (st_eq c.u64 (se_v 0) se_int) (ss_one (sx_raise1 c h_BadRow (by omega) rfl (se_v 1))) ss_nil)
    (ss_cons (ss_if (st_eq c.u64 (se_v 0) se_int) (ss_one (sx_raise1 c h_BadDeeds (by omega) rfl (se_v 1))) ss_nil)
    (ss_cons (ss_if (st_eq c.u64 (se_v 0) se_int) (ss_one (sx_raise1 c h_BadText (by omega) rfl (se_v 1))) ss_nil)
    (ss_cons (ss_if (st_eq c.u64 (se_v 0) se_int) (ss_one (sx_raise1 c h_BadMoves (by omega) rfl (se_v 1))) ss_nil)
    (ss_one (sx_raise1 c h_NoName (by omega) rfl (se_v 1))))))))))

/-! ### _law_caught -/
def g_law_caught_s : En → Store → Res := (sSeq (sTryM 2 (sExpr (eCall g_law_raise (aCons (eV 0) (aCons (eV 1) aNil)))) (((fun q : Str => q == "BadWeb"), fun q fs => (sRet (eTup (aCons (eC (.int 0)) (aCons (eXf fs "part") aNil))))) :: ((fun q : Str => q == "NoChoices"), fun q fs => (sRet (eTup (aCons (eC (.int 1)) (aCons (eXf fs "index") aNil))))) :: ((fun q : Str => q == "BadRecord"), fun q fs => (sRet (eTup (aCons (eC (.int 2)) (aCons (eXf fs "index") aNil))))) :: ((fun q : Str => q == "BadRow"), fun q fs => (sRet (eTup (aCons (eC (.int 3)) (aCons (eXf fs "place") aNil))))) :: ((fun q : Str => q == "BadDeeds"), fun q fs => (sRet (eTup (aCons (eC (.int 4)) (aCons (eXf fs "index") aNil))))) :: ((fun q : Str => q == "BadText"), fun q fs => (sRet (eTup (aCons (eC (.int 5)) (aCons (eXf fs "line") aNil))))) :: ((fun q : Str => q == "BadMoves"), fun q fs => (sRet (eTup (aCons (eC (.int 6)) (aCons (eXf fs "index") aNil))))) :: ((fun q : Str => q == "NoName"), fun q fs => (sRet (eTup (aCons (eC (.int 7)) (aCons (eXf fs "name") aNil))))) :: [])) (sRet (eTup (aCons (eC (.int 8)) (aCons (eC .non) aNil)))))
def g_law_caught : Fn := fnB 3 2 g_law_caught_s
theorem sc_law_caught : FnScope ["_law_which", "_law_thing_here", "error"] ["_law_which", "_law_thing_here"] (defScope s_law_caught) := ⟨rfl, rfl, rfl, by decide +kernel, rfl, by decide +kernel, by decide +kernel⟩
theorem ok_law_caught {f : Addr} {fd : FuncData} (T : Txt K mg) (F : FunS K "_law_caught" "_law_caught" s_law_caught f fd) (hm : mg "_law_caught" = some (.ref f)) (h_law_raise : FnAt P w K mg base (YY K) 3 2 "_law_raise" g_law_raise) : FnAt P w K mg base (YY K) 4 2 "_law_caught" g_law_caught :=
  FnAt.of (k := 3) (g := g_law_caught_s) F hm sc_law_caught (fun _ _ _ _ _ _ us hl => match us, hl with | [_, _], _ => rfl) rfl fun cdv A outer s H E c =>
    (ss_cons (ss_tryM (i := 2) c rfl rfl (fun _ _ _ ct => (ss_one (ss_expr (sx_call ct h_law_raise (by omega) rfl (sa_cons (se_v 0) (sa_cons (se_v 1) sa_nil)))))) (ha_cons T.hd_BadWeb rfl (fun a oe q cls d pn fs hq hm hz hf cs => by
      have e := eq_of_beq hm; subst e
      exact (ss_one (ss_ret (se_tup (sa_cons se_int (sa_cons (sx_xf (i := 2) T.xf_BadWeb_part hq hz hf rfl rfl) sa_nil)))))) (ha_cons T.hd_NoChoices rfl (fun a oe q cls d pn fs hq hm hz hf cs => by
      have e := eq_of_beq hm; subst e
      exact (ss_one (ss_ret (se_tup (sa_cons se_int (sa_cons (sx_xf (i := 2) T.xf_NoChoices_index hq hz hf rfl rfl) sa_nil)))))) (ha_cons T.hd_BadRecord rfl (fun a oe q cls d pn fs hq hm hz hf cs => by
      have e := eq_of_beq hm; subst e
      exact (ss_one (ss_ret (se_tup (sa_cons se_int (sa_cons (sx_xf (i := 2) T.xf_BadRecord_index hq hz hf rfl rfl) sa_nil)))))) (ha_cons T.hd_BadRow rfl (fun a oe q cls d pn fs hq hm hz hf cs => by
      have e := eq_of_beq hm; subst e
      exact (ss_one (ss_ret (se_tup (sa_cons se_int (sa_cons (sx_xf (i := 2) T.xf_BadRow_place hq hz hf rfl rfl) sa_nil)))))) (ha_cons T.hd_BadDeeds rfl (fun a oe q cls d pn fs hq hm hz hf cs => by
      have e := eq_of_beq hm; subst e
      exact (ss_one (ss_ret (se_tup (sa_cons se_int (sa_cons (sx_xf (i := 2) T.xf_BadDeeds_index hq hz hf rfl rfl) sa_nil)))))) (ha_cons T.hd_BadText rfl (fun a oe q cls d pn fs hq hm hz hf cs => by
      have e := eq_of_beq hm; subst e
      exact (ss_one (ss_ret (se_tup (sa_cons se_int (sa_cons (sx_xf (i := 2) T.xf_BadText_line hq hz hf rfl rfl) sa_nil)))))) (ha_cons T.hd_BadMoves rfl (fun a oe q cls d pn fs hq hm hz hf cs => by
      have e := eq_of_beq hm; subst e
      exact (ss_one (ss_ret (se_tup (sa_cons se_int (sa_cons (sx_xf (i := 2) T.xf_BadMoves_index hq hz hf rfl rfl) sa_nil)))))) (ha_cons T.hd_NoName rfl (fun a oe q cls d pn fs hq hm hz hf cs => by
      have e := eq_of_beq hm; subst e
      exact (ss_one (ss_ret (se_tup (sa_cons se_int (sa_cons (sx_xf (i := 2) T.xf_NoName_name hq hz hf rfl rfl) sa_nil)))))) ha_nil)))))))))
    (ss_one (ss_ret (se_tup (sa_cons se_int (sa_cons se_non sa_nil))))))

/-! ### _law_based -/
def g_law_based_s : En → Store → Res := (sSeq (sTry (sExpr (eCall g_law_raise (aCons (eV 0) (aCons (eV 1) aNil)))) (((fun q => (["RoadError", "BadWeb", "NoHouse", "NoTie", "NoTree", "NotAsleep", "NoWord", "NoGlass", "NoMove", "NoChoices", "NoValues", "Wanted", "NoWay", "BadRecord", "NoMoment", "NoNumber", "NoState", "NoParcel", "NoRow", "BadRow", "NoCut", "NoBlocks", "NoDeed", "NoPast", "NoDisk", "OtherHouse", "BadDeeds", "BadText", "BadMoves", "NoLine", "NoName"] : List Str).contains q), (sRet (eC (.bl true)))) :: [])) (sRet (eC (.bl false))))
def g_law_based : Fn := fnB 2 2 g_law_based_s
theorem sc_law_based : FnScope ["_law_which", "_law_thing_here"] ["_law_which", "_law_thing_here"] (defScope s_law_based) := ⟨rfl, rfl, rfl, by decide +kernel, rfl, by decide +kernel, by decide +kernel⟩
theorem ok_law_based {f : Addr} {fd : FuncData} (T : Txt K mg) (F : FunS K "_law_based" "_law_based" s_law_based f fd) (hm : mg "_law_based" = some (.ref f)) (h_law_raise : FnAt P w K mg base (YY K) 3 2 "_law_raise" g_law_raise) : FnAt P w K mg base (YY K) 4 2 "_law_based" g_law_based :=
  FnAt.of (k := 3) (g := g_law_based_s) F hm sc_law_based (fun _ _ _ _ _ _ us hl => match us, hl with | [_, _], _ => rfl) rfl fun cdv A outer s H E c =>
    (ss_cons (sx_try c (fun _ _ _ ct => (ss_one (ss_expr (sx_call ct h_law_raise (by omega) rfl (sa_cons (se_v 0) (sa_cons (se_v 1) sa_nil)))))) (hd_cons T.hd_RoadError rfl (fun _ _ cs => (ss_one (ss_ret se_bl))) hd_nil))
    (ss_one (ss_ret se_bl)))

/-! ### law -/
def g_law_e1 : En → Store → Out Val := (eV 10)
def g_law_b2 : En → Store → Res := (sSeq (sIf (bOr (bNot (bV (eIsE (fun q => (["RoadError", "BadWeb", "NoHouse", "NoTie", "NoTree", "NotAsleep", "NoWord", "NoGlass", "NoMove", "NoChoices", "NoValues", "Wanted", "NoWay", "BadRecord", "NoMoment", "NoNumber", "NoState", "NoParcel", "NoRow", "BadRow", "NoCut", "NoBlocks", "NoDeed", "NoPast", "NoDisk", "OtherHouse", "BadDeeds", "BadText", "BadMoves", "NoLine", "NoName"] : List Str).contains q) (eB2 vIx (eV 5) (eV 6))))) (bOr (bNot (bV (eIsE (fun _ => true) (eB2 vIx (eV 5) (eV 6))))) (bV (eCall g_law_alien (aCons (eB2 vIx (eV 5) (eV 6)) aNil))))) (sRet (eC (.bl false))) sNil) (sSeq (sSet 7 (eCall g_law_marks (aCons (eB2 vIx (eV 5) (eV 6)) aNil))) (sIf (bV (eB2 vNe (eLc (iR1 (aCons (eCall fLen (aCons (eV 7) aNil)) aNil)) (gN 10) (bV (eB2 vIx (eV 7) (eV 10))) g_law_e1 [10]) (eLst (aCons (eV 6) aNil)))) (sRet (eC (.bl false))) sNil)))
def g_law_b3 : En → Store → Res := (sIf (bV (eB2 vNe (eRepr (eV 8)) (eV 4))) (sRet (eC (.bl false))) sNil)
def g_law_s : En → Store → Res := (sSeq (sSet 1 (eCall g_law_hand (aCons (eV 0) aNil))) (sSeq (sSet 2 (eCall g_law_take (aCons (eV 1) (aCons (eC (.int 8)) aNil)))) (sSeq (sSet 3 (eCall g_law_thing (aCons (eV 1) aNil))) (sSeq (sSet 4 (eRepr (eV 3))) (sSeq (sSet 5 (eCall g_law_all (aCons (eV 3) aNil))) (sSeq (sFor (iR1 (aCons (eCall fLen (aCons (eV 5) aNil)) aNil)) (gN 6) g_law_b2) (sSeq (sFor (iSeq (eCall g_law_fields (aCons (eV 5) aNil))) (gN 8) g_law_b3) (sSeq (sIf (bOr (bV (eIsE (fun q : Str => q == "NoHouse") (eMkE0 "RoadError"))) (bNot (bV (eIsE (fun _ => true) (eMkE0 "RoadError"))))) (sRet (eC (.bl false))) sNil) (sSeq (sSet 9 (eCall g_law_caught (aCons (eV 2) (aCons (eV 3) aNil)))) (sRet (eAnd (eB2 vEq (eB2 vIx (eV 9) (eC (.int 0))) (eV 2)) (eAnd (eB2 vEq (eRepr (eB2 vIx (eV 9) (eC (.int 1)))) (eV 4)) (eCall g_law_based (aCons (eV 2) (aCons (eV 3) aNil)))))))))))))))
def g_law : Fn := fnB 11 1 g_law_s
theorem sc_law : FnScope ["_law_script", "_law_hand_here", "_law_which", "_law_thing_here", "_law_due", "_law_errors", "_law_k", "_law_marks_here", "_law_kept", "_law_caught_here", "_law_j"] ["_law_script"] (defScope s_law) := ⟨rfl, rfl, rfl, by decide +kernel, rfl, by decide +kernel, by decide +kernel⟩
theorem ok_law {f : Addr} {fd : FuncData} (T : Txt K mg) (F : FunS K "law" "law" s_law f fd) (h_law_hand : FnAt P w K mg base (YY K) 1 1 "_law_hand" g_law_hand) (h_law_take : FnAt P w K mg base (YY K) 1 2 "_law_take" g_law_take) (h_law_thing : FnAt P w K mg base (YY K) 3 1 "_law_thing" g_law_thing) (h_law_all : FnAt P w K mg base (YY K) 3 1 "_law_all" g_law_all) (h_law_alien : FnAt P w K mg base (YY K) 1 1 "_law_alien" g_law_alien) (h_law_marks : FnAt P w K mg base (YY K) 1 1 "_law_marks" g_law_marks) (h_law_fields : FnAt P w K mg base (YY K) 1 1 "_law_fields" g_law_fields) (h_law_caught : FnAt P w K mg base (YY K) 4 2 "_law_caught" g_law_caught) (h_law_based : FnAt P w K mg base (YY K) 4 2 "_law_based" g_law_based) : LawC P w K mg base fd f "_law_script" (YY K) g_law :=
  fn_okC (k := 4) (g := g_law_s) F.fun sc_law rfl ⟨rfl, by decide, by decide⟩ fun cdv s H E c =>
    (ss_cons (ss_set (i := 1) c.xi c.nd rfl (by first | exact Or.inl rfl | exact Or.inr rfl) (sx_call c h_law_hand (by omega) rfl (sa_cons (se_v 0) sa_nil)))
    (ss_cons (ss_set (i := 2) c.xi c.nd rfl (by first | exact Or.inl rfl | exact Or.inr rfl) (sx_call c h_law_take (by omega) rfl (sa_cons (se_v 1) (sa_cons se_int sa_nil))))
    (ss_cons (ss_set (i := 3) c.xi c.nd rfl (by first | exact Or.inl rfl | exact Or.inr rfl) (sx_call c h_law_thing (by omega) rfl (sa_cons (se_v 1) sa_nil)))
    (ss_cons (ss_set (i := 4) c.xi c.nd rfl (by first | exact Or.inl rfl | exact Or.inr rfl) (se_reprP rfl c.un T.sys rfl T.b_repr (se_v 3)))
    (ss_cons (ss_set (i := 5) c.xi c.nd rfl (by first | exact Or.inl rfl | exact Or.inr rfl) (sx_call c h_law_all (by omega) rfl (sa_cons (se_v 3) sa_nil)))
    (ss_cons (ss_for c.hp c.calm (si_r1 rfl T.b_range (sa_cons (se_len rfl T.b_len (sa_cons (se_v 5) sa_nil)) sa_nil)) (sg_name (i := 6) c.xi c.nd rfl (by first | exact Or.inl rfl | exact Or.inr rfl)) (ss_cons (ss_if (SW.st (sw_or (st_not (st_val (sv_isE T.ise_RoadError rfl T.b_isinstance rfl (se_ix c.u1 (se_v 5) (se_v 6))))) (sw_or (st_not (st_val (sv_isET (T := "ValueError") T.iset_ValueError rfl T.b_isinstance rfl T.b_ValueError (by decide +kernel) (se_ix c.u1 (se_v 5) (se_v 6))))) (sw_or1 (st_val (sx_call c h_law_alien (by omega) rfl (sa_cons (se_ix c.u1 (se_v 5) (se_v 6)) sa_nil))))))) (ss_one (ss_ret se_bl)) ss_nil)
    (ss_cons (ss_set (i := 7) c.xi c.nd rfl (by first | exact Or.inl rfl | exact Or.inr rfl) (sx_call c h_law_marks (by omega) rfl (sa_cons (se_ix c.u1 (se_v 5) (se_v 6)) sa_nil)))
    (ss_one (ss_if (st_ne c.u64 (se_lc c (si_r1 rfl T.b_range (sa_cons (se_len rfl T.b_len (sa_cons (se_v 7) sa_nil)) sa_nil)) (own := [("_law_j", 10)]) (blk_ok (N := ["_law_script", "_law_hand_here", "_law_which", "_law_thing_here", "_law_due", "_law_errors", "_law_k", "_law_marks_here", "_law_kept", "_law_caught_here", "_law_j"]) (sc := defScope s_law) rfl rfl rfl (by decide +kernel)) (by decide) (fun _ _ _ _ _ c' => (sg_name (i := 10) c'.xi c'.nd rfl (by first | exact Or.inl rfl | exact Or.inr rfl))) (fun _ _ _ _ _ c' => (sp_one (st_val (se_ix c'.u1 (se_v 7) (se_v 10))))) (fun _ _ _ _ _ c' => (se_v 10))) (se_lst (sa_cons (se_v 6) sa_nil))) (ss_one (ss_ret se_bl)) ss_nil)))))
    (ss_cons (ss_for c.hp c.calm (si_seq (sx_call c h_law_fields (by omega) rfl (sa_cons (se_v 5) sa_nil))) (sg_name (i := 8) c.xi c.nd rfl (by first | exact Or.inl rfl | exact Or.inr rfl)) (ss_one (ss_if (st_ne c.u64 (se_reprP rfl c.un T.sys rfl T.b_repr (se_v 8)) (se_v 4)) (ss_one (ss_ret se_bl)) ss_nil)))
    (ss_cons (ss_if (SW.st (sw_or (st_val (sv_isE T.ise_NoHouse rfl T.b_isinstance rfl (se_mkB T.erb_RoadError rfl))) (sw_or1 (st_not (st_val (sv_isET (T := "ValueError") T.iset_ValueError rfl T.b_isinstance rfl T.b_ValueError (by decide +kernel) (se_mkB T.erb_RoadError rfl))))))) (ss_one (ss_ret se_bl)) ss_nil)
    (ss_cons (ss_set (i := 9) c.xi c.nd rfl (by first | exact Or.inl rfl | exact Or.inr rfl) (sx_call c h_law_caught (by omega) rfl (sa_cons (se_v 2) (sa_cons (se_v 3) sa_nil))))
    (ss_one (ss_ret (se_and (se_eq c.u64 (se_ix c.u1 (se_v 9) se_int) (se_v 2)) (se_and (se_eq c.u64 (se_reprP rfl c.un T.sys rfl T.b_repr (se_ix c.u1 (se_v 9) se_int)) (se_v 4)) (se_one (sx_call c h_law_based (by omega) rfl (sa_cons (se_v 2) (sa_cons (se_v 3) sa_nil)))))))))))))))))

/-! ### the facts of the top -/
def dl0 : List He.DefD := [⟨("BadWeb", some "__init__"), "__init__", "BadWeb.__init__", defArgs s_BadWeb_init, defBody s_BadWeb_init, defScope s_BadWeb_init, [], []⟩,
  ⟨("NoHouse", some "__init__"), "__init__", "NoHouse.__init__", defArgs s_NoHouse_init, defBody s_NoHouse_init, defScope s_NoHouse_init, [], []⟩,
  ⟨("NoTie", some "__init__"), "__init__", "NoTie.__init__", defArgs s_NoTie_init, defBody s_NoTie_init, defScope s_NoTie_init, [], []⟩,
  ⟨("NoTree", some "__init__"), "__init__", "NoTree.__init__", defArgs s_NoTree_init, defBody s_NoTree_init, defScope s_NoTree_init, [], []⟩,
  ⟨("NotAsleep", some "__init__"), "__init__", "NotAsleep.__init__", defArgs s_NotAsleep_init, defBody s_NotAsleep_init, defScope s_NotAsleep_init, [], []⟩,
  ⟨("NoWord", some "__init__"), "__init__", "NoWord.__init__", defArgs s_NoWord_init, defBody s_NoWord_init, defScope s_NoWord_init, [], []⟩,
  ⟨("NoGlass", some "__init__"), "__init__", "NoGlass.__init__", defArgs s_NoGlass_init, defBody s_NoGlass_init, defScope s_NoGlass_init, [], []⟩,
  ⟨("NoMove", some "__init__"), "__init__", "NoMove.__init__", defArgs s_NoMove_init, defBody s_NoMove_init, defScope s_NoMove_init, [], []⟩,
  ⟨("NoChoices", some "__init__"), "__init__", "NoChoices.__init__", defArgs s_NoChoices_init, defBody s_NoChoices_init, defScope s_NoChoices_init, [], []⟩,
  ⟨("NoValues", some "__init__"), "__init__", "NoValues.__init__", defArgs s_NoValues_init, defBody s_NoValues_init, defScope s_NoValues_init, [], []⟩,
  ⟨("Wanted", some "__init__"), "__init__", "Wanted.__init__", defArgs s_Wanted_init, defBody s_Wanted_init, defScope s_Wanted_init, [], []⟩,
  ⟨("NoWay", some "__init__"), "__init__", "NoWay.__init__", defArgs s_NoWay_init, defBody s_NoWay_init, defScope s_NoWay_init, [], []⟩,
  ⟨("BadRecord", some "__init__"), "__init__", "BadRecord.__init__", defArgs s_BadRecord_init, defBody s_BadRecord_init, defScope s_BadRecord_init, [], []⟩,
  ⟨("NoMoment", some "__init__"), "__init__", "NoMoment.__init__", defArgs s_NoMoment_init, defBody s_NoMoment_init, defScope s_NoMoment_init, [], []⟩,
  ⟨("NoNumber", some "__init__"), "__init__", "NoNumber.__init__", defArgs s_NoNumber_init, defBody s_NoNumber_init, defScope s_NoNumber_init, [], []⟩,
  ⟨("NoState", some "__init__"), "__init__", "NoState.__init__", defArgs s_NoState_init, defBody s_NoState_init, defScope s_NoState_init, [], []⟩,
  ⟨("NoParcel", some "__init__"), "__init__", "NoParcel.__init__", defArgs s_NoParcel_init, defBody s_NoParcel_init, defScope s_NoParcel_init, [], []⟩,
  ⟨("NoRow", some "__init__"), "__init__", "NoRow.__init__", defArgs s_NoRow_init, defBody s_NoRow_init, defScope s_NoRow_init, [], []⟩,
  ⟨("BadRow", some "__init__"), "__init__", "BadRow.__init__", defArgs s_BadRow_init, defBody s_BadRow_init, defScope s_BadRow_init, [], []⟩,
  ⟨("NoCut", some "__init__"), "__init__", "NoCut.__init__", defArgs s_NoCut_init, defBody s_NoCut_init, defScope s_NoCut_init, [], []⟩,
  ⟨("NoBlocks", some "__init__"), "__init__", "NoBlocks.__init__", defArgs s_NoBlocks_init, defBody s_NoBlocks_init, defScope s_NoBlocks_init, [], []⟩,
  ⟨("NoDeed", some "__init__"), "__init__", "NoDeed.__init__", defArgs s_NoDeed_init, defBody s_NoDeed_init, defScope s_NoDeed_init, [], []⟩,
  ⟨("NoPast", some "__init__"), "__init__", "NoPast.__init__", defArgs s_NoPast_init, defBody s_NoPast_init, defScope s_NoPast_init, [], []⟩,
  ⟨("NoDisk", some "__init__"), "__init__", "NoDisk.__init__", defArgs s_NoDisk_init, defBody s_NoDisk_init, defScope s_NoDisk_init, [], []⟩,
  ⟨("OtherHouse", some "__init__"), "__init__", "OtherHouse.__init__", defArgs s_OtherHouse_init, defBody s_OtherHouse_init, defScope s_OtherHouse_init, [], []⟩,
  ⟨("BadDeeds", some "__init__"), "__init__", "BadDeeds.__init__", defArgs s_BadDeeds_init, defBody s_BadDeeds_init, defScope s_BadDeeds_init, [], []⟩,
  ⟨("BadText", some "__init__"), "__init__", "BadText.__init__", defArgs s_BadText_init, defBody s_BadText_init, defScope s_BadText_init, [], []⟩,
  ⟨("BadMoves", some "__init__"), "__init__", "BadMoves.__init__", defArgs s_BadMoves_init, defBody s_BadMoves_init, defScope s_BadMoves_init, [], []⟩,
  ⟨("NoLine", some "__init__"), "__init__", "NoLine.__init__", defArgs s_NoLine_init, defBody s_NoLine_init, defScope s_NoLine_init, [], []⟩,
  ⟨("NoName", some "__init__"), "__init__", "NoName.__init__", defArgs s_NoName_init, defBody s_NoName_init, defScope s_NoName_init, [], []⟩]
def dl1 : List He.DefD := [⟨("_law_hand", none), "_law_hand", "_law_hand", defArgs s_law_hand, defBody s_law_hand, defScope s_law_hand, [], []⟩,
  ⟨("_law_take", none), "_law_take", "_law_take", defArgs s_law_take, defBody s_law_take, defScope s_law_take, [], []⟩,
  ⟨("_law_odd", none), "_law_odd", "_law_odd", defArgs s_law_odd, defBody s_law_odd, defScope s_law_odd, [], []⟩,
  ⟨("_law_thing", none), "_law_thing", "_law_thing", defArgs s_law_thing, defBody s_law_thing, defScope s_law_thing, [], []⟩,
  ⟨("_law_all", none), "_law_all", "_law_all", defArgs s_law_all, defBody s_law_all, defScope s_law_all, [], []⟩,
  ⟨("_law_marks", none), "_law_marks", "_law_marks", defArgs s_law_marks, defBody s_law_marks, defScope s_law_marks, [], []⟩,
  ⟨("_law_alien", none), "_law_alien", "_law_alien", defArgs s_law_alien, defBody s_law_alien, defScope s_law_alien, [], []⟩,
  ⟨("_law_fields", none), "_law_fields", "_law_fields", defArgs s_law_fields, defBody s_law_fields, defScope s_law_fields, [], []⟩,
  ⟨("_law_raise", none), "_law_raise", "_law_raise", defArgs s_law_raise, defBody s_law_raise, defScope s_law_raise, [], []⟩,
  ⟨("_law_caught", none), "_law_caught", "_law_caught", defArgs s_law_caught, defBody s_law_caught, defScope s_law_caught, [], []⟩,
  ⟨("_law_based", none), "_law_based", "_law_based", defArgs s_law_based, defBody s_law_based, defScope s_law_based, [], []⟩,
  ⟨("law", none), "law", "law", defArgs s_law, defBody s_law, defScope s_law, [], []⟩]
def dl : List He.DefD := dl0 ++ dl1
def fl0 : List He.Fa := [.glo "_law_hand",
  .glo "_law_take",
  .glo "_law_odd",
  .glo "_law_thing",
  .glo "_law_all",
  .glo "_law_marks",
  .glo "_law_alien",
  .glo "_law_fields",
  .glo "_law_raise",
  .glo "_law_caught",
  .glo "_law_based",
  .glo "law",
  .glo "RoadError",
  .glo "BadWeb",
  .glo "NoHouse",
  .glo "NoTie",
  .glo "NoTree",
  .glo "NotAsleep",
  .glo "NoWord",
  .glo "NoGlass",
  .glo "NoMove",
  .glo "NoChoices",
  .glo "NoValues",
  .glo "Wanted",
  .glo "NoWay",
  .glo "BadRecord",
  .glo "NoMoment",
  .glo "NoNumber",
  .glo "NoState",
  .glo "NoParcel"]
def fl1 : List He.Fa := [.glo "NoRow",
  .glo "BadRow",
  .glo "NoCut",
  .glo "NoBlocks",
  .glo "NoDeed",
  .glo "NoPast",
  .glo "NoDisk",
  .glo "OtherHouse",
  .glo "BadDeeds",
  .glo "BadText",
  .glo "BadMoves",
  .glo "NoLine",
  .glo "NoName",
  .free "ArithmeticError",
  .free "IndexError",
  .free "KeyError",
  .free "ValueError",
  .free "int",
  .free "isinstance",
  .free "len",
  .free "list",
  .free "range",
  .free "repr",
  .noat "BadDeeds" "index",
  .noat "BadMoves" "index",
  .noat "BadRecord" "index",
  .noat "BadRow" "place",
  .noat "BadText" "line",
  .noat "BadWeb" "part",
  .noat "NoChoices" "index"]
def fl2 : List He.Fa := [.noat "NoName" "name"]
def fl : List He.Fa := fl0 ++ fl1 ++ fl2
def xl0 : List FB := [klsB owns,
  sysB,
  erbB "RoadError",
  hdB errs "BadDeeds" (fun q : Str => q == "BadDeeds"),
  hdB errs "BadMoves" (fun q : Str => q == "BadMoves"),
  hdB errs "BadRecord" (fun q : Str => q == "BadRecord"),
  hdB errs "BadRow" (fun q : Str => q == "BadRow"),
  hdB errs "BadText" (fun q : Str => q == "BadText"),
  hdB errs "BadWeb" (fun q : Str => q == "BadWeb"),
  hdB errs "NoChoices" (fun q : Str => q == "NoChoices"),
  hdB errs "NoName" (fun q : Str => q == "NoName"),
  hdB errs "RoadError" (fun q => (["RoadError", "BadWeb", "NoHouse", "NoTie", "NoTree", "NotAsleep", "NoWord", "NoGlass", "NoMove", "NoChoices", "NoValues", "Wanted", "NoWay", "BadRecord", "NoMoment", "NoNumber", "NoState", "NoParcel", "NoRow", "BadRow", "NoCut", "NoBlocks", "NoDeed", "NoPast", "NoDisk", "OtherHouse", "BadDeeds", "BadText", "BadMoves", "NoLine", "NoName"] : List Str).contains q),
  Mp.xfB "BadDeeds" "index",
  Mp.xfB "BadMoves" "index",
  Mp.xfB "BadRecord" "index",
  Mp.xfB "BadRow" "place",
  Mp.xfB "BadText" "line",
  Mp.xfB "BadWeb" "part",
  Mp.xfB "NoChoices" "index",
  Mp.xfB "NoName" "name",
  excsB errs,
  isekB errs "BadDeeds" (fun q : Str => q == "BadDeeds"),
  isekB errs "BadMoves" (fun q : Str => q == "BadMoves"),
  isekB errs "BadRecord" (fun q : Str => q == "BadRecord"),
  isekB errs "BadRow" (fun q : Str => q == "BadRow"),
  isekB errs "BadText" (fun q : Str => q == "BadText"),
  isekB errs "BadWeb" (fun q : Str => q == "BadWeb"),
  isekB errs "NoBlocks" (fun q : Str => q == "NoBlocks"),
  isekB errs "NoChoices" (fun q : Str => q == "NoChoices"),
  isekB errs "NoCut" (fun q : Str => q == "NoCut")]
def xl1 : List FB := [isekB errs "NoDeed" (fun q : Str => q == "NoDeed"),
  isekB errs "NoDisk" (fun q : Str => q == "NoDisk"),
  isekB errs "NoGlass" (fun q : Str => q == "NoGlass"),
  isekB errs "NoHouse" (fun q : Str => q == "NoHouse"),
  isekB errs "NoLine" (fun q : Str => q == "NoLine"),
  isekB errs "NoMoment" (fun q : Str => q == "NoMoment"),
  isekB errs "NoMove" (fun q : Str => q == "NoMove"),
  isekB errs "NoName" (fun q : Str => q == "NoName"),
  isekB errs "NoNumber" (fun q : Str => q == "NoNumber"),
  isekB errs "NoParcel" (fun q : Str => q == "NoParcel"),
  isekB errs "NoPast" (fun q : Str => q == "NoPast"),
  isekB errs "NoRow" (fun q : Str => q == "NoRow"),
  isekB errs "NoState" (fun q : Str => q == "NoState"),
  isekB errs "NoTie" (fun q : Str => q == "NoTie"),
  isekB errs "NoTree" (fun q : Str => q == "NoTree"),
  isekB errs "NoValues" (fun q : Str => q == "NoValues"),
  isekB errs "NoWay" (fun q : Str => q == "NoWay"),
  isekB errs "NoWord" (fun q : Str => q == "NoWord"),
  isekB errs "NotAsleep" (fun q : Str => q == "NotAsleep"),
  isekB errs "OtherHouse" (fun q : Str => q == "OtherHouse"),
  isekB errs "RoadError" (fun q => (["RoadError", "BadWeb", "NoHouse", "NoTie", "NoTree", "NotAsleep", "NoWord", "NoGlass", "NoMove", "NoChoices", "NoValues", "Wanted", "NoWay", "BadRecord", "NoMoment", "NoNumber", "NoState", "NoParcel", "NoRow", "BadRow", "NoCut", "NoBlocks", "NoDeed", "NoPast", "NoDisk", "OtherHouse", "BadDeeds", "BadText", "BadMoves", "NoLine", "NoName"] : List Str).contains q),
  isekB errs "Wanted" (fun q : Str => q == "Wanted"),
  isetkB errs "ArithmeticError" (fun _ => false),
  isetkB errs "IndexError" (fun _ => false),
  isetkB errs "KeyError" (fun _ => false),
  isetkB errs "ValueError" (fun _ => true),
  erB "BadDeeds",
  erB "BadMoves",
  erB "BadRecord",
  erB "BadRow"]
def xl2 : List FB := [erB "BadText",
  erB "BadWeb",
  erB "NoBlocks",
  erB "NoChoices",
  erB "NoCut",
  erB "NoDeed",
  erB "NoDisk",
  erB "NoGlass",
  erB "NoHouse",
  erB "NoLine",
  erB "NoMoment",
  erB "NoMove",
  erB "NoName",
  erB "NoNumber",
  erB "NoParcel",
  erB "NoPast",
  erB "NoRow",
  erB "NoState",
  erB "NoTie",
  erB "NoTree",
  erB "NoValues",
  erB "NoWay",
  erB "NoWord",
  erB "NotAsleep",
  erB "OtherHouse",
  erB "Wanted"]
def xl : List FB := xl0 ++ xl1 ++ xl2
section
variable {P : Program} {w : World} {K : PySem.W.Frag} {mg : Str → Option Value} {h : Heap}
theorem txt (X : K.In h) (G : h.Ns mainGlobals mg) (c : SaysM fl dl xl K) : Txt K mg where
  b_ArithmeticError := He.free_ok X G (c.f 43)
  b_IndexError := He.free_ok X G (c.f 44)
  b_KeyError := He.free_ok X G (c.f 45)
  b_ValueError := He.free_ok X G (c.f 46)
  b_int := He.free_ok X G (c.f 47)
  b_isinstance := He.free_ok X G (c.f 48)
  b_len := He.free_ok X G (c.f 49)
  b_list := He.free_ok X G (c.f 50)
  b_range := He.free_ok X G (c.f 51)
  b_repr := He.free_ok X G (c.f 52)
  kls := kls_of (c.x 0)
  sys := c.x 1
  erb_RoadError := erb_of (by decide +kernel) (He.glo_ok X G (c.f 12)) (c.x 2)
  hd_BadDeeds := hd_of (by decide) (He.glo_ok X G (c.f 38)) (c.x 3)
  hd_BadMoves := hd_of (by decide) (He.glo_ok X G (c.f 40)) (c.x 4)
  hd_BadRecord := hd_of (by decide) (He.glo_ok X G (c.f 25)) (c.x 5)
  hd_BadRow := hd_of (by decide) (He.glo_ok X G (c.f 31)) (c.x 6)
  hd_BadText := hd_of (by decide) (He.glo_ok X G (c.f 39)) (c.x 7)
  hd_BadWeb := hd_of (by decide) (He.glo_ok X G (c.f 13)) (c.x 8)
  hd_NoChoices := hd_of (by decide) (He.glo_ok X G (c.f 21)) (c.x 9)
  hd_NoName := hd_of (by decide) (He.glo_ok X G (c.f 42)) (c.x 10)
  hd_RoadError := hd_of (by decide) (He.glo_ok X G (c.f 12)) (c.x 11)
  ise_BadDeeds := isek_of (He.glo_ok X G (c.f 38)) (c.x 20) (c.x 21)
  ise_BadMoves := isek_of (He.glo_ok X G (c.f 40)) (c.x 20) (c.x 22)
  ise_BadRecord := isek_of (He.glo_ok X G (c.f 25)) (c.x 20) (c.x 23)
  ise_BadRow := isek_of (He.glo_ok X G (c.f 31)) (c.x 20) (c.x 24)
  ise_BadText := isek_of (He.glo_ok X G (c.f 39)) (c.x 20) (c.x 25)
  ise_BadWeb := isek_of (He.glo_ok X G (c.f 13)) (c.x 20) (c.x 26)
  ise_NoBlocks := isek_of (He.glo_ok X G (c.f 33)) (c.x 20) (c.x 27)
  ise_NoChoices := isek_of (He.glo_ok X G (c.f 21)) (c.x 20) (c.x 28)
  ise_NoCut := isek_of (He.glo_ok X G (c.f 32)) (c.x 20) (c.x 29)
  ise_NoDeed := isek_of (He.glo_ok X G (c.f 34)) (c.x 20) (c.x 30)
  ise_NoDisk := isek_of (He.glo_ok X G (c.f 36)) (c.x 20) (c.x 31)
  ise_NoGlass := isek_of (He.glo_ok X G (c.f 19)) (c.x 20) (c.x 32)
  ise_NoHouse := isek_of (He.glo_ok X G (c.f 14)) (c.x 20) (c.x 33)
  ise_NoLine := isek_of (He.glo_ok X G (c.f 41)) (c.x 20) (c.x 34)
  ise_NoMoment := isek_of (He.glo_ok X G (c.f 26)) (c.x 20) (c.x 35)
  ise_NoMove := isek_of (He.glo_ok X G (c.f 20)) (c.x 20) (c.x 36)
  ise_NoName := isek_of (He.glo_ok X G (c.f 42)) (c.x 20) (c.x 37)
  ise_NoNumber := isek_of (He.glo_ok X G (c.f 27)) (c.x 20) (c.x 38)
  ise_NoParcel := isek_of (He.glo_ok X G (c.f 29)) (c.x 20) (c.x 39)
  ise_NoPast := isek_of (He.glo_ok X G (c.f 35)) (c.x 20) (c.x 40)
  ise_NoRow := isek_of (He.glo_ok X G (c.f 30)) (c.x 20) (c.x 41)
  ise_NoState := isek_of (He.glo_ok X G (c.f 28)) (c.x 20) (c.x 42)
  ise_NoTie := isek_of (He.glo_ok X G (c.f 15)) (c.x 20) (c.x 43)
  ise_NoTree := isek_of (He.glo_ok X G (c.f 16)) (c.x 20) (c.x 44)
  ise_NoValues := isek_of (He.glo_ok X G (c.f 22)) (c.x 20) (c.x 45)
  ise_NoWay := isek_of (He.glo_ok X G (c.f 24)) (c.x 20) (c.x 46)
  ise_NoWord := isek_of (He.glo_ok X G (c.f 18)) (c.x 20) (c.x 47)
  ise_NotAsleep := isek_of (He.glo_ok X G (c.f 17)) (c.x 20) (c.x 48)
  ise_OtherHouse := isek_of (He.glo_ok X G (c.f 37)) (c.x 20) (c.x 49)
  ise_RoadError := isek_of (He.glo_ok X G (c.f 12)) (c.x 20) (c.x 50)
  ise_Wanted := isek_of (He.glo_ok X G (c.f 23)) (c.x 20) (c.x 51)
  iset_ArithmeticError := isetk_of (c.x 20) (c.x 52)
  iset_IndexError := isetk_of (c.x 20) (c.x 53)
  iset_KeyError := isetk_of (c.x 20) (c.x 54)
  iset_ValueError := isetk_of (c.x 20) (c.x 55)
  xf_BadDeeds_index := xf_of (by decide +kernel) (c.x 12)
  xf_BadMoves_index := xf_of (by decide +kernel) (c.x 13)
  xf_BadRecord_index := xf_of (by decide +kernel) (c.x 14)
  xf_BadRow_place := xf_of (by decide +kernel) (c.x 15)
  xf_BadText_line := xf_of (by decide +kernel) (c.x 16)
  xf_BadWeb_part := xf_of (by decide +kernel) (c.x 17)
  xf_NoChoices_index := xf_of (by decide +kernel) (c.x 18)
  xf_NoName_name := xf_of (by decide +kernel) (c.x 19)
theorem all_ok {fa : Addr} (X : K.In h) (G : h.Ns mainGlobals mg) (hfa : mg "law" = some (.ref fa)) (c : SaysM fl dl xl K) :
    ∃ fd : FuncData, (∀ (s : Shared) (v : Value), BindsTo s fd ⟨[v], []⟩ [("_law_script", v)]) ∧ ∀ base : Heap, LawC P w K mg base fd fa "_law_script" (YY K) g_law := by
  have T := txt X G c
  obtain ⟨fd_BadWeb_init, F_BadWeb_init⟩ := c.d.def_ 0 (d := ⟨("BadWeb", some "__init__"), _, _, _, _, _, _, _⟩) rfl
  obtain ⟨fd_NoHouse_init, F_NoHouse_init⟩ := c.d.def_ 1 (d := ⟨("NoHouse", some "__init__"), _, _, _, _, _, _, _⟩) rfl
  obtain ⟨fd_NoTie_init, F_NoTie_init⟩ := c.d.def_ 2 (d := ⟨("NoTie", some "__init__"), _, _, _, _, _, _, _⟩) rfl
  obtain ⟨fd_NoTree_init, F_NoTree_init⟩ := c.d.def_ 3 (d := ⟨("NoTree", some "__init__"), _, _, _, _, _, _, _⟩) rfl
  obtain ⟨fd_NotAsleep_init, F_NotAsleep_init⟩ := c.d.def_ 4 (d := ⟨("NotAsleep", some "__init__"), _, _, _, _, _, _, _⟩) rfl
  obtain ⟨fd_NoWord_init, F_NoWord_init⟩ := c.d.def_ 5 (d := ⟨("NoWord", some "__init__"), _, _, _, _, _, _, _⟩) rfl
  obtain ⟨fd_NoGlass_init, F_NoGlass_init⟩ := c.d.def_ 6 (d := ⟨("NoGlass", some "__init__"), _, _, _, _, _, _, _⟩) rfl
  obtain ⟨fd_NoMove_init, F_NoMove_init⟩ := c.d.def_ 7 (d := ⟨("NoMove", some "__init__"), _, _, _, _, _, _, _⟩) rfl
  obtain ⟨fd_NoChoices_init, F_NoChoices_init⟩ := c.d.def_ 8 (d := ⟨("NoChoices", some "__init__"), _, _, _, _, _, _, _⟩) rfl
  obtain ⟨fd_NoValues_init, F_NoValues_init⟩ := c.d.def_ 9 (d := ⟨("NoValues", some "__init__"), _, _, _, _, _, _, _⟩) rfl
  obtain ⟨fd_Wanted_init, F_Wanted_init⟩ := c.d.def_ 10 (d := ⟨("Wanted", some "__init__"), _, _, _, _, _, _, _⟩) rfl
  obtain ⟨fd_NoWay_init, F_NoWay_init⟩ := c.d.def_ 11 (d := ⟨("NoWay", some "__init__"), _, _, _, _, _, _, _⟩) rfl
  obtain ⟨fd_BadRecord_init, F_BadRecord_init⟩ := c.d.def_ 12 (d := ⟨("BadRecord", some "__init__"), _, _, _, _, _, _, _⟩) rfl
  obtain ⟨fd_NoMoment_init, F_NoMoment_init⟩ := c.d.def_ 13 (d := ⟨("NoMoment", some "__init__"), _, _, _, _, _, _, _⟩) rfl
  obtain ⟨fd_NoNumber_init, F_NoNumber_init⟩ := c.d.def_ 14 (d := ⟨("NoNumber", some "__init__"), _, _, _, _, _, _, _⟩) rfl
  obtain ⟨fd_NoState_init, F_NoState_init⟩ := c.d.def_ 15 (d := ⟨("NoState", some "__init__"), _, _, _, _, _, _, _⟩) rfl
  obtain ⟨fd_NoParcel_init, F_NoParcel_init⟩ := c.d.def_ 16 (d := ⟨("NoParcel", some "__init__"), _, _, _, _, _, _, _⟩) rfl
  obtain ⟨fd_NoRow_init, F_NoRow_init⟩ := c.d.def_ 17 (d := ⟨("NoRow", some "__init__"), _, _, _, _, _, _, _⟩) rfl
  obtain ⟨fd_BadRow_init, F_BadRow_init⟩ := c.d.def_ 18 (d := ⟨("BadRow", some "__init__"), _, _, _, _, _, _, _⟩) rfl
  obtain ⟨fd_NoCut_init, F_NoCut_init⟩ := c.d.def_ 19 (d := ⟨("NoCut", some "__init__"), _, _, _, _, _, _, _⟩) rfl
  obtain ⟨fd_NoBlocks_init, F_NoBlocks_init⟩ := c.d.def_ 20 (d := ⟨("NoBlocks", some "__init__"), _, _, _, _, _, _, _⟩) rfl
  obtain ⟨fd_NoDeed_init, F_NoDeed_init⟩ := c.d.def_ 21 (d := ⟨("NoDeed", some "__init__"), _, _, _, _, _, _, _⟩) rfl
  obtain ⟨fd_NoPast_init, F_NoPast_init⟩ := c.d.def_ 22 (d := ⟨("NoPast", some "__init__"), _, _, _, _, _, _, _⟩) rfl
  obtain ⟨fd_NoDisk_init, F_NoDisk_init⟩ := c.d.def_ 23 (d := ⟨("NoDisk", some "__init__"), _, _, _, _, _, _, _⟩) rfl
  obtain ⟨fd_OtherHouse_init, F_OtherHouse_init⟩ := c.d.def_ 24 (d := ⟨("OtherHouse", some "__init__"), _, _, _, _, _, _, _⟩) rfl
  obtain ⟨fd_BadDeeds_init, F_BadDeeds_init⟩ := c.d.def_ 25 (d := ⟨("BadDeeds", some "__init__"), _, _, _, _, _, _, _⟩) rfl
  obtain ⟨fd_BadText_init, F_BadText_init⟩ := c.d.def_ 26 (d := ⟨("BadText", some "__init__"), _, _, _, _, _, _, _⟩) rfl
  obtain ⟨fd_BadMoves_init, F_BadMoves_init⟩ := c.d.def_ 27 (d := ⟨("BadMoves", some "__init__"), _, _, _, _, _, _, _⟩) rfl
  obtain ⟨fd_NoLine_init, F_NoLine_init⟩ := c.d.def_ 28 (d := ⟨("NoLine", some "__init__"), _, _, _, _, _, _, _⟩) rfl
  obtain ⟨fd_NoName_init, F_NoName_init⟩ := c.d.def_ 29 (d := ⟨("NoName", some "__init__"), _, _, _, _, _, _, _⟩) rfl
  obtain ⟨fd_law_hand, F_law_hand⟩ := c.d.def_ 30 (d := ⟨("_law_hand", none), _, _, _, _, _, _, _⟩) rfl
  obtain ⟨fd_law_take, F_law_take⟩ := c.d.def_ 31 (d := ⟨("_law_take", none), _, _, _, _, _, _, _⟩) rfl
  obtain ⟨fd_law_odd, F_law_odd⟩ := c.d.def_ 32 (d := ⟨("_law_odd", none), _, _, _, _, _, _, _⟩) rfl
  obtain ⟨fd_law_thing, F_law_thing⟩ := c.d.def_ 33 (d := ⟨("_law_thing", none), _, _, _, _, _, _, _⟩) rfl
  obtain ⟨fd_law_all, F_law_all⟩ := c.d.def_ 34 (d := ⟨("_law_all", none), _, _, _, _, _, _, _⟩) rfl
  obtain ⟨fd_law_marks, F_law_marks⟩ := c.d.def_ 35 (d := ⟨("_law_marks", none), _, _, _, _, _, _, _⟩) rfl
  obtain ⟨fd_law_alien, F_law_alien⟩ := c.d.def_ 36 (d := ⟨("_law_alien", none), _, _, _, _, _, _, _⟩) rfl
  obtain ⟨fd_law_fields, F_law_fields⟩ := c.d.def_ 37 (d := ⟨("_law_fields", none), _, _, _, _, _, _, _⟩) rfl
  obtain ⟨fd_law_raise, F_law_raise⟩ := c.d.def_ 38 (d := ⟨("_law_raise", none), _, _, _, _, _, _, _⟩) rfl
  obtain ⟨fd_law_caught, F_law_caught⟩ := c.d.def_ 39 (d := ⟨("_law_caught", none), _, _, _, _, _, _, _⟩) rfl
  obtain ⟨fd_law_based, F_law_based⟩ := c.d.def_ 40 (d := ⟨("_law_based", none), _, _, _, _, _, _, _⟩) rfl
  obtain ⟨fd_law, F_law⟩ := c.d.def_ 41 (d := ⟨("law", none), _, _, _, _, _, _, _⟩) rfl
  have e := hfa.symm.trans (He.glo_ok X G (c.f 11))
  cases e
  refine ⟨fd_law, fun s v => FunD.bindsA (ps := ["_law_script"]) F_law (fun _ _ _ _ _ _ us hl => match us, hl with | [_], _ => rfl) s [v] rfl, fun base => ?_⟩
  have h_NoBlocks : Er0At P w K mg base (YY K) "NoBlocks" := er0_of (st := s_NoBlocks_init) (qual := "NoBlocks.__init__") (by decide +kernel) (He.glo_ok X G (c.f 33)) (c.x 62) F_NoBlocks_init ⟨rfl, rfl, rfl, by decide +kernel, rfl, by decide +kernel, by decide +kernel⟩ rfl (fun _ _ _ _ _ _ us hl => match us, hl with | [_], _ => rfl)
  have h_NoCut : Er0At P w K mg base (YY K) "NoCut" := er0_of (st := s_NoCut_init) (qual := "NoCut.__init__") (by decide +kernel) (He.glo_ok X G (c.f 32)) (c.x 64) F_NoCut_init ⟨rfl, rfl, rfl, by decide +kernel, rfl, by decide +kernel, by decide +kernel⟩ rfl (fun _ _ _ _ _ _ us hl => match us, hl with | [_], _ => rfl)
  have h_NoDeed : Er0At P w K mg base (YY K) "NoDeed" := er0_of (st := s_NoDeed_init) (qual := "NoDeed.__init__") (by decide +kernel) (He.glo_ok X G (c.f 34)) (c.x 65) F_NoDeed_init ⟨rfl, rfl, rfl, by decide +kernel, rfl, by decide +kernel, by decide +kernel⟩ rfl (fun _ _ _ _ _ _ us hl => match us, hl with | [_], _ => rfl)
  have h_NoDisk : Er0At P w K mg base (YY K) "NoDisk" := er0_of (st := s_NoDisk_init) (qual := "NoDisk.__init__") (by decide +kernel) (He.glo_ok X G (c.f 36)) (c.x 66) F_NoDisk_init ⟨rfl, rfl, rfl, by decide +kernel, rfl, by decide +kernel, by decide +kernel⟩ rfl (fun _ _ _ _ _ _ us hl => match us, hl with | [_], _ => rfl)
  have h_NoGlass : Er0At P w K mg base (YY K) "NoGlass" := er0_of (st := s_NoGlass_init) (qual := "NoGlass.__init__") (by decide +kernel) (He.glo_ok X G (c.f 19)) (c.x 67) F_NoGlass_init ⟨rfl, rfl, rfl, by decide +kernel, rfl, by decide +kernel, by decide +kernel⟩ rfl (fun _ _ _ _ _ _ us hl => match us, hl with | [_], _ => rfl)
  have h_NoHouse : Er0At P w K mg base (YY K) "NoHouse" := er0_of (st := s_NoHouse_init) (qual := "NoHouse.__init__") (by decide +kernel) (He.glo_ok X G (c.f 14)) (c.x 68) F_NoHouse_init ⟨rfl, rfl, rfl, by decide +kernel, rfl, by decide +kernel, by decide +kernel⟩ rfl (fun _ _ _ _ _ _ us hl => match us, hl with | [_], _ => rfl)
  have h_NoLine : Er0At P w K mg base (YY K) "NoLine" := er0_of (st := s_NoLine_init) (qual := "NoLine.__init__") (by decide +kernel) (He.glo_ok X G (c.f 41)) (c.x 69) F_NoLine_init ⟨rfl, rfl, rfl, by decide +kernel, rfl, by decide +kernel, by decide +kernel⟩ rfl (fun _ _ _ _ _ _ us hl => match us, hl with | [_], _ => rfl)
  have h_NoMoment : Er0At P w K mg base (YY K) "NoMoment" := er0_of (st := s_NoMoment_init) (qual := "NoMoment.__init__") (by decide +kernel) (He.glo_ok X G (c.f 26)) (c.x 70) F_NoMoment_init ⟨rfl, rfl, rfl, by decide +kernel, rfl, by decide +kernel, by decide +kernel⟩ rfl (fun _ _ _ _ _ _ us hl => match us, hl with | [_], _ => rfl)
  have h_NoMove : Er0At P w K mg base (YY K) "NoMove" := er0_of (st := s_NoMove_init) (qual := "NoMove.__init__") (by decide +kernel) (He.glo_ok X G (c.f 20)) (c.x 71) F_NoMove_init ⟨rfl, rfl, rfl, by decide +kernel, rfl, by decide +kernel, by decide +kernel⟩ rfl (fun _ _ _ _ _ _ us hl => match us, hl with | [_], _ => rfl)
  have h_NoNumber : Er0At P w K mg base (YY K) "NoNumber" := er0_of (st := s_NoNumber_init) (qual := "NoNumber.__init__") (by decide +kernel) (He.glo_ok X G (c.f 27)) (c.x 73) F_NoNumber_init ⟨rfl, rfl, rfl, by decide +kernel, rfl, by decide +kernel, by decide +kernel⟩ rfl (fun _ _ _ _ _ _ us hl => match us, hl with | [_], _ => rfl)
  have h_NoParcel : Er0At P w K mg base (YY K) "NoParcel" := er0_of (st := s_NoParcel_init) (qual := "NoParcel.__init__") (by decide +kernel) (He.glo_ok X G (c.f 29)) (c.x 74) F_NoParcel_init ⟨rfl, rfl, rfl, by decide +kernel, rfl, by decide +kernel, by decide +kernel⟩ rfl (fun _ _ _ _ _ _ us hl => match us, hl with | [_], _ => rfl)
  have h_NoPast : Er0At P w K mg base (YY K) "NoPast" := er0_of (st := s_NoPast_init) (qual := "NoPast.__init__") (by decide +kernel) (He.glo_ok X G (c.f 35)) (c.x 75) F_NoPast_init ⟨rfl, rfl, rfl, by decide +kernel, rfl, by decide +kernel, by decide +kernel⟩ rfl (fun _ _ _ _ _ _ us hl => match us, hl with | [_], _ => rfl)
  have h_NoRow : Er0At P w K mg base (YY K) "NoRow" := er0_of (st := s_NoRow_init) (qual := "NoRow.__init__") (by decide +kernel) (He.glo_ok X G (c.f 30)) (c.x 76) F_NoRow_init ⟨rfl, rfl, rfl, by decide +kernel, rfl, by decide +kernel, by decide +kernel⟩ rfl (fun _ _ _ _ _ _ us hl => match us, hl with | [_], _ => rfl)
  have h_NoState : Er0At P w K mg base (YY K) "NoState" := er0_of (st := s_NoState_init) (qual := "NoState.__init__") (by decide +kernel) (He.glo_ok X G (c.f 28)) (c.x 77) F_NoState_init ⟨rfl, rfl, rfl, by decide +kernel, rfl, by decide +kernel, by decide +kernel⟩ rfl (fun _ _ _ _ _ _ us hl => match us, hl with | [_], _ => rfl)
  have h_NoTie : Er0At P w K mg base (YY K) "NoTie" := er0_of (st := s_NoTie_init) (qual := "NoTie.__init__") (by decide +kernel) (He.glo_ok X G (c.f 15)) (c.x 78) F_NoTie_init ⟨rfl, rfl, rfl, by decide +kernel, rfl, by decide +kernel, by decide +kernel⟩ rfl (fun _ _ _ _ _ _ us hl => match us, hl with | [_], _ => rfl)
  have h_NoTree : Er0At P w K mg base (YY K) "NoTree" := er0_of (st := s_NoTree_init) (qual := "NoTree.__init__") (by decide +kernel) (He.glo_ok X G (c.f 16)) (c.x 79) F_NoTree_init ⟨rfl, rfl, rfl, by decide +kernel, rfl, by decide +kernel, by decide +kernel⟩ rfl (fun _ _ _ _ _ _ us hl => match us, hl with | [_], _ => rfl)
  have h_NoValues : Er0At P w K mg base (YY K) "NoValues" := er0_of (st := s_NoValues_init) (qual := "NoValues.__init__") (by decide +kernel) (He.glo_ok X G (c.f 22)) (c.x 80) F_NoValues_init ⟨rfl, rfl, rfl, by decide +kernel, rfl, by decide +kernel, by decide +kernel⟩ rfl (fun _ _ _ _ _ _ us hl => match us, hl with | [_], _ => rfl)
  have h_NoWay : Er0At P w K mg base (YY K) "NoWay" := er0_of (st := s_NoWay_init) (qual := "NoWay.__init__") (by decide +kernel) (He.glo_ok X G (c.f 24)) (c.x 81) F_NoWay_init ⟨rfl, rfl, rfl, by decide +kernel, rfl, by decide +kernel, by decide +kernel⟩ rfl (fun _ _ _ _ _ _ us hl => match us, hl with | [_], _ => rfl)
  have h_NoWord : Er0At P w K mg base (YY K) "NoWord" := er0_of (st := s_NoWord_init) (qual := "NoWord.__init__") (by decide +kernel) (He.glo_ok X G (c.f 18)) (c.x 82) F_NoWord_init ⟨rfl, rfl, rfl, by decide +kernel, rfl, by decide +kernel, by decide +kernel⟩ rfl (fun _ _ _ _ _ _ us hl => match us, hl with | [_], _ => rfl)
  have h_NotAsleep : Er0At P w K mg base (YY K) "NotAsleep" := er0_of (st := s_NotAsleep_init) (qual := "NotAsleep.__init__") (by decide +kernel) (He.glo_ok X G (c.f 17)) (c.x 83) F_NotAsleep_init ⟨rfl, rfl, rfl, by decide +kernel, rfl, by decide +kernel, by decide +kernel⟩ rfl (fun _ _ _ _ _ _ us hl => match us, hl with | [_], _ => rfl)
  have h_OtherHouse : Er0At P w K mg base (YY K) "OtherHouse" := er0_of (st := s_OtherHouse_init) (qual := "OtherHouse.__init__") (by decide +kernel) (He.glo_ok X G (c.f 37)) (c.x 84) F_OtherHouse_init ⟨rfl, rfl, rfl, by decide +kernel, rfl, by decide +kernel, by decide +kernel⟩ rfl (fun _ _ _ _ _ _ us hl => match us, hl with | [_], _ => rfl)
  have h_Wanted : Er0At P w K mg base (YY K) "Wanted" := er0_of (st := s_Wanted_init) (qual := "Wanted.__init__") (by decide +kernel) (He.glo_ok X G (c.f 23)) (c.x 85) F_Wanted_init ⟨rfl, rfl, rfl, by decide +kernel, rfl, by decide +kernel, by decide +kernel⟩ rfl (fun _ _ _ _ _ _ us hl => match us, hl with | [_], _ => rfl)
  have h_BadDeeds : Er1At P w K mg base (YY K) "BadDeeds" "index" := er1_of (st := s_BadDeeds_init) (qual := "BadDeeds.__init__") (by decide +kernel) (He.glo_ok X G (c.f 38)) (c.x 56) (c.f 53) F_BadDeeds_init ⟨rfl, rfl, rfl, by decide +kernel, rfl, by decide +kernel, by decide +kernel⟩ rfl rfl rfl (fun _ _ _ _ _ _ us hl => match us, hl with | [_, _], _ => rfl)
  have h_BadMoves : Er1At P w K mg base (YY K) "BadMoves" "index" := er1_of (st := s_BadMoves_init) (qual := "BadMoves.__init__") (by decide +kernel) (He.glo_ok X G (c.f 40)) (c.x 57) (c.f 54) F_BadMoves_init ⟨rfl, rfl, rfl, by decide +kernel, rfl, by decide +kernel, by decide +kernel⟩ rfl rfl rfl (fun _ _ _ _ _ _ us hl => match us, hl with | [_, _], _ => rfl)
  have h_BadRecord : Er1At P w K mg base (YY K) "BadRecord" "index" := er1_of (st := s_BadRecord_init) (qual := "BadRecord.__init__") (by decide +kernel) (He.glo_ok X G (c.f 25)) (c.x 58) (c.f 55) F_BadRecord_init ⟨rfl, rfl, rfl, by decide +kernel, rfl, by decide +kernel, by decide +kernel⟩ rfl rfl rfl (fun _ _ _ _ _ _ us hl => match us, hl with | [_, _], _ => rfl)
  have h_BadRow : Er1At P w K mg base (YY K) "BadRow" "place" := er1_of (st := s_BadRow_init) (qual := "BadRow.__init__") (by decide +kernel) (He.glo_ok X G (c.f 31)) (c.x 59) (c.f 56) F_BadRow_init ⟨rfl, rfl, rfl, by decide +kernel, rfl, by decide +kernel, by decide +kernel⟩ rfl rfl rfl (fun _ _ _ _ _ _ us hl => match us, hl with | [_, _], _ => rfl)
  have h_BadText : Er1At P w K mg base (YY K) "BadText" "line" := er1_of (st := s_BadText_init) (qual := "BadText.__init__") (by decide +kernel) (He.glo_ok X G (c.f 39)) (c.x 60) (c.f 57) F_BadText_init ⟨rfl, rfl, rfl, by decide +kernel, rfl, by decide +kernel, by decide +kernel⟩ rfl rfl rfl (fun _ _ _ _ _ _ us hl => match us, hl with | [_, _], _ => rfl)
  have h_BadWeb : Er1At P w K mg base (YY K) "BadWeb" "part" := er1_of (st := s_BadWeb_init) (qual := "BadWeb.__init__") (by decide +kernel) (He.glo_ok X G (c.f 13)) (c.x 61) (c.f 58) F_BadWeb_init ⟨rfl, rfl, rfl, by decide +kernel, rfl, by decide +kernel, by decide +kernel⟩ rfl rfl rfl (fun _ _ _ _ _ _ us hl => match us, hl with | [_, _], _ => rfl)
  have h_NoChoices : Er1At P w K mg base (YY K) "NoChoices" "index" := er1_of (st := s_NoChoices_init) (qual := "NoChoices.__init__") (by decide +kernel) (He.glo_ok X G (c.f 21)) (c.x 63) (c.f 59) F_NoChoices_init ⟨rfl, rfl, rfl, by decide +kernel, rfl, by decide +kernel, by decide +kernel⟩ rfl rfl rfl (fun _ _ _ _ _ _ us hl => match us, hl with | [_, _], _ => rfl)
  have h_NoName : Er1At P w K mg base (YY K) "NoName" "name" := er1_of (st := s_NoName_init) (qual := "NoName.__init__") (by decide +kernel) (He.glo_ok X G (c.f 42)) (c.x 72) (c.f 60) F_NoName_init ⟨rfl, rfl, rfl, by decide +kernel, rfl, by decide +kernel, by decide +kernel⟩ rfl rfl rfl (fun _ _ _ _ _ _ us hl => match us, hl with | [_, _], _ => rfl)
  have h_law_hand := ok_law_hand (P := P) (w := w) (base := base) T F_law_hand (He.glo_ok X G (c.f 0)) 
  have h_law_take := ok_law_take (P := P) (w := w) (base := base) T F_law_take (He.glo_ok X G (c.f 1)) 
  have h_law_odd := ok_law_odd (P := P) (w := w) (base := base) T F_law_odd (He.glo_ok X G (c.f 2)) (h_law_take)
  have h_law_thing := ok_law_thing (P := P) (w := w) (base := base) T F_law_thing (He.glo_ok X G (c.f 3)) (h_law_odd) (h_law_take)
  have h_law_all := ok_law_all (P := P) (w := w) (base := base) T F_law_all (He.glo_ok X G (c.f 4)) h_BadWeb h_NoHouse h_NoTie h_NoTree h_NotAsleep h_NoWord h_NoGlass h_NoMove h_NoChoices h_NoValues h_Wanted h_NoWay h_BadRecord h_NoMoment h_NoNumber h_NoState h_NoParcel h_NoRow h_BadRow h_NoCut h_NoBlocks h_NoDeed h_NoPast h_NoDisk h_OtherHouse h_BadDeeds h_BadText h_BadMoves h_NoLine h_NoName
  have h_law_marks := ok_law_marks (P := P) (w := w) (base := base) T F_law_marks (He.glo_ok X G (c.f 5)) 
  have h_law_alien := ok_law_alien (P := P) (w := w) (base := base) T F_law_alien (He.glo_ok X G (c.f 6)) 
  have h_law_fields := ok_law_fields (P := P) (w := w) (base := base) T F_law_fields (He.glo_ok X G (c.f 7)) 
  have h_law_raise := ok_law_raise (P := P) (w := w) (base := base) T F_law_raise (He.glo_ok X G (c.f 8)) h_BadWeb h_NoChoices h_BadRecord h_BadRow h_BadDeeds h_BadText h_BadMoves h_NoName
  have h_law_caught := ok_law_caught (P := P) (w := w) (base := base) T F_law_caught (He.glo_ok X G (c.f 9)) (h_law_raise)
  have h_law_based := ok_law_based (P := P) (w := w) (base := base) T F_law_based (He.glo_ok X G (c.f 10)) (h_law_raise)
  exact ok_law T F_law (h_law_hand) (h_law_take) (h_law_thing) (h_law_all) (h_law_alien) (h_law_marks) (h_law_fields) (h_law_caught) (h_law_based)
end
end
end
end K00

set_option Elab.async false
set_option linter.all false
set_option maxRecDepth 100000
set_option maxHeartbeats 0
namespace K00
open PySem PySem.Spec PyProof.Rows L2 Mp
def loose0 : List Str := ["RoadError", "BadWeb", "NoHouse", "NoTie", "NoTree", "NotAsleep", "NoWord", "NoGlass", "NoMove", "NoChoices", "NoValues", "Wanted", "NoWay", "BadRecord", "NoMoment", "NoNumber", "NoState", "NoParcel", "NoRow", "BadRow", "NoCut", "NoBlocks", "NoDeed", "NoPast", "NoDisk", "OtherHouse", "BadDeeds", "BadText", "BadMoves", "NoLine"]
def loose1 : List Str := ["NoName", "_law_hand", "_law_take", "_law_odd", "_law_thing", "_law_all", "_law_marks", "_law_alien", "_law_fields", "_law_raise", "_law_caught", "_law_based"]
def loose : List Str := loose0 ++ loose1
abbrev R : PySem.W.OpenRow := PySem.W.OpenLaw.row PySem.Challenge.rw_leastroads_k00_errors_keep_what_is_passe
abbrev hk : PySem.W.Hook := hookS 5 fl dl xl
def ob (s : PySem.W.SharedT) : AlM := obsMS 5 fl dl xl (HandSHeadRun.getT s)
theorem ob_eq (s : PySem.W.SharedT) : ob s = hk.obs s.abs := obsMS_eq (HandSHeadRun.getT_eq s)
theorem run (w : World) : HandSHeadRun.RunEq R (PySem.W.view R.prog [44]) hk ob 8000 loose w := by
  intro os
  kernel_rfl
end K00

set_option Elab.async false
set_option linter.all false
set_option maxRecDepth 100000
set_option maxHeartbeats 2000000
namespace K00
open PySem PySem.Spec PyProof.Rows L2 Mp
structure Hand (S : Store) (h n : Nat) : Prop where
  ex : ∃ (m : Nat) (cells : List Int) (i : Nat) (big mix : Int) (cnt : Nat), S[h]? = some (.lst [.ref m, .int i, .int big, .int mix, .int cnt]) ∧ S[m]? = some (.lst (cells.map .int)) ∧ h ≠ m ∧ 0 ≤ big ∧ 0 ≤ mix ∧ mix < 2147483647 ∧ cnt ≤ n ∧ m < h
def Same1 (h : Nat) (S S' : Store) : Prop := S'.length = S.length ∧ ∀ j, j ≠ h → S'[j]? = S[j]?
theorem same_set {S : Store} {h : Nat} (o : Ob) : Same1 h S (S.set h o) := ⟨by simp, fun j hj => List.getElem?_set_ne (Ne.symm hj)⟩
theorem hand_set {S : Store} {h m n : Nat} {cells : List Int} {i big mix k : Int} (hl : h < S.length) (e2 : S[m]? = some (.lst (cells.map .int))) (ne : h ≠ m) (hi : 0 ≤ i) (hb : 0 ≤ big) (h0 : 0 ≤ mix) (h1 : mix < 2147483647) (k0 : 0 ≤ k) (k1 : k ≤ n) (mh : m < h) :
    Hand (S.set h (.lst [.ref m, .int i, .int big, .int mix, .int k])) h n := by
  obtain ⟨i, rfl⟩ := Int.eq_ofNat_of_zero_le hi
  obtain ⟨k, rfl⟩ := Int.eq_ofNat_of_zero_le k0
  exact ⟨m, cells, i, big, mix, k, List.getElem?_set_self hl, by rw [List.getElem?_set_ne ne]; exact e2, ne, hb, h0, h1, by omega, mh⟩
theorem take_tail {S : Store} {h m n : Nat} {cells : List Int} {i big μ k many : Int} (hl : h < S.length) (e2 : S[m]? = some (.lst (cells.map .int))) (ne : h ≠ m) (hi : 0 ≤ i) (hb : 0 ≤ big) (m0 : 0 ≤ μ) (m1 : μ < 2147483647) (k0 : 0 ≤ k) (k1 : k ≤ n) (hn : n ≤ 1000000001) (hm : 1 ≤ many) (mh : m < h) :
    CM μ 69621 ∧ CM 7919 k ∧ CD ((μ * 69621 + 7919 * k) % 2147483647) 1009 ∧ CM ((μ * 69621 + 7919 * k) % 2147483647) ((μ * 69621 + 7919 * k) % 2147483647 / 1009 + 69621) ∧ CD (((μ * 69621 + 7919 * k) % 2147483647 * ((μ * 69621 + 7919 * k) % 2147483647 / 1009 + 69621) % 2147483647)) 2003 ∧ CM (((μ * 69621 + 7919 * k) % 2147483647 * ((μ * 69621 + 7919 * k) % 2147483647 / 1009 + 69621) % 2147483647)) (((μ * 69621 + 7919 * k) % 2147483647 * ((μ * 69621 + 7919 * k) % 2147483647 / 1009 + 69621) % 2147483647) / 2003 + 40692) ∧ CD (((μ * 69621 + 7919 * k) % 2147483647 * ((μ * 69621 + 7919 * k) % 2147483647 / 1009 + 69621) % 2147483647) * (((μ * 69621 + 7919 * k) % 2147483647 * ((μ * 69621 + 7919 * k) % 2147483647 / 1009 + 69621) % 2147483647) / 2003 + 40692) % 2147483399) 16 ∧ 0 < many ∧
      ∃ r : Nat, ((μ * 69621 + 7919 * k) % 2147483647 * ((μ * 69621 + 7919 * k) % 2147483647 / 1009 + 69621) % 2147483647) * (((μ * 69621 + 7919 * k) % 2147483647 * ((μ * 69621 + 7919 * k) % 2147483647 / 1009 + 69621) % 2147483647) / 2003 + 40692) % 2147483399 / 16 % many = ↑r ∧ (r : Int) < many ∧ Hand (S.set h (.lst [.ref m, .int i, .int big, .int ((μ * 69621 + 7919 * k) % 2147483647), .int k])) h n ∧ Same1 h S (S.set h (.lst [.ref m, .int i, .int big, .int ((μ * 69621 + 7919 * k) % 2147483647), .int k])) := by
  have a0 := Int.emod_nonneg (μ * 69621 + 7919 * k) (by decide : (2147483647 : Int) ≠ 0)
  have a1 := Int.emod_lt_of_pos (μ * 69621 + 7919 * k) (by decide : (0 : Int) < 2147483647)
  refine ⟨cm_ok (by omega) (by omega), cm_ok (by omega) (by omega), ⟨by decide, by decide⟩, ?_⟩
  generalize (μ * 69621 + 7919 * k) % 2147483647 = a at *
  have b0 := Int.emod_nonneg (a * (a / 1009 + 69621)) (by decide : (2147483647 : Int) ≠ 0)
  have b1 := Int.emod_lt_of_pos (a * (a / 1009 + 69621)) (by decide : (0 : Int) < 2147483647)
  refine ⟨cm_ok (by omega) (by omega), ⟨by decide, by decide⟩, ?_⟩
  generalize a * (a / 1009 + 69621) % 2147483647 = b at *
  refine ⟨cm_ok (by omega) (by omega), ⟨by decide, by decide⟩, by omega, ?_⟩
  have c0 := Int.emod_nonneg (b * (b / 2003 + 40692) % 2147483399 / 16) (by omega : many ≠ 0)
  have c1 := Int.emod_lt_of_pos (b * (b / 2003 + 40692) % 2147483399 / 16) (by omega : 0 < many)
  obtain ⟨r, hr⟩ := Int.eq_ofNat_of_zero_le c0
  exact ⟨r, hr, by omega, hand_set hl e2 ne hi hb a0 a1 k0 k1 mh, same_set _⟩
theorem take_ok {S : Store} {h n : Nat} {many : Int} (H : Hand S h n) (h1 : 1 ≤ many) (h2 : many < 2 ^ 60) (hn : n ≤ 1000000000) :
    wO (g_law_take [.ref h, .int many] S) (fun v S' => ∃ r : Nat, v = .int r ∧ (r : Int) < many ∧ Hand S' h (n + 1) ∧ Same1 h S S') noX := by
  obtain ⟨m, cells, i, big, mix, cnt, e1, e2, ne, b0, m0, m1, c0, mh⟩ := H.ex
  unfold g_law_take
  have hl : h < S.length := (List.getElem?_eq_some_iff.mp e1).1
  have gs : ∀ o, (S.set h o)[h]? = some o := fun o => List.getElem?_set_self hl
  have gm : ∀ o, (S.set h o)[m]? = some (.lst (cells.map .int)) := fun o => by rw [List.getElem?_set_ne ne]; exact e2
  have cell : i < cells.length → ∃ c, cells[i]? = some c := fun h => ⟨_, List.getElem?_eq_getElem h⟩
  have mods : ∀ x : Int, 0 ≤ x % 2147483647 ∧ x % 2147483647 < 2147483647 := fun x => ⟨Int.emod_nonneg _ (by decide), Int.emod_lt_of_pos _ (by decide)⟩
  by_cases hb : big = 0
  · subst hb
    by_cases hi : i < cells.length
    · obtain ⟨c, hc⟩ := cell hi
      have hc2 : cells[i] = c := by rw [List.getElem?_eq_getElem hi] at hc; exact Option.some.inj hc
      simp [wO_fnB, g_law_take_s, e1, e2, gs, gm, hi, hc, hc2]
      refine ⟨⟨by decide, by decide, by decide⟩, ?_⟩
      split
      · rename_i big
        rw [if_pos (by omega)]
        have q0 := Int.emod_nonneg c (by omega : many ≠ 0)
        have q1 := Int.emod_lt_of_pos c (by omega : 0 < many)
        obtain ⟨r, hr⟩ := Int.eq_ofNat_of_zero_le q0
        exact ⟨by omega, ⟨by omega, by omega⟩, r, hr, by omega, hand_set hl e2 ne (by omega) (Int.ediv_nonneg (by omega) (by omega)) m0 m1 (by omega) (by omega) mh, same_set _⟩
      · have z := mods (mix * 48271 + c % 2147483647 + 1)
        exact ⟨cm_ok (by omega) (by omega), take_tail hl e2 ne (by omega) (by omega) z.1 z.2 (by omega) (by omega) (by omega) h1 mh⟩
    · simp [wO_fnB, g_law_take_s, e1, e2, gs, gm, hi]
      exact take_tail hl e2 ne (by omega) (by omega) m0 m1 (by omega) (by omega) (by omega) h1 mh
  · have hp : 0 < big := by omega
    simp [wO_fnB, g_law_take_s, e1, e2, gs, gm, hb, hp]
    have q0 := Int.emod_nonneg big (by omega : many ≠ 0)
    have q1 := Int.emod_lt_of_pos big (by omega : 0 < many)
    obtain ⟨r, hr⟩ := Int.eq_ofNat_of_zero_le q0
    exact ⟨by omega, ⟨by omega, by omega⟩, r, hr, by omega, hand_set hl e2 ne (by omega) (Int.ediv_nonneg (by omega) (by omega)) m0 m1 (by omega) (by omega) mh, same_set _⟩

/-! ### stores that grow -/
/-- what stood stands, but the hand at h -/
def Grow (h : Nat) (S S' : Store) : Prop := S.length ≤ S'.length ∧ ∀ j, j < S.length → j ≠ h → S'[j]? = S[j]?
theorem Grow.refl {h : Nat} {S : Store} : Grow h S S := ⟨Nat.le_refl _, fun _ _ _ => rfl⟩
theorem Grow.trans {h : Nat} {S S1 S2 : Store} (a : Grow h S S1) (b : Grow h S1 S2) : Grow h S S2 :=
  ⟨Nat.le_trans a.1 b.1, fun j hj hn => (b.2 j (Nat.lt_of_lt_of_le hj a.1) hn).trans (a.2 j hj hn)⟩
theorem Same1.grow {h : Nat} {S S' : Store} (s : Same1 h S S') : Grow h S S' := ⟨by rw [s.1]; exact Nat.le_refl _, fun j _ hn => s.2 j hn⟩
theorem Grow.app {h : Nat} {S : Store} (T : Store) : Grow h S (S ++ T) := ⟨by simp, fun j hj _ => List.getElem?_append_left hj⟩
theorem Grow.at {h : Nat} {S S' : Store} (g : Grow h S S') {j : Nat} {o : Ob} (e : S[j]? = some o) (hn : j ≠ h) : S'[j]? = some o := (g.2 j (List.getElem?_eq_some_iff.mp e).1 hn).trans e
theorem Hand.app {S : Store} {h n : Nat} (H : Hand S h n) (T : Store) : Hand (S ++ T) h n := by
  obtain ⟨m, cells, i, big, mix, cnt, e1, e2, r⟩ := H.ex
  exact ⟨m, cells, i, big, mix, cnt, by rw [List.getElem?_append_left (List.getElem?_eq_some_iff.mp e1).1]; exact e1, by rw [List.getElem?_append_left (List.getElem?_eq_some_iff.mp e2).1]; exact e2, r⟩
theorem Hand.more {S : Store} {h n n' : Nat} (H : Hand S h n) (le : n ≤ n') : Hand S h n' := by
  obtain ⟨m, cells, i, big, mix, cnt, e1, e2, ne, b0, m0, m1, c0, mh⟩ := H.ex
  exact ⟨m, cells, i, big, mix, cnt, e1, e2, ne, b0, m0, m1, Nat.le_trans c0 le, mh⟩
theorem Hand.lt {S : Store} {h n : Nat} (H : Hand S h n) : h < S.length := by
  obtain ⟨m, cells, i, big, mix, cnt, e1, _⟩ := H.ex
  exact (List.getElem?_eq_some_iff.mp e1).1
/-- another object than the hand's two is changed -/
theorem Hand.keep {S S' : Store} {h n : Nat} (H : Hand S h n) (k : ∀ (j : Nat) (o : Ob), S[j]? = some o → (∃ xs, o = Ob.lst xs) → S'[j]? = some o) : Hand S' h n := by
  obtain ⟨m, cells, i, big, mix, cnt, e1, e2, r⟩ := H.ex
  exact ⟨m, cells, i, big, mix, cnt, k _ _ e1 ⟨_, rfl⟩, k _ _ e2 ⟨_, rfl⟩, r⟩
theorem hand_ok (ns : List Int) (S : Store) : wO (g_law_hand [.frz (ns.map .int)] S) (fun v S' => v = .ref (S.length + 1) ∧ Hand S' (S.length + 1) 0 ∧ ∃ T, S' = S ++ T) noX := by
  simp [wO_fnB, g_law_hand, g_law_hand_s, LIM]
  exact ⟨S.length, ns, 0, 0, 1, 0, by simp [List.getElem?_append_right], by simp, by omega, by omega, by omega, by omega, Nat.le_refl _, by omega⟩
/-! ### odd things -/
def Fit (S : Store) (v : Val) : Prop := ∃ t, tyOf S v = some t
def Fit2 (S : Store) (v : Val) : Prop := Fit S v ∧ ∀ xs, v = .tup xs → ∀ x ∈ xs, Fit S x
theorem fit_non {S : Store} : Fit S .non := ⟨_, rfl⟩
theorem fit_bl {S : Store} (b : Bool) : Fit S (.bl b) := ⟨_, rfl⟩
theorem fit_int {S : Store} (b : Int) : Fit S (.int b) := ⟨_, rfl⟩
theorem fit_str {S : Store} (b : Str) : Fit S (.str b) := ⟨_, rfl⟩
theorem fit_tup {S : Store} (b : List Val) : Fit S (.tup b) := ⟨_, rfl⟩
theorem odd_ok {S : Store} {h n : Nat} (H : Hand S h n) (hn : n ≤ 1000000000) : wO (g_law_odd [.ref h] S) (fun v S' => Hand S' h (n + 1) ∧ Grow h S S' ∧ Fit2 S' v) noX := by
  simp [wO_fnB, g_law_odd, g_law_odd_s]
  refine (take_ok (many := 18) H (by omega) (by omega) hn).imp fun v S' ⟨r, e, hr, H', sm⟩ => ?_
  subst e
  have g := sm.grow
  have cp : CP 10 20 := ⟨by decide, by decide, by decide⟩
  rcases (show r = 0 ∨ r = 1 ∨ r = 2 ∨ r = 3 ∨ r = 4 ∨ r = 5 ∨ r = 6 ∨ r = 7 ∨ r = 8 ∨ r = 9 ∨ r = 10 ∨ r = 11 ∨ r = 12 ∨ r = 13 ∨ r = 14 ∨ r = 15 ∨ r = 16 ∨ r = 17 by omega) with
    rfl | rfl | rfl | rfl | rfl | rfl | rfl | rfl | rfl | rfl | rfl | rfl | rfl | rfl | rfl | rfl | rfl | rfl
  all_goals simp [LIM]
  all_goals first
    | refine ⟨H'.app _, g.trans (Grow.app _), ?_, fun xs e => ?_⟩
    | refine ⟨cp, H'.app _, g.trans (Grow.app _), ?_, fun xs e => ?_⟩
  all_goals first
    | exact ⟨_, rfl⟩
    | (cases e; done)
    | (cases e; simp [Fit, tyOf]; done)
    | (simp [Fit, tyOf, List.getElem?_append_right]; done)

/-! ### ties -/
structure Tm (kvs : List (List Key × Val)) (size : Nat) : Prop where
  nd : (kvs.map (·.1)).Nodup
  el : ∀ p ∈ kvs, ∃ a b w : Nat, p = ([.inl (a : Int), .inl (b : Int)], .int (w : Int)) ∧ a < b ∧ b < size ∧ w < 1000000
theorem Tm.put {kvs : List (List Key × Val)} {size a b w : Nat} (t : Tm kvs size) (h1 : a < b) (h2 : b < size) (h3 : w < 1000000) : Tm (putD kvs [.inl (a : Int), .inl (b : Int)] (.int (w : Int))) size :=
  ⟨putD_nodup t.nd, fun p hp => (putD_mem hp).elim (fun e => ⟨a, b, w, e, h1, h2, h3⟩) (t.el p)⟩
theorem Hand.setD {S : Store} {h n d : Nat} {kvs kvs' : List (List Key × Val)} (H : Hand S h n) (hd : S[d]? = some (.dt kvs)) : Hand (S.set d (.dt kvs')) h n :=
  H.keep fun j o e ⟨xs, e2⟩ => by
    subst e2
    have : d ≠ j := fun z => by subst z; rw [hd] at e; cases e
    rw [List.getElem?_set_ne this]; exact e
theorem Grow.setD {h d : Nat} {S0 S : Store} {o : Ob} (g : Grow h S0 S) (hd : S0.length ≤ d) : Grow h S0 (S.set d o) :=
  ⟨by rw [List.length_set]; exact g.1, fun j hj hn => by rw [List.getElem?_set_ne (by omega)]; exact g.2 j hj hn⟩
def Tinv (h size d shape span n : Nat) (S0 : Store) (more : Nat) (cov : Nat) (env : En) (S : Store) : Prop :=
  ∃ kvs o5 o6 o7 o8 o9 o10 o11, env = [some (.ref h), some (.int (size : Int)), some (.ref d), some (.int (shape : Int)), some (.int (span : Int)), o5, o6, o7, o8, o9, o10, o11] ∧ S[d]? = some (.dt kvs) ∧ Tm kvs size ∧ kvs.length ≤ more ∧
    (∀ b : Nat, 1 ≤ b → b ≤ cov → ∃ a : Nat, a < b ∧ [Sum.inl (a : Int), Sum.inl (b : Int)] ∈ kvs.map (·.1)) ∧ Hand S h n ∧ Grow h S0 S
/-- a tie as a value, its two houses -/
abbrev T3 : Type := Nat × Nat × Nat
def tieV (t : T3) : Val := .tup [.int (t.1 : Int), .int (t.2.1 : Int), .int (t.2.2 : Int)]
def tiesV (ts : List T3) : Val := .tup (ts.map tieV)
/-- ahead of: by the two houses -/
def pLt (s t : T3) : Prop := s.1 < t.1 ∨ (s.1 = t.1 ∧ s.2.1 < t.2.1)
structure Ties (size : Nat) (ts : List T3) : Prop where
  el : ∀ t ∈ ts, t.1 < t.2.1 ∧ t.2.1 < size ∧ t.2.2 < 1000000
  so : ts.Pairwise pLt
  cov : ∀ b, 1 ≤ b → b < size → ∃ a w, a < b ∧ (a, b, w) ∈ ts

end K00

set_option Elab.async false
set_option linter.all false
set_option maxRecDepth 100000
set_option maxHeartbeats 4000000
/-! The thing: what repr reads. -/
namespace K00
open PySem PySem.Spec PyProof.Rows L2 Mp
theorem readsR_mono {f g : Val → Option PyData} (h : ∀ x d, f x = some d → g x = some d) : ∀ (xs : List Val) (ds : List PyData), readsR f xs = some ds → readsR g xs = some ds
  | [], ds, e => e
  | x :: xs, ds, e => by
    simp only [readsR, Option.bind_eq_some_iff, Option.map_eq_some_iff] at e ⊢
    obtain ⟨d, e1, ds', e2, rfl⟩ := e
    exact ⟨d, h x d e1, ds', readsR_mono h xs ds' e2, rfl⟩
theorem readP_succ : ∀ (n : Nat) (S : Store) (x : Val) (d : PyData), readP n S x = some d → readP (n + 1) S x = some d
  | 0, S, x, d, e => by simp [readP] at e
  | n + 1, S, x, d, e => by
    have ih := readP_succ n S
    unfold readP at e ⊢
    cases x with
    | tup xs =>
      simp only [Option.map_eq_some_iff] at e ⊢
      obtain ⟨ds, e1, rfl⟩ := e
      exact ⟨ds, readsR_mono ih xs ds e1, rfl⟩
    | ref i =>
      simp only at e ⊢
      split at e
      · simp only [Option.map_eq_some_iff] at e ⊢
        obtain ⟨ds, e1, rfl⟩ := e
        exact ⟨ds, readsR_mono ih _ ds e1, rfl⟩
      · exact e
      · exact e
    | _ => exact e
theorem readP_le {S : Store} {x : Val} {d : PyData} {n m : Nat} (h : n ≤ m) (e : readP n S x = some d) : readP m S x = some d := by
  obtain ⟨k, rfl⟩ := Nat.exists_eq_add_of_le h
  induction k with
  | zero => exact e
  | succ k ih => exact readP_succ _ S x d (ih (by omega))
theorem readP_lst {n : Nat} {S : Store} {i : Nat} {xs : List Val} (e : S[i]? = some (.lst xs)) : readP (n + 1) S (.ref i) = (readsR (readP n S) xs).map PyData.list := by
  show (match S[i]? with
      | some (.lst xs) => (readsR (readP n S) xs).map PyData.list
      | some (.dk kvs) => if kvs.isEmpty = true then some (.dict []) else none
      | _ => none) = _
  rw [e]
theorem readP_dk {n : Nat} {S : Store} {i : Nat} (e : S[i]? = some (.dk [])) : readP (n + 1) S (.ref i) = some (.dict []) := by
  show (match S[i]? with
      | some (.lst xs) => (readsR (readP n S) xs).map PyData.list
      | some (.dk kvs) => if kvs.isEmpty = true then some (.dict []) else none
      | _ => none) = _
  rw [e]; rfl
/-- x reads as d, whatever is laid later and done to the hand -/
def Rds (h n : Nat) (S : Store) (x : Val) (d : PyData) : Prop := ∀ S', Grow h S S' → readP n S' x = some d
theorem Rds.grow {h n : Nat} {S S' : Store} {x : Val} {d : PyData} (r : Rds h n S x d) (g : Grow h S S') : Rds h n S' x d := fun S2 g2 => r S2 (g.trans g2)
def Bnd (k : Nat) (d : PyData) : Prop := d.showable = true ∧ d.shown.length ≤ 100 + 10 * k ∧ d.depth ≤ 5 + k ∧ PyData.strOk d.shown = true
theorem strOk_app (a b : Str) : PyData.strOk (a ++ b) = (PyData.strOk a && PyData.strOk b) := by
  show (a.cps ++ b.cps).all _ = _
  rw [Array.all_append]; rfl
theorem tup2_len (a b : Str) : (tupleText [a, b]).length = a.length + b.length + 4 := by
  unfold tupleText
  rw [strLen_append, strLen_append]
  show 1 + (a ++ ", " ++ b).length + 1 = _
  rw [strLen_append, strLen_append]
  show 1 + (a.length + 2 + b.length) + 1 = _
  omega
theorem lst2_len (a b : Str) : (listText [a, b]).length = a.length + b.length + 4 := by
  show ((("[" : Str) ++ ("" : Str) ++ a) ++ (", " : Str) ++ b ++ ("]" : Str)).length = _
  rw [strLen_append, strLen_append, strLen_append, strLen_append, strLen_append]
  show 1 + 0 + a.length + 2 + b.length + 1 = _
  omega
theorem small_len : ∀ k : Nat, k < 40 → (PyData.int (k : Int)).shown.length ≤ 2 ∧ (PyData.int (k : Int)).showable = true ∧ PyData.strOk (PyData.int (k : Int)).shown = true := by decide +kernel
theorem Bnd.tup {k i : Nat} {d : PyData} (b : Bnd k d) (hi : i < 40) : Bnd (k + 1) (.tuple [d, .int (i : Int)]) := by
  obtain ⟨h1, h2, h3, h4⟩ := b
  obtain ⟨l1, l2, l4⟩ := small_len i hi
  refine ⟨?_, ?_, ?_, ?_⟩
  · simp only [PyData.showable, PyData.showableAll, h1, Bool.true_and, Bool.and_true] at l2 ⊢
    exact l2
  · simp only [PyData.shown, PyData.shownAll] at l1 h2 ⊢
    rw [tup2_len]
    omega
  · simp only [PyData.depth, PyData.depthAll]
    omega
  · show PyData.strOk (("(" : Str) ++ (d.shown ++ (", " : Str) ++ (PyData.int (i : Int)).shown) ++ (")" : Str)) = true
    simp only [strOk_app, h4, l4, Bool.true_and, Bool.and_true]
    decide +kernel
theorem Bnd.lst {k i : Nat} {d : PyData} (b : Bnd k d) (hi : i < 40) : Bnd (k + 1) (.list [.int (i : Int), d]) := by
  obtain ⟨h1, h2, h3, h4⟩ := b
  obtain ⟨l1, l2, l4⟩ := small_len i hi
  refine ⟨?_, ?_, ?_, ?_⟩
  · simp only [PyData.showable, PyData.showableAll, h1, Bool.true_and, Bool.and_true] at l2 ⊢
    exact l2
  · simp only [PyData.shown, PyData.shownAll] at l1 h2 ⊢
    rw [lst2_len]
    omega
  · simp only [PyData.depth, PyData.depthAll]
    omega
  · show PyData.strOk ((("[" : Str) ++ ("" : Str) ++ (PyData.int (i : Int)).shown) ++ (", " : Str) ++ d.shown ++ ("]" : Str)) = true
    simp only [strOk_app, h4, l4, Bool.true_and, Bool.and_true]
    decide +kernel
def Odd (h k n : Nat) (S : Store) (v : Val) : Prop := ∃ d, Rds h n S v d ∧ Bnd k d
theorem Odd.grow {h k n : Nat} {S S' : Store} {v : Val} (o : Odd h k n S v) (g : Grow h S S') : Odd h k n S' v := let ⟨d, r, b⟩ := o; ⟨d, r.grow g, b⟩
theorem Odd.val {h n : Nat} {S : Store} {v : Val} {d : PyData} (e : ∀ S', readP n S' v = some d) (b : Bnd 0 d) : Odd h 0 n S v := ⟨d, fun S' _ => e S', b⟩
theorem odd2_ok {S : Store} {h n : Nat} (H : Hand S h n) (hn : n ≤ 1000000000) : wO (g_law_odd [.ref h] S) (fun v S' => Hand S' h (n + 1) ∧ Grow h S S' ∧ Odd h 0 3 S' v) noX := by
  simp [wO_fnB, g_law_odd, g_law_odd_s]
  refine (take_ok (many := 18) H (by omega) (by omega) hn).imp fun v S' ⟨r, e, hr, H', sm⟩ => ?_
  subst e
  have g := sm.grow
  have hl := H'.lt
  have cp : CP 10 20 := ⟨by decide, by decide, by decide⟩
  have ref : ∀ (T : Store) (i : Nat) (d : PyData) (o : Ob), (S' ++ T)[S'.length + i]? = some o → (∀ S2 : Store, S2[S'.length + i]? = some o → readP 3 S2 (.ref (S'.length + i)) = some d) → Bnd 0 d → Odd h 0 3 (S' ++ T) (.ref (S'.length + i)) :=
    fun T i d o e r b => ⟨d, fun S2 g2 => r S2 (g2.at e (by omega)), b⟩
  rcases (show r = 0 ∨ r = 1 ∨ r = 2 ∨ r = 3 ∨ r = 4 ∨ r = 5 ∨ r = 6 ∨ r = 7 ∨ r = 8 ∨ r = 9 ∨ r = 10 ∨ r = 11 ∨ r = 12 ∨ r = 13 ∨ r = 14 ∨ r = 15 ∨ r = 16 ∨ r = 17 by omega) with
    rfl | rfl | rfl | rfl | rfl | rfl | rfl | rfl | rfl | rfl | rfl | rfl | rfl | rfl | rfl | rfl | rfl | rfl
  all_goals simp [LIM]
  all_goals first
    | refine ⟨H'.app _, g.trans (Grow.app _), ?_⟩
    | refine ⟨cp, H'.app _, g.trans (Grow.app _), ?_⟩
  · exact .val (fun _ => rfl) (by unfold Bnd; decide +kernel)
  · exact .val (fun _ => rfl) (by unfold Bnd; decide +kernel)
  · exact .val (fun _ => rfl) (by unfold Bnd; decide +kernel)
  · exact .val (fun _ => rfl) (by unfold Bnd; decide +kernel)
  · exact .val (fun _ => rfl) (by unfold Bnd; decide +kernel)
  · exact .val (fun _ => rfl) (by unfold Bnd; decide +kernel)
  · exact .val (fun _ => rfl) (by unfold Bnd; decide +kernel)
  · exact ref _ 0 (.list []) (.lst []) (by simp) (fun S2 e => by rw [readP_lst e]; rfl) (by unfold Bnd; decide +kernel)
  · exact ref _ 1 (.dict []) (.dk []) (by simp) (fun S2 e => by rw [readP_dk e]) (by unfold Bnd; decide +kernel)
  · exact .val (fun _ => rfl) (by unfold Bnd; decide +kernel)
  · exact ref _ 2 (.list [.int 0, .int 0]) (.lst [.int 0, .int 0]) (by simp) (fun S2 e => by rw [readP_lst e]; rfl) (by unfold Bnd; decide +kernel)
  · exact .val (fun _ => rfl) (by unfold Bnd; decide +kernel)
  · exact .val (fun _ => rfl) (by unfold Bnd; decide +kernel)
  · exact .val (fun _ => rfl) (by unfold Bnd; decide +kernel)
  · exact .val (fun _ => rfl) (by unfold Bnd; decide +kernel)
  · exact .val (fun _ => rfl) (by unfold Bnd; decide +kernel)
  · exact .val (fun _ => rfl) (by unfold Bnd; decide +kernel)
  · exact .val (fun _ => rfl) (by unfold Bnd; decide +kernel)
end K00

set_option Elab.async false
set_option linter.all false
set_option maxRecDepth 100000
set_option maxHeartbeats 4000000
/-! The thing in its boxes. -/
namespace K00
open PySem PySem.Spec PyProof.Rows L2 Mp
theorem Rds.tup {h n i : Nat} {S : Store} {v : Val} {d : PyData} (r : Rds h n S v d) : Rds h (n + 1 + 1) S (.tup [v, .int (i : Int)]) (.tuple [d, .int (i : Int)]) := fun S' g => by
  have e := readP_succ _ _ _ _ (r S' g)
  show (readsR (readP (n + 1) S') [v, .int (i : Int)]).map PyData.tuple = _
  simp only [readsR, e]
  rfl
theorem Rds.lst {h n i p : Nat} {S : Store} {v : Val} {d : PyData} (r : Rds h n S v d) (e : S[p]? = some (.lst [.int (i : Int), v])) (hp : p ≠ h) : Rds h (n + 1 + 1) S (.ref p) (.list [.int (i : Int), d]) := fun S' g => by
  have e1 := readP_succ _ _ _ _ (r S' g)
  rw [readP_lst (g.at e hp)]
  simp only [readsR, e1]
  rfl
theorem upk {n i : Nat} {x : Val} (h : (upL 0 n)[i]? = some x) : i < n ∧ x = .int (i : Int) := by
  unfold upL at h
  rw [List.getElem?_map] at h
  obtain ⟨k, h1, rfl⟩ := Option.map_eq_some_iff.mp h
  have hi := (List.getElem?_eq_some_iff.mp h1).1
  rw [List.length_range] at hi
  rw [List.getElem?_range hi] at h1
  cases h1
  exact ⟨hi, by simp⟩
theorem upl (n : Nat) : (upL 0 n).length = n := by simp [upL]
def Tv (h c : Nat) (S0 : Store) (i : Nat) (env : En) (S : Store) : Prop := ∃ v o n, env = [some (.ref h), some v, o] ∧ Odd h i (3 + 2 * i) S v ∧ Hand S h n ∧ n ≤ c + i ∧ Grow h S0 S
theorem thing_ok {S : Store} {h n : Nat} (H : Hand S h n) (hn : n ≤ 900000000) : wO (g_law_thing [.ref h] S) (fun v S' => Grow h S S' ∧ ∃ k, k < 40 ∧ Odd h k (3 + 2 * k) S' v ∧ Hand S' h (n + 50)) noX := by
  simp [wO_fnB, g_law_thing, g_law_thing_s]
  refine (odd2_ok H (by omega)).imp fun v S1 z => ?_
  obtain ⟨H1, g1, o1⟩ := z
  simp [wR_sFor]
  refine (take_ok (many := 38) H1 (by omega) (by omega) (by omega)).imp fun u S2 z => ?_
  obtain ⟨r, rfl, hr, H2, sm⟩ := z
  simp [RNG]
  refine ⟨by omega, ?_⟩
  refine wR_forX (upL 0 r) (Tv h (n + 2) S) ?_ (fun i x e S' hx I => ?_) (fun e S' I => ?_)
  · exact ⟨v, _, _, rfl, o1.grow sm.grow, H2, by omega, g1.trans sm.grow⟩
  · obtain ⟨v, o, m, rfl, od, Hm, hm, g⟩ := I
    obtain ⟨hi, rfl⟩ := upk hx
    refine ⟨trivial, _, rfl, ?_⟩
    simp [g_law_thing_b1]
    refine (take_ok (many := 2) Hm (by omega) (by omega) (by omega)).imp fun u S3 z => ?_
    obtain ⟨q, rfl, hq, H3, sm3⟩ := z
    obtain ⟨d, rd, bd⟩ := od.grow sm3.grow
    by_cases h0 : q = 0
    · subst h0
      simp
      exact ⟨by simp [LIM], _, _, m + 1, rfl, ⟨_, rd.tup, bd.tup (by omega)⟩, H3, by omega, g.trans sm3.grow⟩
    · simp [h0]
      have l3 := H3.lt
      refine ⟨by simp [LIM], _, _, m + 1, rfl, ⟨_, (rd.grow (Grow.app _)).lst (i := i) (p := S3.length) (by simp) (by omega), bd.lst (by omega)⟩, H3.app _, by omega, (g.trans sm3.grow).trans (Grow.app _)⟩
  · obtain ⟨v, o, m, rfl, od, Hm, hm, g⟩ := I
    rw [upl] at od hm
    refine ⟨trivial, ?_⟩
    simp
    exact ⟨g, r, by omega, od, Hm.more (by omega)⟩
end K00

set_option Elab.async false
set_option linter.all false
set_option maxRecDepth 100000
set_option maxHeartbeats 4000000
/-! All the errors, each once. -/
namespace K00
open PySem PySem.Spec PyProof.Rows L2 Mp
def nms : List Str := ["BadWeb", "NoHouse", "NoTie", "NoTree", "NotAsleep", "NoWord", "NoGlass", "NoMove", "NoChoices", "NoValues", "Wanted", "NoWay", "BadRecord", "NoMoment", "NoNumber", "NoState", "NoParcel", "NoRow", "BadRow", "NoCut", "NoBlocks", "NoDeed", "NoPast", "NoDisk", "OtherHouse", "BadDeeds", "BadText", "BadMoves", "NoLine", "NoName"]
def flds : List (List Str) := [["part"], [], [], [], [], [], [], [], ["index"], [], [], [], ["index"], [], [], [], [], [], ["place"], [], [], [], [], [], [], ["index"], ["line"], ["index"], [], ["name"]]
def exoN (v : Val) (c : Str) (fs : List Str) : Ob := .exo c (fs.map fun f => (f, v))
/-- a list of the errors at e -/
def Errs (S : Store) (e : Nat) (v : Val) : Prop := ∃ rs : List Nat, S[e]? = some (.lst (rs.map Val.ref)) ∧ rs.length = 30 ∧ ∀ i < 30, ∃ r c fs, rs[i]? = some r ∧ nms[i]? = some c ∧ flds[i]? = some fs ∧ S[r]? = some (exoN v c fs)
theorem all_errs {S : Store} {v : Val} : ∃ x S', g_law_all [v] S = .ok x S' ∧ ∃ T e, S' = S ++ T ∧ x = .ref e ∧ S.length ≤ e ∧ Errs S' e v := by
  refine wO_ok ?_
  simp [wO_fnB, g_law_all, g_law_all_s]
  simp only [LIM]
  refine ⟨by decide, by decide, by decide, by decide, by decide, by decide, [S.length + 0, S.length + 1, S.length + 2, S.length + 3, S.length + 4, S.length + 5, S.length + 6, S.length + 7, S.length + 8, S.length + 10, S.length + 11, S.length + 12, S.length + 13, S.length + 14, S.length + 15, S.length + 16, S.length + 17, S.length + 18, S.length + 20, S.length + 21, S.length + 22, S.length + 23, S.length + 24, S.length + 25, S.length + 26, S.length + 27, S.length + 31, S.length + 32, S.length + 33, S.length + 34], by simp, rfl, fun i hi => ?_⟩
  rcases (show i = 0 ∨ i = 1 ∨ i = 2 ∨ i = 3 ∨ i = 4 ∨ i = 5 ∨ i = 6 ∨ i = 7 ∨ i = 8 ∨ i = 9 ∨ i = 10 ∨ i = 11 ∨ i = 12 ∨ i = 13 ∨ i = 14 ∨ i = 15 ∨ i = 16 ∨ i = 17 ∨ i = 18 ∨ i = 19 ∨ i = 20 ∨ i = 21 ∨ i = 22 ∨ i = 23 ∨ i = 24 ∨ i = 25 ∨ i = 26 ∨ i = 27 ∨ i = 28 ∨ i = 29 by omega) with rfl | rfl | rfl | rfl | rfl | rfl | rfl | rfl | rfl | rfl | rfl | rfl | rfl | rfl | rfl | rfl | rfl | rfl | rfl | rfl | rfl | rfl | rfl | rfl | rfl | rfl | rfl | rfl | rfl | rfl
  all_goals exact ⟨_, _, _, rfl, rfl, rfl, by simp [exoN]⟩
end K00

set_option Elab.async false
set_option linter.all false
set_option maxRecDepth 100000
set_option maxHeartbeats 4000000
/-! Their marks and fields. -/
namespace K00
open PySem PySem.Spec PyProof.Rows L2 Mp
theorem wO_kIsE {S : Store} {P : Val → Store → Prop} {E : XO} {m : Str → Bool} {x : Val} {c : Str} {fs : List (Str × Val)} (h : exOf S x = some (c, fs)) : wO (kIsE m x S) P E = P (.bl (m c)) S := by
  simp only [kIsE, h]; rfl
theorem exOf_at {S : Store} {i : Nat} {c : Str} {fs : List (Str × Val)} (h : S[i]? = some (.exo c fs)) : exOf S (.ref i) = some (c, fs) := by
  simp only [exOf, h]
theorem exOf_app {S : Store} {x : Val} {p : Str × List (Str × Val)} (T : Store) (h : exOf S x = some p) : exOf (S ++ T) x = some p := by
  unfold exOf at h ⊢
  split at h
  · rename_i i
    split at h
    · rename_i c fs e
      rw [List.getElem?_append_left (List.getElem?_eq_some_iff.mp e).1, e]
      exact h
    · cases h
  · cases h
def marksOf (c : Str) : List Val := nms.map fun n => .bl (c == n)
theorem marks_ok {S : Store} {x : Val} {c : Str} {fs : List (Str × Val)} (h : exOf S x = some (c, fs)) : wO (g_law_marks [x] S) (fun u S' => ∃ T e, S' = S ++ T ∧ u = .ref e ∧ S.length ≤ e ∧ S'[e]? = some (.lst (marksOf c))) noX := by
  have w0 : ∀ {P : Val → Store → Prop} {E : XO} {m : Str → Bool}, wO (kIsE m x S) P E = P (.bl (m c)) S := wO_kIsE h
  have w1 : ∀ {T : Store} {P : Val → Store → Prop} {E : XO} {m : Str → Bool}, wO (kIsE m x (S ++ T)) P E = P (.bl (m c)) (S ++ T) := wO_kIsE (exOf_app _ h)
  simp [wO_fnB, g_law_marks, g_law_marks_s, w0, w1]
  simp only [LIM]
  exact ⟨by decide, by decide, by decide, by decide, by decide, by decide, rfl⟩
theorem wO_kFldE {S : Store} {P : Val → Store → Prop} {E : XO} {cs : List Str} {n : Str} {x w : Val} {c : Str} {fs : List (Str × Val)} (h : exOf S x = some (c, fs)) (hc : cs.contains c = true) (hl : fs.lookup n = some w) : wO (kFldE cs n x S) P E = P w S := by
  simp only [kFldE, h, if_pos hc, hl]; rfl
theorem Errs.at {S : Store} {rs : List Nat} {v : Val} (h3 : ∀ i < 30, ∃ r c fs, rs[i]? = some r ∧ nms[i]? = some c ∧ flds[i]? = some fs ∧ S[r]? = some (exoN v c fs)) (i : Nat) (c f : Str) (hi : i < 30) (hc : nms[i]? = some c) (hf : flds[i]? = some [f]) : ∃ r, rs[i]? = some r ∧ exOf S (.ref r) = some (c, [(f, v)]) := by
  obtain ⟨r, c', fs, e1, e2, e3, e4⟩ := h3 i hi
  rw [hc] at e2; cases e2
  rw [hf] at e3; cases e3
  exact ⟨r, e1, exOf_at e4⟩
theorem alien_ok {S : Store} {x : Val} {c : Str} {fs : List (Str × Val)} (h : exOf S x = some (c, fs)) : wO (g_law_alien [x] S) (fun u S' => S' = S ∧ u = .bl false) noX := by
  have w0 : ∀ {P : Val → Store → Prop} {E : XO} {m : Str → Bool}, wO (kIsE m x S) P E = P (.bl (m c)) S := wO_kIsE h
  simp [wO_fnB, g_law_alien, g_law_alien_s, w0]
theorem fields_ok {S : Store} {e : Nat} {v : Val} (h : Errs S e v) : wO (g_law_fields [.ref e] S) (fun u S' => ∃ T p, S' = S ++ T ∧ u = .ref p ∧ S'[p]? = some (.lst (List.replicate 8 v))) noX := by
  obtain ⟨rs, h1, h2, h3⟩ := h
  obtain ⟨r0, a0, b0⟩ := Errs.at h3 0 "BadWeb" "part" (by decide) rfl rfl
  obtain ⟨r1, a1, b1⟩ := Errs.at h3 8 "NoChoices" "index" (by decide) rfl rfl
  obtain ⟨r2, a2, b2⟩ := Errs.at h3 12 "BadRecord" "index" (by decide) rfl rfl
  obtain ⟨r3, a3, b3⟩ := Errs.at h3 18 "BadRow" "place" (by decide) rfl rfl
  obtain ⟨r4, a4, b4⟩ := Errs.at h3 25 "BadDeeds" "index" (by decide) rfl rfl
  obtain ⟨r5, a5, b5⟩ := Errs.at h3 26 "BadText" "line" (by decide) rfl rfl
  obtain ⟨r6, a6, b6⟩ := Errs.at h3 27 "BadMoves" "index" (by decide) rfl rfl
  obtain ⟨r7, a7, b7⟩ := Errs.at h3 29 "NoName" "name" (by decide) rfl rfl
  have k0 : ∀ {P : Val → Store → Prop} {E : XO}, wO (kFldE ["BadWeb"] "part" (.ref r0) S) P E = P v S := wO_kFldE b0 (by decide) rfl
  have k1 : ∀ {P : Val → Store → Prop} {E : XO}, wO (kFldE ["NoChoices", "BadRecord", "BadDeeds", "BadMoves"] "index" (.ref r1) S) P E = P v S := wO_kFldE b1 (by decide) rfl
  have k2 : ∀ {P : Val → Store → Prop} {E : XO}, wO (kFldE ["NoChoices", "BadRecord", "BadDeeds", "BadMoves"] "index" (.ref r2) S) P E = P v S := wO_kFldE b2 (by decide) rfl
  have k3 : ∀ {P : Val → Store → Prop} {E : XO}, wO (kFldE ["BadRow"] "place" (.ref r3) S) P E = P v S := wO_kFldE b3 (by decide) rfl
  have k4 : ∀ {P : Val → Store → Prop} {E : XO}, wO (kFldE ["NoChoices", "BadRecord", "BadDeeds", "BadMoves"] "index" (.ref r4) S) P E = P v S := wO_kFldE b4 (by decide) rfl
  have k5 : ∀ {P : Val → Store → Prop} {E : XO}, wO (kFldE ["BadText"] "line" (.ref r5) S) P E = P v S := wO_kFldE b5 (by decide) rfl
  have k6 : ∀ {T : Store} {P : Val → Store → Prop} {E : XO}, wO (kFldE ["NoChoices", "BadRecord", "BadDeeds", "BadMoves"] "index" (.ref r6) (S ++ T)) P E = P v (S ++ T) := wO_kFldE (exOf_app _ b6) (by decide) rfl
  have k7 : ∀ {T : Store} {P : Val → Store → Prop} {E : XO}, wO (kFldE ["NoName"] "name" (.ref r7) (S ++ T)) P E = P v (S ++ T) := wO_kFldE (exOf_app _ b7) (by decide) rfl
  have h1' : ∀ T : Store, (S ++ T)[e]? = some (.lst (rs.map Val.ref)) := fun T => by rw [List.getElem?_append_left (List.getElem?_eq_some_iff.mp h1).1]; exact h1
  simp [wO_fnB, g_law_fields, g_law_fields_s, h1, h1', a0, a1, a2, a3, a4, a5, a6, a7, k0, k1, k2, k3, k4, k5, k6, k7]
  simp only [LIM]
  decide
end K00

set_option Elab.async false
set_option linter.all false
set_option maxRecDepth 100000
set_option maxHeartbeats 4000000
/-! Raised and caught. -/
namespace K00
open PySem PySem.Spec PyProof.Rows L2 Mp
theorem eq_of_wO {α : Type} {o : Out α} {S : Store} {v : α} (h : wO o (fun x S' => x = v ∧ S' = S) noX) : o = .ok v S := by
  obtain ⟨_, _, e, rfl, rfl⟩ := wO_ok h
  exact e
theorem caught_ok {S : Store} {k : Nat} {v : Val} (hk : k < 8) : g_law_caught [.int (k : Int), v] S = .ok (.tup [.int (k : Int), v]) S := by
  refine eq_of_wO ?_
  rcases (show k = 0 ∨ k = 1 ∨ k = 2 ∨ k = 3 ∨ k = 4 ∨ k = 5 ∨ k = 6 ∨ k = 7 by omega) with rfl | rfl | rfl | rfl | rfl | rfl | rfl | rfl
  all_goals simp [wO_fnB, g_law_caught, g_law_caught_s, wR_sTryM, g_law_raise, g_law_raise_s, wHA]
  all_goals simp (decide := true) [LIM]
theorem based_ok {S : Store} {k : Nat} {v : Val} (hk : k < 8) : g_law_based [.int (k : Int), v] S = .ok (.bl true) S := by
  refine eq_of_wO ?_
  rcases (show k = 0 ∨ k = 1 ∨ k = 2 ∨ k = 3 ∨ k = 4 ∨ k = 5 ∨ k = 6 ∨ k = 7 by omega) with rfl | rfl | rfl | rfl | rfl | rfl | rfl | rfl
  all_goals simp [wO_fnB, g_law_based, g_law_based_s, wR_sTry, g_law_raise, g_law_raise_s, wH]
  all_goals first | done | simp (decide := true) [LIM]
end K00

set_option Elab.async false
set_option linter.all false
set_option maxRecDepth 100000
set_option maxHeartbeats 4000000
/-! Each error is of its own class alone. -/
namespace K00
open PySem PySem.Spec PyProof.Rows L2 Mp
theorem one_of : ∀ k : Nat, k < 30 → ((List.range 30).filter fun j => nms[j]? == nms[k]?) = [k] := by decide +kernel
theorem upn (n : Nat) : upL 0 n = (List.range n).map fun k : Nat => Val.int (k : Int) := by
  unfold upL
  refine List.map_congr_left fun k _ => by simp
theorem Errs.app {S : Store} {e : Nat} {v : Val} (h : Errs S e v) (T : Store) : Errs (S ++ T) e v := by
  obtain ⟨rs, h1, h2, h3⟩ := h
  refine ⟨rs, by rw [List.getElem?_append_left (List.getElem?_eq_some_iff.mp h1).1]; exact h1, h2, fun i hi => ?_⟩
  obtain ⟨r, c, fs, e1, e2, e3, e4⟩ := h3 i hi
  exact ⟨r, c, fs, e1, e2, e3, by rw [List.getElem?_append_left (List.getElem?_eq_some_iff.mp e4).1]; exact e4⟩
/-- the slots while the errors are asked -/
def Lv (a b c d f : Val) (e : Nat) (env : En) : Prop := ∃ o6 o7 o8 o9 o10, env = [some a, some b, some c, some d, some f, some (.ref e), o6, o7, o8, o9, o10]
def In1 (S0 : Store) (S : Store) : Prop := ∃ T, S = S0 ++ T
theorem In1.app {S0 S : Store} (h : In1 S0 S) (T : Store) : In1 S0 (S ++ T) := by obtain ⟨U, rfl⟩ := h; exact ⟨U ++ T, by simp⟩
theorem b2_ok {S : Store} {a b c0 d f v : Val} {e k : Nat} {env : En} (hk : k < 30) (E : Errs S e v) (L : Lv a b c0 d f e env) :
    wR (g_law_b2 (env.set 6 (some (.int (k : Int)))) S) ⟨fun env' S' => Lv a b c0 d f e env' ∧ In1 S S', fun _ _ => False, fun _ _ => False, fun env' S' => Lv a b c0 d f e env' ∧ In1 S S', fun _ _ _ _ => False⟩ := by
  obtain ⟨o6, o7, o8, o9, o10, rfl⟩ := L
  obtain ⟨rs, h1, h2, h3⟩ := E
  obtain ⟨r, c, fs, e1, e2, e3, e4⟩ := h3 k hk
  have ex := exOf_at (i := r) e4
  have w0 : ∀ {P : Val → Store → Prop} {E : XO} {m : Str → Bool}, wO (kIsE m (.ref r) S) P E = P (.bl (m c)) S := wO_kIsE ex
  have hc : c ∈ nms := List.mem_of_getElem? e2
  have hin : (["RoadError", "BadWeb", "NoHouse", "NoTie", "NoTree", "NotAsleep", "NoWord", "NoGlass", "NoMove", "NoChoices", "NoValues", "Wanted", "NoWay", "BadRecord", "NoMoment", "NoNumber", "NoState", "NoParcel", "NoRow", "BadRow", "NoCut", "NoBlocks", "NoDeed", "NoPast", "NoDisk", "OtherHouse", "BadDeeds", "BadText", "BadMoves", "NoLine", "NoName"] : List Str).contains c = true := List.elem_eq_true_of_mem (List.mem_cons_of_mem _ hc)
  unfold g_law_b2
  generalize hm : (fun q => (["RoadError", "BadWeb", "NoHouse", "NoTie", "NoTree", "NotAsleep", "NoWord", "NoGlass", "NoMove", "NoChoices", "NoValues", "Wanted", "NoWay", "BadRecord", "NoMoment", "NoNumber", "NoState", "NoParcel", "NoRow", "BadRow", "NoCut", "NoBlocks", "NoDeed", "NoPast", "NoDisk", "OtherHouse", "BadDeeds", "BadText", "BadMoves", "NoLine", "NoName"] : List Str).contains q) = mb
  have hmb : mb c = true := by rw [← hm]; exact hin
  have al : ∀ {P : Val → Store → Prop}, P (.bl false) S → wO (g_law_alien [.ref r] S) P noX := fun p => (alien_ok ex).imp fun u S' z => by obtain ⟨rfl, rfl⟩ := z; exact p
  simp -dsimp [h1, e1, w0, hmb]
  refine al ?_
  simp -dsimp [h1, e1]
  refine (marks_ok ex).imp fun u S1 z => ?_
  obtain ⟨T, p, rfl, rfl, lp, hp⟩ := z
  simp -dsimp [hp, wO_lc]
  have lm : (marksOf c).length = 30 := by unfold marksOf; rw [List.length_map]; rfl
  have rg : RNG = 1152921504606846976 := by unfold RNG; decide
  refine ⟨by rw [lm, rg]; decide, ?_⟩
  rw [lm]
  have ea : S ++ (T ++ [Ob.lst []]) = (S ++ T) ++ [Ob.lst []] := by simp
  have el : S.length + T.length = (S ++ T).length := by simp
  rw [ea, el]
  have mk : ∀ j : Nat, j < 30 → (marksOf c)[j]? = some (.bl (nms[j]? == some c)) := fun j hj => by
    unfold marksOf
    rw [List.getElem?_map, List.getElem?_eq_getElem (show j < nms.length from hj)]
    simp
    exact Bool.eq_iff_iff.mpr (by simp; exact eq_comm)
  refine wO_lcP (fun x => match x with | .int j => nms[j.toNat]? == some c | _ => false) (fun x => x) (by simp [upl, LIM]) (fun _ => trivial) (fun x hx l => ?_) ?_
  · obtain ⟨j, hj⟩ := List.getElem?_of_mem hx
    obtain ⟨hj30, rfl⟩ := upk hj
    have h9 : (S ++ T ++ [Ob.lst l])[p]? = some (.lst (marksOf c)) := by rw [List.getElem?_append_left (List.getElem?_eq_some_iff.mp hp).1]; exact hp
    refine ⟨_, rfl, ?_, fun _ => ?_⟩
    · rw [List.append_assoc] at h9
      refine eq_of_wO ?_
      simp -dsimp [h9, mk j hj30, wipeE]
    · rfl
  · have fl : ((upL 0 30).filter fun x => match x with | .int j => nms[j.toNat]? == some c | _ => false) = [.int (k : Int)] := by
      rw [upn, List.filter_map]
      have := one_of k hk
      rw [e2] at this
      show List.map _ (List.filter (fun j : Nat => nms[j]? == some c) (List.range 30)) = _
      rw [this]
      rfl
    rw [fl]
    have l1 : (S ++ (T ++ [Ob.lst [Val.int (k : Int)], Ob.lst [Val.int (k : Int)]]))[S.length + T.length]? = some (.lst [.int (k : Int)]) := by simp
    have l2 : (S ++ (T ++ [Ob.lst [Val.int (k : Int)], Ob.lst [Val.int (k : Int)]]))[S.length + (T.length + 1)]? = some (.lst [.int (k : Int)]) := by simp
    simp [eqv1_lists l1 l2 (by simp [clbs, clb]) (by simp [deps, dep])]
    exact ⟨by simp [LIM], ⟨_, _, _, _, _, rfl⟩, ⟨_, rfl⟩⟩
end K00

set_option Elab.async false
set_option linter.all false
set_option maxRecDepth 100000
set_option maxHeartbeats 4000000
/-! The law. -/
namespace K00
open PySem PySem.Spec PyProof.Rows L2 Mp
theorem In1.grow {h : Nat} {S S' : Store} (i : In1 S S') : Grow h S S' := by obtain ⟨T, rfl⟩ := i; exact Grow.app T
theorem In1.trans {S S1 S2 : Store} (a : In1 S S1) (b : In1 S1 S2) : In1 S S2 := by
  obtain ⟨T, rfl⟩ := a
  obtain ⟨U, rfl⟩ := b
  exact ⟨T ++ U, by simp⟩
theorem In1.refl {S : Store} : In1 S S := ⟨[], by simp⟩
theorem Errs.in1 {S S' : Store} {e : Nat} {v : Val} (h : Errs S e v) (i : In1 S S') : Errs S' e v := by obtain ⟨T, rfl⟩ := i; exact h.app T
theorem Rds.rep {h n k : Nat} {S : Store} {v : Val} {d : PyData} (r : Rds h n S v d) (hn : n ≤ 100) (b : Bnd k d) (hk : k ≤ 40) {P : Val → Store → Prop} {E : XO} {S' : Store} (g : Grow h S S') : wO (kRepr v S') P E = P (.str d.shown) S' := by
  obtain ⟨b1, b2, b3, _⟩ := b
  have sz : 500 ≤ sizeLine := by rw [sizeLine_eq]; decide
  exact wO_kRepr (readP_le hn (r S' g)) ⟨b1, by omega, by omega⟩
theorem eq_str {S : Store} (x : Str) (h : PyData.strOk x = true) : eqv1 S (.str x) (.str x) = some true := by
  rw [eqv1_cln (by simpa [cln] using h) (by simpa [cln] using h) (by simp [dep]) (by simp [dep])]
  simp
theorem loop1 {S : Store} {a b c0 d f v : Val} {e : Nat} {env : En} {R : RP} (E : Errs S e v) (L : Lv a b c0 d f e env) (hn : ∀ env' S', Lv a b c0 d f e env' → In1 S S' → R.nx env' S') : wR (forX (fun _ => True) (gN 6) g_law_b2 (upL 0 30) env S) R := by
  refine wR_forX (upL 0 30) (fun _ env' S' => Lv a b c0 d f e env' ∧ In1 S S') ⟨L, .refl⟩ (fun i x env' S' hx I => ?_) (fun env' S' I => ⟨trivial, hn _ _ I.1 I.2⟩)
  obtain ⟨L', g⟩ := I
  obtain ⟨hi, rfl⟩ := upk hx
  refine ⟨trivial, env'.set 6 (some (.int (i : Int))), ?_, ?_⟩
  · obtain ⟨_, _, _, _, _, rfl⟩ := L'
    rfl
  · refine wR.mono (b2_ok hi (E.in1 g) L') (fun _ _ z => ⟨z.1, g.trans z.2⟩) (fun _ _ z => z.elim) (fun _ _ z => z.elim) (fun _ _ z => ⟨z.1, g.trans z.2⟩) (fun _ _ _ _ z => z.elim)
open Classical in
theorem law_w' (ns : List Int) (gA gC gB : Fn) (hA : g_law_all = gA) (hC : g_law_caught = gC) (hB : g_law_based = gB) (all : ∀ S v, ∃ x S', gA [v] S = .ok x S' ∧ ∃ T e, S' = S ++ T ∧ x = .ref e ∧ S.length ≤ e ∧ Errs S' e v)
    (cau : ∀ (S : Store) (k : Nat) (v : Val), k < 8 → gC [.int (k : Int), v] S = .ok (.tup [.int (k : Int), v]) S) (bas : ∀ (S : Store) (k : Nat) (v : Val), k < 8 → gB [.int (k : Int), v] S = .ok (.bl true) S) : wO (g_law [.frz (ns.map .int)] []) (fun v _ => v = .bl true) noX := by
  simp -dsimp [wO_fnB, g_law, g_law_s, hA, hC, hB]
  refine (hand_ok ns []).imp fun v S1 z => ?_
  obtain ⟨rfl, H1, _⟩ := z
  simp -dsimp at H1 ⊢
  refine (take_ok (many := 8) H1 (by omega) (by omega) (by omega)).imp fun v S2 z => ?_
  obtain ⟨w, rfl, hw, H2, sm⟩ := z
  simp -dsimp
  refine (thing_ok H2 (by omega)).imp fun v S3 z => ?_
  obtain ⟨g3, k, hk, ⟨d, rd, bd⟩, H3⟩ := z
  have rep : ∀ {P : Val → Store → Prop} {E : XO} {S' : Store}, Grow 1 S3 S' → wO (kRepr v S') P E = P (.str d.shown) S' := fun g => rd.rep (by omega) bd (by omega) g
  simp -dsimp [rep Grow.refl]
  obtain ⟨x, S4, r4, T4, e, i4, rfl, le, E4⟩ := all S3 v
  refine wO_of r4 ?_
  clear r4
  have g4 : In1 S3 S4 := ⟨T4, i4⟩
  clear i4
  obtain ⟨rs, hrs, lrs, hrs2⟩ := id E4
  simp -dsimp [hrs, lrs, wR_sFor]
  have rg : RNG = 1152921504606846976 := by unfold RNG; decide
  refine ⟨⟨by rw [rg]; decide, by rw [rg]; decide⟩, ?_⟩
  refine loop1 E4 ⟨_, _, _, _, _, rfl⟩ fun env5 S5 L5 g5 => ?_
  obtain ⟨o6, o7, o8, o9, o10, rfl⟩ := L5
  have E5 := E4.in1 g5
  have g35 := g4.trans g5
  simp -dsimp [wR_sFor]
  refine (fields_ok E5).imp fun x S6 z => ?_
  obtain ⟨T6, p, i6, rfl, hp⟩ := z
  have g6 : In1 S5 S6 := ⟨T6, i6⟩
  clear i6
  have g36 := g35.trans g6
  rw [walkOf_at hp]
  simp -dsimp
  refine wR_forX (List.replicate 8 v) (fun _ env' S' => Lv (.frz (ns.map .int)) (.ref 1) (.int (w : Int)) v (.str d.shown) e env' ∧ In1 S6 S') ⟨⟨_, _, _, _, _, rfl⟩, .refl⟩ (fun i x env' S' hx I => ?_) (fun env' S' I => ?_)
  · obtain ⟨⟨q6, q7, q8, q9, q10, rfl⟩, gi⟩ := I
    have hx' : x = v := by
      have := List.mem_of_getElem? hx
      simpa using this
    subst hx'
    have hp' : S'[p]? = some (.lst (List.replicate 8 x)) := by
      obtain ⟨T, rfl⟩ := gi
      rw [List.getElem?_append_left (List.getElem?_eq_some_iff.mp hp).1]; exact hp
    refine ⟨hp', _, rfl, ?_⟩
    simp -dsimp [g_law_b3, rep (g36.trans gi).grow, eq_str _ bd.2.2.2]
    exact ⟨⟨_, _, _, _, _, rfl⟩, gi⟩
  · obtain ⟨⟨q6, q7, q8, q9, q10, rfl⟩, gi⟩ := I
    refine ⟨by
      obtain ⟨T, rfl⟩ := gi
      rw [List.getElem?_append_left (List.getElem?_eq_some_iff.mp hp).1]; exact hp, ?_⟩
    have x1 : exOf (S' ++ [Ob.exo "RoadError" []]) (.ref S'.length) = some (("RoadError" : Str), []) := exOf_at (c := "RoadError") (fs := []) (by simp)
    have w1 : ∀ {P : Val → Store → Prop} {E : XO} {m : Str → Bool}, wO (kIsE m (.ref S'.length) (S' ++ [Ob.exo "RoadError" []])) P E = P (.bl (m "RoadError")) (S' ++ [Ob.exo "RoadError" []]) := wO_kIsE x1
    have x2 : exOf (S' ++ [Ob.exo "RoadError" [], Ob.exo "RoadError" []]) (.ref (S'.length + 1)) = some (("RoadError" : Str), []) := exOf_at (c := "RoadError") (fs := []) (by simp)
    have w2 : ∀ {P : Val → Store → Prop} {E : XO} {m : Str → Bool}, wO (kIsE m (.ref (S'.length + 1)) (S' ++ [Ob.exo "RoadError" [], Ob.exo "RoadError" []])) P E = P (.bl (m "RoadError")) (S' ++ [Ob.exo "RoadError" [], Ob.exo "RoadError" []]) := wO_kIsE x2
    have nh : (("RoadError" : Str) == ("NoHouse" : Str)) = false := by decide
    simp -dsimp [w1, w2, nh]
    generalize hS9 : S' ++ [Ob.exo "RoadError" [], Ob.exo "RoadError" []] = S9
    have g9 : In1 S3 S9 := (g36.trans gi).trans ⟨_, hS9.symm⟩
    refine wO_of (cau S9 w v (by omega)) ?_
    have ei : ∀ S : Store, eqv1 S (.int (w : Int)) (.int (w : Int)) = some true := fun S => by
      rw [eqv1_cln rfl rfl (by simp [dep]) (by simp [dep])]; simp
    simp -dsimp [ei, rep g9.grow, eq_str _ bd.2.2.2]
    refine wO_of (bas S9 w v (by omega)) ?_
    first | rfl | simp
theorem law_w (ns : List Int) : wO (g_law [.frz (ns.map .int)] []) (fun v _ => v = .bl true) noX :=
  law_w' ns g_law_all g_law_caught g_law_based rfl rfl rfl (fun S v => all_errs) (fun S k v h => caught_ok h) (fun S k v h => based_ok h)
theorem math : ∀ ns : List Int, ns.length ≤ 63 → ∃ S, g_law [.frz (ns.map Mp.Val.int)] [] = .ok (.bl true) S := by
  intro ns _
  obtain ⟨v, S, e, rfl⟩ := wO_ok (law_w ns)
  exact ⟨S, e⟩
end K00

set_option Elab.async false
set_option linter.all false
set_option maxRecDepth 100000
set_option maxHeartbeats 0
open PySem PySem.W PySem.Calls PyProof.Rows
theorem PySem.Challenge.cw_leastroads_k00_errors_keep_what_is_passe_holds : PySem.Challenge.rw_leastroads_k00_errors_keep_what_is_passe.Holds := by
  w_on; o_law
  refine HandSHeadRun.head_any (r := OpenLaw.row PySem.Challenge.rw_leastroads_k00_errors_keep_what_is_passe) (q := view (OpenLaw.row PySem.Challenge.rw_leastroads_k00_errors_keep_what_is_passe).prog [44]) (H := K00.hk) (ob := K00.ob) (M := 8000) (loose := K00.loose) (d := HandSHeadRun.topDef (OpenLaw.row PySem.Challenge.rw_leastroads_k00_errors_keep_what_is_passe).prog 44) (kwd := []) K00.ob_eq
    (by kernel_rfl) (fun s => by kernel_rfl) K00.run (by kernel_rfl) (by kernel_rfl) (by kernel_rfl) (by rfl) (by first | assumption | decide +kernel) (by decide +kernel) ⟨rfl, rfl, rfl, rfl, rfl, by decide +kernel⟩ ?hw ?hc
  case hw => w_witness2
  case hc =>
    refine Mp.walk_C (l := PySem.Challenge.rw_leastroads_k00_errors_keep_what_is_passe) (n := 63) (x := "_law_script") (Y := K00.YY) (g := K00.g_law) rfl (by decide) (by kernel_rfl) ?F K00.math
    intro w mg fa h Y G hmg0
    obtain ⟨K, KX, c⟩ := Y
    have hmg : mg ("law" : PySem.Str) = some (.ref fa) := by
      rw [← show (HandSHeadRun.topDef (OpenLaw.row PySem.Challenge.rw_leastroads_k00_errors_keep_what_is_passe).prog 44).name = ("law" : PySem.Str) from by kernel_rfl]
      exact hmg0
    obtain ⟨fd, hb, hF⟩ := K00.all_ok (P := (PySem.Challenge.rw_leastroads_k00_errors_keep_what_is_passe).prog) (w := w) KX G hmg c
    exact ⟨K, fd, KX, hb, fun base _ _ => hF base⟩
