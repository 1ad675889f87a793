import PyProof.Rows.All
import HandS.ForMost
import HandS.ForExc
import HandS.CallSlots
import HandS.TryMany
import HandS.ExcInit
import HandS.ExcField
import HandS.IsInst
import HandS.Zip
import HandS.Flow
import HandS.Wide
import HandS.Deep
import HandS.TupAny
import HandS.TupLe
import KE.SortData
import KE.GoesEnum
import HandS.DictComp
import HandS.Conv
import HandS.Defaults
import HandS.Head0
import HandS.Head1
import HandS.Head2
import HandS.HeadEnd
import HandS.HeadHook1
import HandS.HeadHook2
import HandS.EndBits
import HandS.SortKw
import KE.DataMinMax
import KE.SortCalls
import PyProof.Rows.FloatCmp
import OpenK.KExp
import PyProof.DictMoreH
import KE.KDictWalk
import KE.KDictSum
import KE.KTupSum
import HandS.TupMul
import HandS.DictTup
import PyProof.Transfer
import PySem.Challenge.RW_leastroads_k30_whole_links_and_their_sta
set_option Elab.async false
set_option linter.all false
set_option maxRecDepth 100000
/-! A small semantics of Python over plain data, and its tie to the layer's readings. -/
namespace Mp
open PySem PySem.Spec PyProof.Rows L2

/-! ## data -/
inductive Val where
  | non | bl (b : Bool) | int (i : Int) | str (x : Str) | tup (xs : List Val) | frz (xs : List Val) | ref (i : Nat)

inductive Ob where
  | lst (xs : List Val)
  | dk (kvs : List (Key × Val))
  | dt (kvs : List (List Key × Val))
  | ins (c : Str) (fs : List (Str × Val))
abbrev Store := List Ob
abbrev En := List (Option Val)

inductive Out (α : Type) where
  | ok (x : α) (S : Store)
  | err (c : Str) (fs : List (Str × Val)) (S : Store)
  | bad
inductive Res where
  | nx (e : En) (S : Store)
  | rt (v : Val) (S : Store)
  | bk (e : En) (S : Store)
  | ct (e : En) (S : Store)
  | er (c : Str) (fs : List (Str × Val)) (e : En) (S : Store)
  | bad
def Out.bind {α β : Type} : Out α → (α → Store → Out β) → Out β
  | .ok x S, k => k x S
  | .err c fs S, _ => .err c fs S
  | .bad, _ => .bad
def Out.toS {α : Type} (env : En) : Out α → (α → Store → Res) → Res
  | .ok x S, k => k x S
  | .err c fs S, _ => .er c fs env S
  | .bad, _ => .bad

/-- what stands around: the classes by name, the error classes' values; a caught error: its slot, itself, its class, its dict, its fields -/
structure Sy where
  cl : Str → Option Addr
  er : Str → Option Value
  xi : Option (Nat × Addr × Value × Option Addr × List (Str × Val)) := none

/-! ## heaps -/
def Fx : HO → Prop
  | .tup _ => True
  | .frz _ _ => True
  | .xd _ => True
  | _ => False
def Ext (H H' : Hp) : Prop := ∀ a o, Fx o → H a = some o → H' a = some o
theorem Ext.refl (H : Hp) : Ext H H := fun _ _ _ h => h
theorem Ext.trans {H H1 H2 : Hp} (a : Ext H H1) (b : Ext H1 H2) : Ext H H2 := fun x o f h => b x o f (a x o f h)
theorem Ext.new {H : Hp} {p : Addr} {o : HO} (h : H p = none) : Ext H (upd H p o) := fun a u _ e => by
  rw [upd_ne (ne_of_none e h)]; exact e
theorem Ext.mut {H : Hp} {p : Addr} {o u : HO} (h : H p = some u) (nf : ¬ Fx u) : Ext H (upd H p o) := fun a v f e => by
  have : a ≠ p := fun z => by subst z; rw [h] at e; cases e; exact nf f
  rw [upd_ne this]; exact e
theorem Ext.rd {H H' : Hp} {a : Addr} {xs : List V} (e : Ext H H') (h : Rd H a (.tup xs)) : Rd H' a (.tup xs) := by
  rcases h with h | ⟨o, h⟩
  · exact .inl (e _ _ trivial h)
  · exact .inr ⟨o, e _ _ trivial h⟩
theorem Ext.sqt {K : PySem.W.Frag} {H H' : Hp} {a : Addr} {xs : List V} (e : Ext H H') (h : SqT K H a xs) : SqT K H' a xs := by
  rcases h with h | h
  · exact .inl (e.rd h)
  · exact .inr h
/-- a list that nobody writes -/
def Fzl (K : PySem.W.Frag) (H : Hp) (a : Addr) (xs : List V) : Prop := (∃ o, H a = some (.frz o (.lst xs))) ∨ SqL K (fun _ => none) a xs
theorem Fzl.up {K : PySem.W.Frag} {H H' : Hp} {a : Addr} {xs : List V} (e : Ext H H') (h : Fzl K H a xs) : Fzl K H' a xs := by
  rcases h with ⟨o, h⟩ | h
  · exact .inl ⟨o, e _ _ trivial h⟩
  · exact .inr h
theorem Fzl.sq {K : PySem.W.Frag} {H : Hp} {a : Addr} {xs : List V} (h : Fzl K H a xs) : SqL K H a xs := by
  rcases h with ⟨o, h⟩ | (h | ⟨o, h⟩) | h
  · exact .inl (.inr ⟨o, h⟩)
  · cases h
  · cases h
  · exact .inr h
def Pre (ρ ρ' : List Addr) : Prop := ∀ (i : Nat) (a : Addr), ρ[i]? = some a → ρ'[i]? = some a
theorem Pre.refl (ρ : List Addr) : Pre ρ ρ := fun _ _ h => h
theorem Pre.trans {a b c : List Addr} (h : Pre a b) (k : Pre b c) : Pre a c := fun i x e => k i x (h i x e)
theorem Pre.snoc (ρ : List Addr) (p : Addr) : Pre ρ (ρ ++ [p]) := fun i a h => by
  rw [List.getElem?_append_left (List.getElem?_eq_some_iff.mp h).1]; exact h

/-! ## what stands for what -/
mutual
inductive Rep (K : PySem.W.Frag) (ρ : List Addr) (H : Hp) : V → Val → Prop
  | non : Rep K ρ H .non .non
  | bl (b : Bool) : Rep K ρ H (.bl b) (.bl b)
  | int (i : Int) : Rep K ρ H (.int i) (.int i)
  | str (x : Str) : Rep K ρ H (.str x) (.str x)
  | tup {a : Addr} {vs : List V} {xs : List Val} : H a = some (.tup vs) → Reps K ρ H vs xs → Rep K ρ H (.ref a) (.tup xs)
  | frz {a : Addr} {vs : List V} {xs : List Val} : Fzl K H a vs → Reps K ρ H vs xs → Rep K ρ H (.ref a) (.frz xs)
  | ref {a : Addr} {i : Nat} : ρ[i]? = some a → Rep K ρ H (.ref a) (.ref i)
inductive Reps (K : PySem.W.Frag) (ρ : List Addr) (H : Hp) : List V → List Val → Prop
  | nil : Reps K ρ H [] []
  | cons {v : V} {vs : List V} {x : Val} {xs : List Val} : Rep K ρ H v x → Reps K ρ H vs xs → Reps K ρ H (v :: vs) (x :: xs)
end
section
variable {K : PySem.W.Frag} {ρ ρ' : List Addr} {H H' : Hp}
mutual
theorem Rep.up (p : Pre ρ ρ') (e : Ext H H') : ∀ {v : V} {x : Val}, Rep K ρ H v x → Rep K ρ' H' v x
  | _, _, .non => .non
  | _, _, .bl b => .bl b
  | _, _, .int i => .int i
  | _, _, .str x => .str x
  | _, _, .tup h r => .tup (e _ _ trivial h) (Reps.up p e r)
  | _, _, .frz h r => .frz (h.up e) (Reps.up p e r)
  | _, _, .ref h => .ref (p _ _ h)
theorem Reps.up (p : Pre ρ ρ') (e : Ext H H') : ∀ {vs : List V} {xs : List Val}, Reps K ρ H vs xs → Reps K ρ' H' vs xs
  | _, _, .nil => .nil
  | _, _, .cons h r => .cons (Rep.up p e h) (Reps.up p e r)
end
theorem Reps.length : ∀ {vs : List V} {xs : List Val}, Reps K ρ H vs xs → vs.length = xs.length
  | _, _, .nil => rfl
  | _, _, .cons _ r => congrArg (· + 1) (Reps.length r)
theorem Reps.get : ∀ {vs : List V} {xs : List Val} {i : Nat} {x : Val}, Reps K ρ H vs xs → xs[i]? = some x → ∃ v, vs[i]? = some v ∧ Rep K ρ H v x
  | _, _, _, _, .nil, h => by simp at h
  | _, _, 0, _, .cons h _, e => by simp at e; subst e; exact ⟨_, rfl, h⟩
  | _, _, i + 1, x, .cons _ r, e => by
    obtain ⟨v, h1, h2⟩ := Reps.get (i := i) (x := x) r (by simpa using e)
    exact ⟨v, by simpa using h1, h2⟩
theorem Reps.getV : ∀ {vs : List V} {xs : List Val} {i : Nat} {v : V}, Reps K ρ H vs xs → vs[i]? = some v → ∃ x, xs[i]? = some x ∧ Rep K ρ H v x
  | _, _, _, _, .nil, h => by simp at h
  | _, _, 0, _, .cons h _, e => by simp at e; subst e; exact ⟨_, rfl, h⟩
  | _, _, i + 1, v, .cons _ r, e => by
    obtain ⟨x, h1, h2⟩ := Reps.getV (i := i) (v := v) r (by simpa using e)
    exact ⟨x, by simpa using h1, h2⟩
theorem Reps.append : ∀ {vs ws : List V} {xs ys : List Val}, Reps K ρ H vs xs → Reps K ρ H ws ys → Reps K ρ H (vs ++ ws) (xs ++ ys)
  | _, _, _, _, .nil, s => s
  | _, _, _, _, .cons h r, s => .cons h (Reps.append r s)
theorem Reps.take : ∀ {vs : List V} {xs : List Val} (n : Nat), Reps K ρ H vs xs → Reps K ρ H (vs.take n) (xs.take n)
  | _, _, 0, _ => .nil
  | _, _, _ + 1, .nil => .nil
  | _, _, n + 1, .cons h r => .cons h (Reps.take n r)
theorem Reps.drop : ∀ {vs : List V} {xs : List Val} (n : Nat), Reps K ρ H vs xs → Reps K ρ H (vs.drop n) (xs.drop n)
  | _, _, 0, r => r
  | _, _, _ + 1, .nil => .nil
  | _, _, n + 1, .cons _ r => Reps.drop n r
theorem Reps.set {v : V} {x : Val} (h : Rep K ρ H v x) : ∀ {vs : List V} {xs : List Val} (i : Nat), Reps K ρ H vs xs → Reps K ρ H (vs.set i v) (xs.set i x)
  | _, _, _, .nil => .nil
  | _, _, 0, .cons _ r => .cons h r
  | _, _, i + 1, .cons g r => .cons g (Reps.set h i r)
theorem Reps.eraseIdx : ∀ {vs : List V} {xs : List Val} (i : Nat), Reps K ρ H vs xs → Reps K ρ H (vs.eraseIdx i) (xs.eraseIdx i)
  | _, _, _, .nil => .nil
  | _, _, 0, .cons _ r => r
  | _, _, i + 1, .cons g r => .cons g (Reps.eraseIdx i r)
theorem Reps.dropLast {vs : List V} {xs : List Val} (r : Reps K ρ H vs xs) : Reps K ρ H vs.dropLast xs.dropLast := by
  rw [List.dropLast_eq_take, List.dropLast_eq_take, r.length]; exact r.take _
end

/-- named values: a dict's pairs, an instance's fields -/
def RepK {κ : Type} (K : PySem.W.Frag) (ρ : List Addr) (H : Hp) : List (κ × V) → List (κ × Val) → Prop := Paired fun p q => p.1 = q.1 ∧ Rep K ρ H p.2 q.2
theorem RepK.up {κ : Type} {K : PySem.W.Frag} {ρ ρ' : List Addr} {H H' : Hp} (p : Pre ρ ρ') (e : Ext H H') : ∀ {vs : List (κ × V)} {xs : List (κ × Val)}, RepK K ρ H vs xs → RepK K ρ' H' vs xs
  | _, _, .nil => .nil
  | _, _, .cons h r => .cons ⟨h.1, h.2.up p e⟩ (RepK.up p e r)
theorem RepK.length {κ : Type} {K : PySem.W.Frag} {ρ : List Addr} {H : Hp} {vs : List (κ × V)} {xs : List (κ × Val)} (r : RepK K ρ H vs xs) : vs.length = xs.length := Paired.length r

def ObRep (K : PySem.W.Frag) (Y : Sy) (ρ : List Addr) (H : Hp) (a : Addr) : Ob → Prop
  | .lst xs => ∃ vs, H a = some (.lst vs) ∧ Reps K ρ H vs xs
  | .dk kvs => ∃ ws, H a = some (.dK ws) ∧ RepK K ρ H ws kvs
  | .dt kvs => ∃ ws, H a = some (.dT ws) ∧ RepK K ρ H ws kvs
  | .ins c fs => ∃ C dx gs, Y.cl c = some C ∧ H a = some (.ins C dx gs) ∧ RepK K ρ H gs fs
/-- an object of the store stands at a, not fixed -/
theorem ObRep.at {K : PySem.W.Frag} {Y : Sy} {ρ : List Addr} {H : Hp} {a : Addr} {o : Ob} (h : ObRep K Y ρ H a o) : ∃ u, H a = some u ∧ ¬ Fx u := by
  cases o with
  | lst xs => obtain ⟨vs, e, _⟩ := h; exact ⟨_, e, fun z => z⟩
  | dk kvs => obtain ⟨vs, e, _⟩ := h; exact ⟨_, e, fun z => z⟩
  | dt kvs => obtain ⟨vs, e, _⟩ := h; exact ⟨_, e, fun z => z⟩
  | ins c fs => obtain ⟨C, dx, gs, _, e, _⟩ := h; exact ⟨_, e, fun z => z⟩
theorem ObRep.up {K : PySem.W.Frag} {Y : Sy} {ρ ρ' : List Addr} {H H' : Hp} {a : Addr} {o : Ob} (p : Pre ρ ρ') (e : Ext H H') (k : H' a = H a) (h : ObRep K Y ρ H a o) : ObRep K Y ρ' H' a o := by
  cases o with
  | lst xs => obtain ⟨vs, q, r⟩ := h; exact ⟨vs, k.trans q, r.up p e⟩
  | dk kvs => obtain ⟨vs, q, r⟩ := h; exact ⟨vs, k.trans q, r.up p e⟩
  | dt kvs => obtain ⟨vs, q, r⟩ := h; exact ⟨vs, k.trans q, r.up p e⟩
  | ins c fs => obtain ⟨C, dx, gs, hc, q, r⟩ := h; exact ⟨C, dx, gs, hc, k.trans q, r.up p e⟩
structure Sim (K : PySem.W.Frag) (Y : Sy) (ρ : List Addr) (H : Hp) (S : Store) : Prop where
  len : ρ.length = S.length
  nd : ρ.Nodup
  ob : ∀ (i : Nat) (a : Addr) (o : Ob), ρ[i]? = some a → S[i]? = some o → ObRep K Y ρ H a o
section
variable {K : PySem.W.Frag} {Y : Sy} {ρ ρ' : List Addr} {H H' : Hp} {S : Store}
theorem Sim.at_ (s : Sim K Y ρ H S) {i : Nat} {o : Ob} (h : S[i]? = some o) : ∃ a, ρ[i]? = some a ∧ ObRep K Y ρ H a o := by
  have hi : i < ρ.length := by rw [s.len]; exact (List.getElem?_eq_some_iff.mp h).1
  exact ⟨ρ[i], List.getElem?_eq_getElem hi, s.ob i _ o (List.getElem?_eq_getElem hi) h⟩
theorem Sim.mem (s : Sim K Y ρ H S) {a : Addr} (h : a ∈ ρ) : ∃ u, H a = some u ∧ ¬ Fx u := by
  obtain ⟨i, hi, e⟩ := List.getElem_of_mem h
  have hS : i < S.length := by rw [← s.len]; exact hi
  exact (s.ob i a S[i] (by rw [List.getElem?_eq_getElem hi, e]) (List.getElem?_eq_getElem hS)).at
theorem Sim.fresh (s : Sim K Y ρ H S) {p : Addr} (h : H p = none) : p ∉ ρ := fun hm => by
  obtain ⟨u, e, _⟩ := s.mem hm
  rw [h] at e; cases e
/-- nothing of the store is touched -/
theorem Sim.keep (s : Sim K Y ρ H S) (e : Ext H H') (k : ∀ a ∈ ρ, H' a = H a) : Sim K Y ρ H' S :=
  ⟨s.len, s.nd, fun i a o h1 h2 => (s.ob i a o h1 h2).up (Pre.refl ρ) e (k a (List.mem_of_getElem? h1))⟩
/-- a thing that is none of the store is laid -/
theorem Sim.other (s : Sim K Y ρ H S) {p : Addr} {o : HO} (h : H p = none) : Sim K Y ρ (upd H p o) S :=
  s.keep (Ext.new h) fun a ha => upd_ne fun z => s.fresh h (z ▸ ha)
theorem Sim.new (s : Sim K Y ρ H S) {p : Addr} {u : HO} {o : Ob} (h : H p = none) (r : ObRep K Y (ρ ++ [p]) (upd H p u) p o) : Sim K Y (ρ ++ [p]) (upd H p u) (S ++ [o]) := by
  refine ⟨by simp [s.len], ?_, fun i a q h1 h2 => ?_⟩
  · rw [List.nodup_append]
    exact ⟨s.nd, by simp, fun a ha b hb z => by simp at hb; subst hb; subst z; exact s.fresh h ha⟩
  · by_cases hi : i < ρ.length
    · rw [List.getElem?_append_left hi] at h1
      rw [List.getElem?_append_left (by rw [← s.len]; exact hi)] at h2
      exact (s.ob i a q h1 h2).up (Pre.snoc ρ p) (Ext.new h) (upd_ne fun z => s.fresh h (z ▸ List.mem_of_getElem? h1))
    · have hl := s.len
      have e : i = ρ.length := by
        have := (List.getElem?_eq_some_iff.mp h1).1
        simp at this
        omega
      subst e
      rw [List.getElem?_append_right (Nat.le_refl _)] at h1
      rw [List.getElem?_append_right (by omega)] at h2
      simp at h1
      rw [hl] at h2
      simp at h2
      subst h1; subst h2
      exact r
theorem Sim.put (s : Sim K Y ρ H S) {i : Nat} {a : Addr} {u : HO} {o : Ob} (h : ρ[i]? = some a) (r : ObRep K Y ρ (upd H a u) a o) : Ext H (upd H a u) ∧ Sim K Y ρ (upd H a u) (S.set i o) := by
  obtain ⟨u0, e0, nf⟩ := s.mem (List.mem_of_getElem? h)
  have e : Ext H (upd H a u) := Ext.mut e0 nf
  refine ⟨e, by simp [s.len], s.nd, fun j b q h1 h2 => ?_⟩
  by_cases hj : j = i
  · subst hj
    rw [h] at h1; cases h1
    have hl : j < S.length := by rw [← s.len]; exact (List.getElem?_eq_some_iff.mp h).1
    rw [List.getElem?_set_self hl] at h2
    cases h2
    exact r
  · rw [List.getElem?_set_ne (Ne.symm hj)] at h2
    refine (s.ob j b q h1 h2).up (Pre.refl ρ) e (upd_ne fun z => hj ?_)
    subst z
    obtain ⟨l1, e1⟩ := List.getElem?_eq_some_iff.mp h1
    obtain ⟨l2, e2⟩ := List.getElem?_eq_some_iff.mp h
    exact (List.getElem_inj s.nd).mp (e1.trans e2.symm)
end

/-! ## slots -/
structure ERep (K : PySem.W.Frag) (Y : Sy) (ρ : List Addr) (H : Hp) (σ : L2.St) (env : En) : Prop where
  len : σ.length = env.length
  at_ : ∀ (i : Nat) (x : Val), env[i]? = some (some x) → ∃ v, σ[i]? = some (some v) ∧ Rep K ρ H v x
  xi : ∀ (n : Nat) (a : Addr) (cv : Value) (d : Option Addr) (fs : List (Str × Val)), Y.xi = some (n, a, cv, d, fs) → σ[n]? = some (some (.ref a)) ∧ (fs = [] ∨ ∃ dd gs, d = some dd ∧ H dd = some (.xd gs) ∧ RepK K ρ H gs fs)
section
variable {K : PySem.W.Frag} {Y : Sy} {ρ ρ' : List Addr} {H H' : Hp} {σ : L2.St} {env : En}
theorem ERep.up (p : Pre ρ ρ') (e : Ext H H') (h : ERep K Y ρ H σ env) : ERep K Y ρ' H' σ env :=
  ⟨h.len, fun i x q => let ⟨v, a, r⟩ := h.at_ i x q; ⟨v, a, r.up p e⟩, fun n a cv d fs q => let ⟨h1, h2⟩ := h.xi n a cv d fs q; ⟨h1, h2.elim .inl fun ⟨dd, gs, z, h3, h4⟩ => .inr ⟨dd, gs, z, e _ _ trivial h3, h4.up p e⟩⟩⟩
theorem ERep.set (h : ERep K Y ρ H σ env) {i : Nat} {v : V} {x : Val} (r : Rep K ρ H v x) (hx : Y.xi = none) : ERep K Y ρ H (σ.set i (some v)) (env.set i (some x)) := by
  refine ⟨by simp [h.len], fun j y q => ?_, fun n a cv d fs q => by rw [hx] at q; cases q⟩
  by_cases hj : j = i
  · subst hj
    have hl : j < env.length := by
      have := (List.getElem?_eq_some_iff.mp q).1
      simpa using this
    rw [List.getElem?_set_self hl] at q
    cases q
    exact ⟨v, List.getElem?_set_self (by rw [h.len]; exact hl), r⟩
  · rw [List.getElem?_set_ne (Ne.symm hj)] at q
    obtain ⟨w, a, r'⟩ := h.at_ j y q
    exact ⟨w, by rw [List.getElem?_set_ne (Ne.symm hj)]; exact a, r'⟩
end

/-! ## errors -/
def ErrRep (K : PySem.W.Frag) (Y : Sy) (ρ : List Addr) (H : Hp) (cls : Value) (d : Option Addr) (c : Str) (fs : List (Str × Val)) : Prop :=
  Y.er c = some cls ∧ (fs = [] ∨ ∃ dd gs, d = some dd ∧ H dd = some (.xd gs) ∧ RepK K ρ H gs fs)

/-! ## what is wanted of an outcome -/
section
variable {α β γ δ : Type} {K : PySem.W.Frag} {Y : Sy} {W : WX}
abbrev RR (β α : Type) := List Addr → Hp → β → α → Prop
def Post (K : PySem.W.Frag) (Y : Sy) (W : Value → Option Addr → Hp → Prop) (ρ : List Addr) (H : Hp) (R : RR β α) (Q : β → Hp → Prop) : Out α → Prop
  | .ok x S => ∀ v ρ' H', Pre ρ ρ' → Ext H H' → Sim K Y ρ' H' S → R ρ' H' v x → Q v H'
  | .err c fs S => ∀ cls d ρ' H', Pre ρ ρ' → Ext H H' → Sim K Y ρ' H' S → ErrRep K Y ρ' H' cls d c fs → W cls d H'
  | .bad => False
theorem Post.up {W : Value → Option Addr → Hp → Prop} {ρ ρ' : List Addr} {H H' : Hp} {R : RR β α} {Q : β → Hp → Prop} {o : Out α} (p : Pre ρ ρ') (e : Ext H H') (h : Post K Y W ρ H R Q o) : Post K Y W ρ' H' R Q o := by
  cases o with
  | ok x S => exact fun v ρ2 H2 p2 e2 s r => h v ρ2 H2 (p.trans p2) (e.trans e2) s r
  | err c fs S => exact fun cls d ρ2 H2 p2 e2 s r => h cls d ρ2 H2 (p.trans p2) (e.trans e2) s r
  | bad => exact h
abbrev RV (K : PySem.W.Frag) : RR V Val := fun ρ H v x => Rep K ρ H v x
abbrev RL (K : PySem.W.Frag) : RR (List V) (List Val) := fun ρ H v x => Reps K ρ H v x
abbrev RB : RR Bool Bool := fun _ _ v x => v = x
/-- the reading of f -/
def tG (K : PySem.W.Frag) (Y : Sy) (W : WX) (R : RR β α) (f : En → Store → Out α) : L2.St → Hp → (β → Hp → Prop) → Prop := fun σ H Q =>
  ∃ ρ env S, ERep K Y ρ H σ env ∧ Sim K Y ρ H S ∧ Post K Y (fun cls d H' => W cls d σ H') ρ H R Q (f env S)
/-- first f, then what hangs on it -/
theorem tG.bind {R : RR β α} {R' : RR δ γ} {f : En → Store → Out α} {k : En → α → Store → Out γ} {σ : L2.St} {H : Hp} {Q : δ → Hp → Prop} {Q' : β → Hp → Prop}
    (h : tG K Y W R' (fun env S => (f env S).bind (k env)) σ H Q)
    (q : ∀ ρ env v x H1 S1, ERep K Y ρ H1 σ env → Sim K Y ρ H1 S1 → R ρ H1 v x → Post K Y (fun cls d H' => W cls d σ H') ρ H1 R' Q (k env x S1) → Q' v H1) : tG K Y W R f σ H Q' := by
  obtain ⟨ρ, env, S, he, hs, h⟩ := h
  refine ⟨ρ, env, S, he, hs, ?_⟩
  dsimp only at h
  generalize f env S = o at h
  cases o with
  | ok x S1 =>
    intro v ρ1 H1 p e s r
    exact q ρ1 env v x H1 S1 (he.up p e) s r (Post.up p e h)
  | err c fs S1 => exact h
  | bad => exact h
/-- the same where σ, env, .. stand already -/
theorem tG.go {R : RR β α} {R' : RR δ γ} {f : En → Store → Out α} {k : α → Store → Out γ} {σ : L2.St} {H : Hp} {ρ : List Addr} {env : En} {S : Store} {Q : δ → Hp → Prop} {Q' : β → Hp → Prop} (he : ERep K Y ρ H σ env) (hs : Sim K Y ρ H S)
    (h : Post K Y (fun cls d H' => W cls d σ H') ρ H R' Q ((f env S).bind k))
    (q : ∀ ρ1 v x H1 S1, Pre ρ ρ1 → Ext H H1 → ERep K Y ρ1 H1 σ env → Sim K Y ρ1 H1 S1 → R ρ1 H1 v x → Post K Y (fun cls d H' => W cls d σ H') ρ1 H1 R' Q (k x S1) → Q' v H1) : tG K Y W R f σ H Q' := by
  refine ⟨ρ, env, S, he, hs, ?_⟩
  generalize f env S = o at h
  cases o with
  | ok x S1 =>
    intro v ρ1 H1 p e s r
    exact q ρ1 v x H1 S1 p e (he.up p e) s r (Post.up p e h)
  | err c fs S1 => exact h
  | bad => exact h
theorem tG.mono {R : RR β α} {f : En → Store → Out α} {σ : L2.St} {H : Hp} {Q Q' : β → Hp → Prop} (h : tG K Y W R f σ H Q) (q : ∀ v H', Q v H' → Q' v H') : tG K Y W R f σ H Q' := by
  obtain ⟨ρ, env, S, he, hs, h⟩ := h
  refine ⟨ρ, env, S, he, hs, ?_⟩
  generalize f env S = o at h
  cases o with
  | ok x S1 => exact fun v ρ1 H1 p e s r => q _ _ (h v ρ1 H1 p e s r)
  | err c fs S1 => exact h
  | bad => exact h
end

/-! ## judgements -/
def SE (X : Cx) (Y : Sy) (W : WX) (e : Expr) (f : En → Store → Out Val) : Prop := PE X e (tG X.K Y W (RV X.K) f)
def ST (X : Cx) (Y : Sy) (W : WX) (e : Expr) (f : En → Store → Out Bool) : Prop := PT X e (tG X.K Y W RB f)
def SA (X : Cx) (Y : Sy) (W : WX) (es : List Expr) (f : En → Store → Out (List Val)) : Prop := PA X es (tG X.K Y W (RL X.K) f)
theorem PE.imp {X : Cx} {e : Expr} {t t' : TE} (h : PE X e t) (k : ∀ σ H Q, t' σ H Q → t σ H Q) : PE X e t' := ⟨fun pins s σ H Q I q => h.run pins s σ H Q I (k σ H Q q)⟩
theorem PT.imp {X : Cx} {e : Expr} {t t' : TT} (h : PT X e t) (k : ∀ σ H Q, t' σ H Q → t σ H Q) : PT X e t' := ⟨fun pins s σ H Q I q => h.run pins s σ H Q I (k σ H Q q)⟩
theorem PA.imp {X : Cx} {e : List Expr} {t t' : TA} (h : PA X e t) (k : ∀ σ H Q, t' σ H Q → t σ H Q) : PA X e t' := ⟨fun pos pins s σ H Q I q => h.run pos pins s σ H Q I (k σ H Q q)⟩
theorem PS.imp {X : Cx} {e : Stmt} {t t' : TS} (h : PS X e t) (k : ∀ D σ H, t' D σ H → t D σ H) : PS X e t' := ⟨fun pins s σ H D I q => h.run pins s σ H D I (k D σ H q)⟩
theorem PSs.imp {X : Cx} {e : List Stmt} {t t' : TS} (h : PSs X e t) (k : ∀ D σ H, t' D σ H → t D σ H) : PSs X e t' := ⟨fun pins s σ H D I q => h.run pins s σ H D I (k D σ H q)⟩

/-! ## expressions -/
def eV (i : Nat) : En → Store → Out Val := fun env S => match env[i]? with
  | some (some x) => .ok x S
  | _ => .bad
def eC (x : Val) : En → Store → Out Val := fun _ S => .ok x S
section
variable {X : Cx} {Y : Sy} {W : WX}
theorem se_v (i : Nat) {x : Str} {pos : Pos} (hN : X.N[i]? = some x := by rfl) (hv : Vis X.env.scope x := by first | exact Or.inl rfl | exact Or.inr (Or.inl rfl) | exact Or.inr (Or.inr rfl)) (hd : (x == ("__debug__" : Str)) = false := by decide)
    (hcd : (x == ("__classdict__" : Str)) = false := by decide) : SE X Y W (.Name x pos) (eV i) := by
  refine PE.imp (pe_var hN hv hd hcd) fun σ H Q h => ?_
  obtain ⟨ρ, env, S, he, hs, h⟩ := h
  unfold eV at h
  split at h
  · rename_i x hx
    obtain ⟨v, e, r⟩ := he.at_ i x hx
    exact ⟨v, e, h v ρ H (Pre.refl _) (Ext.refl _) hs r⟩
  · exact h.elim
theorem se_c {e : Expr} {v : V} {x : Val} (h : PE X e (tC v)) (r : ∀ ρ H, Rep X.K ρ H v x) : SE X Y W e (eC x) := by
  refine PE.imp h fun σ H Q h => ?_
  obtain ⟨ρ, env, S, he, hs, h⟩ := h
  exact h v ρ H (Pre.refl _) (Ext.refl _) hs (r ρ H)
theorem se_int {i j pos} : SE X Y W (.Constant (.int i) j pos) (eC (.int i)) := se_c pe_int fun _ _ => .int i
theorem se_bl {b j pos} : SE X Y W (.Constant (.bool b) j pos) (eC (.bl b)) := se_c pe_bl fun _ _ => .bl b
theorem se_non {j pos} : SE X Y W (.Constant .none j pos) (eC .non) := se_c pe_non fun _ _ => .non
theorem se_str {x j pos} : SE X Y W (.Constant (.str x) j pos) (eC (.str x)) := se_c pe_str fun _ _ => .str x

/-! ### operators -/
abbrev BOp := Val → Val → Store → Out Val
def eB2 (op : BOp) (a b : En → Store → Out Val) : En → Store → Out Val := fun env S => (a env S).bind fun x S1 => (b env S1).bind fun y S2 => op x y S2
def OpS (X : Cx) (Y : Sy) (r : R2) (op : BOp) : Prop := ∀ (W' : Value → Option Addr → Hp → Prop) (ρ : List Addr) (H : Hp) (S : Store) (v w : V) (x y : Val) (Q : VK), Sim X.K Y ρ H S → Rep X.K ρ H v x → Rep X.K ρ H w y → Post X.K Y W' ρ H (RV X.K) Q (op x y S) → r v w H Q
theorem tOp_of {r : R2} {op : BOp} (ho : OpS X Y r op) {fa fb : En → Store → Out Val} {σ : L2.St} {H : Hp} {Q : VK} (h : tG X.K Y W (RV X.K) (eB2 op fa fb) σ H Q) : tOp r (tG X.K Y W (RV X.K) fa) (tG X.K Y W (RV X.K) fb) σ H Q := by
  refine tG.bind (k := fun env x S1 => (fb env S1).bind fun y S2 => op x y S2) h fun ρ env v x H1 S1 he hs rx hp => ?_
  refine tG.go he hs hp fun ρ2 w y H2 S2 p2 e2 he2 hs2 ry hp2 => ?_
  exact ho _ ρ2 H2 S2 v w x y Q hs2 (rx.up p2 e2) ry hp2
theorem se_op {op : Operator} {r : R2} {g : BOp} {a b : Expr} {fa fb : En → Store → Out Val} {pos : Pos} (hr : OpR X (binaryOp op) r) (ho : OpS X Y r g) (ha : SE X Y W a fa) (hb : SE X Y W b fb) : SE X Y W (.BinOp a op b pos) (eB2 g fa fb) :=
  PE.imp (pe_op hr ha hb) fun _ _ _ h => tOp_of ho h
theorem se_cmp {op : CmpOp} {r : R2} {g : BOp} {a b : Expr} {fa fb : En → Store → Out Val} {pos : Pos} (hr : OpR X (compareOp op) r) (ho : OpS X Y r g) (ha : SE X Y W a fa) (hb : SE X Y W b fb) (hm : behindInMarks op b = false) : SE X Y W (.Compare a [op] [b] pos) (eB2 g fa fb) :=
  PE.imp (pe_cmpR hr ha hb hm) fun _ _ _ h => tOp_of ho h
/-- a value that is a flag, as a test -/
def toB : Val → Store → Out Bool
  | .bl b, S => .ok b S
  | _, _ => .bad
def bV (f : En → Store → Out Val) : En → Store → Out Bool := fun env S => (f env S).bind toB
theorem tTest_of {t : TE} {f : En → Store → Out Val} {σ : L2.St} {H : Hp} {Q : Bool → Hp → Prop} (ht : ∀ Q', tG X.K Y W (RV X.K) f σ H Q' → t σ H Q') (h : tG X.K Y W RB (bV f) σ H Q) : tTest t σ H Q := by
  refine ht _ (tG.bind (k := fun _ => toB) h fun ρ env v x H1 S1 he hs rx hp => ?_)
  cases rx <;> first | exact hp.elim | skip
  rename_i b
  exact ⟨b, rfl, hp b ρ H1 (Pre.refl _) (Ext.refl _) hs rfl⟩
theorem st_cmp {op : CmpOp} {r : R2} {g : BOp} {a b : Expr} {fa fb : En → Store → Out Val} {pos : Pos} (hr : OpR X (compareOp op) r) (ho : OpS X Y r g) (ha : SE X Y W a fa) (hb : SE X Y W b fb) (hm : behindInMarks op b = false) : ST X Y W (.Compare a [op] [b] pos) (bV (eB2 g fa fb)) :=
  PT.imp (pt_cmpR hr ha hb hm) fun _ _ _ h => tTest_of (fun _ q => tOp_of ho q) h
theorem st_val {e : Expr} {f : En → Store → Out Val} (h : SE X Y W e f) (he : ∀ whole, isTrue e X.env whole = (do let v ← whole; standAt e.pos; holding [v] (truthy v)) := by intro _; rfl) : ST X Y W e (bV f) :=
  PT.imp (pt_val h he) fun _ _ _ q => tTest_of (fun _ z => z) q

/-! ### and, or, not -/
def bAnd (a b : En → Store → Out Bool) : En → Store → Out Bool := fun env S => (a env S).bind fun x S1 => if x = true then b env S1 else .ok false S1
def bOr (a b : En → Store → Out Bool) : En → Store → Out Bool := fun env S => (a env S).bind fun x S1 => if x = true then .ok true S1 else b env S1
def bNot (a : En → Store → Out Bool) : En → Store → Out Bool := fun env S => (a env S).bind fun x S1 => .ok (!x) S1
def SW (X : Cx) (Y : Sy) (W : WX) (e : Expr) (f : En → Store → Out Bool) : Prop := PW X e (tG X.K Y W RB f)
theorem PW.imp {X : Cx} {e : Expr} {t t' : TT} (h : PW X e t) (k : ∀ σ H Q, t' σ H Q → t σ H Q) : PW X e t' := ⟨fun wh pins s σ H Q I q => h.run wh pins s σ H Q I (k σ H Q q)⟩
theorem SW.st {e : Expr} {f : En → Store → Out Bool} (h : SW X Y W e f) : ST X Y W e f := PW.pt h
variable {a b : Expr} {rest : List Expr} {pos : Pos} {fa fb : En → Store → Out Bool}
theorem sw_and1 (ha : ST X Y W a fa) : SW X Y W (.BoolOp .And [a] pos) fa := pw_and1 ha
theorem sw_or1 (ha : ST X Y W a fa) : SW X Y W (.BoolOp .Or [a] pos) fa := pw_or1 ha
theorem sw_and (ha : ST X Y W a fa) (hb : SW X Y W (.BoolOp .And (b :: rest) pos) fb) : SW X Y W (.BoolOp .And (a :: b :: rest) pos) (bAnd fa fb) := by
  refine PW.imp (pw_and ha hb) fun σ H Q h => ?_
  refine tG.bind (k := fun env x S1 => if x = true then fb env S1 else .ok false S1) h fun ρ env v x H1 S1 he hs rx hp => ?_
  subst rx
  cases v with
  | true => exact ⟨ρ, env, S1, he, hs, hp⟩
  | false => exact hp false ρ H1 (Pre.refl _) (Ext.refl _) hs rfl
theorem sw_or (ha : ST X Y W a fa) (hb : SW X Y W (.BoolOp .Or (b :: rest) pos) fb) : SW X Y W (.BoolOp .Or (a :: b :: rest) pos) (bOr fa fb) := by
  refine PW.imp (pw_or ha hb) fun σ H Q h => ?_
  refine tG.bind (k := fun env x S1 => if x = true then .ok true S1 else fb env S1) h fun ρ env v x H1 S1 he hs rx hp => ?_
  subst rx
  cases v with
  | true => exact hp true ρ H1 (Pre.refl _) (Ext.refl _) hs rfl
  | false => exact ⟨ρ, env, S1, he, hs, hp⟩
theorem st_not (ha : ST X Y W a fa) : ST X Y W (.UnaryOp .Not a pos) (bNot fa) := by
  refine PT.imp (pt_not ha) fun σ H Q h => ?_
  refine tG.bind (k := fun env x S1 => .ok (!x) S1) h fun ρ env v x H1 S1 he hs rx hp => ?_
  subst rx
  exact hp _ ρ H1 (Pre.refl _) (Ext.refl _) hs rfl
/-- .. as values -/
def eAnd (a b : En → Store → Out Val) : En → Store → Out Val := fun env S => (a env S).bind fun x S1 => match x with
  | .bl true => b env S1
  | .bl false => .ok (.bl false) S1
  | _ => .bad
def eOr (a b : En → Store → Out Val) : En → Store → Out Val := fun env S => (a env S).bind fun x S1 => match x with
  | .bl true => .ok (.bl true) S1
  | .bl false => b env S1
  | _ => .bad
def eNot (a : En → Store → Out Val) : En → Store → Out Val := fun env S => (a env S).bind fun x S1 => match x with
  | .bl c => .ok (.bl (!c)) S1
  | _ => .bad
variable {ga gb : En → Store → Out Val}
theorem se_one {op} (h : SE X Y W a ga) : SE X Y W (.BoolOp op [a] pos) ga := pe_one h
theorem se_and (ha : SE X Y W a ga) (hb : SE X Y W (.BoolOp .And (b :: rest) pos) gb) : SE X Y W (.BoolOp .And (a :: b :: rest) pos) (eAnd ga gb) := by
  refine PE.imp (pe_and ha hb) fun σ H Q h => ?_
  refine tG.bind (k := fun env x S1 => match x with | .bl true => gb env S1 | .bl false => .ok (.bl false) S1 | _ => .bad) h fun ρ env v x H1 S1 he hs rx hp => ?_
  cases rx <;> first | exact hp.elim | skip
  rename_i c
  refine ⟨c, rfl, ?_⟩
  cases c with
  | true => exact ⟨ρ, env, S1, he, hs, hp⟩
  | false => exact hp _ ρ H1 (Pre.refl _) (Ext.refl _) hs (.bl false)
theorem se_or (ha : SE X Y W a ga) (hb : SE X Y W (.BoolOp .Or (b :: rest) pos) gb) : SE X Y W (.BoolOp .Or (a :: b :: rest) pos) (eOr ga gb) := by
  refine PE.imp (pe_or ha hb) fun σ H Q h => ?_
  refine tG.bind (k := fun env x S1 => match x with | .bl true => .ok (.bl true) S1 | .bl false => gb env S1 | _ => .bad) h fun ρ env v x H1 S1 he hs rx hp => ?_
  cases rx <;> first | exact hp.elim | skip
  rename_i c
  refine ⟨c, rfl, ?_⟩
  cases c with
  | true => exact hp _ ρ H1 (Pre.refl _) (Ext.refl _) hs (.bl true)
  | false => exact ⟨ρ, env, S1, he, hs, hp⟩
theorem se_not (ha : SE X Y W a ga) : SE X Y W (.UnaryOp .Not a pos) (eNot ga) := by
  refine PE.imp (pe_not ha) fun σ H Q h => ?_
  refine tG.bind (k := fun env x S1 => match x with | .bl c => Out.ok (Val.bl (!c)) S1 | _ => Out.bad) h fun ρ env v x H1 S1 he hs rx hp => ?_
  cases rx <;> first | exact hp.elim | skip
  rename_i c
  exact ⟨c, rfl, hp _ ρ H1 (Pre.refl _) (Ext.refl _) hs (.bl _)⟩
def eIf (c : En → Store → Out Bool) (a b : En → Store → Out Val) : En → Store → Out Val := fun env S => (c env S).bind fun x S1 => if x = true then a env S1 else b env S1
theorem se_if {c : Expr} {fc : En → Store → Out Bool} (hc : ST X Y W c fc) (ha : SE X Y W a ga) (hb : SE X Y W b gb) : SE X Y W (.IfExp c a b pos) (eIf fc ga gb) := by
  refine PE.imp (pe_ifExp hc ha hb) fun σ H Q h => ?_
  refine tG.bind (k := fun env x S1 => if x = true then ga env S1 else gb env S1) h fun ρ env v x H1 S1 he hs rx hp => ?_
  subst rx
  cases v with
  | true => exact ⟨ρ, env, S1, he, hs, hp⟩
  | false => exact ⟨ρ, env, S1, he, hs, hp⟩

/-! ### argument lists, displays -/
def aNil : En → Store → Out (List Val) := fun _ S => .ok [] S
def aCons (f : En → Store → Out Val) (r : En → Store → Out (List Val)) : En → Store → Out (List Val) := fun env S => (f env S).bind fun x S1 => (r env S1).bind fun xs S2 => .ok (x :: xs) S2
theorem sa_nil : SA X Y W [] aNil := by
  refine PA.imp pa_nil fun σ H Q h => ?_
  obtain ⟨ρ, env, S, he, hs, h⟩ := h
  exact h [] ρ H (Pre.refl _) (Ext.refl _) hs .nil
theorem sa_cons {e : Expr} {es : List Expr} {f : En → Store → Out Val} {r : En → Store → Out (List Val)} (ha : SE X Y W e f) (hr : SA X Y W es r) (hs : starEach (e :: es) X.env = (false, eval e X.env) :: starEach es X.env := by rfl) : SA X Y W (e :: es) (aCons f r) := by
  refine PA.imp (pa_cons ha hr hs) fun σ H Q h => ?_
  refine tG.bind (k := fun env x S1 => (r env S1).bind fun xs S2 => .ok (x :: xs) S2) h fun ρ env v x H1 S1 he hs rx hp => ?_
  refine tG.go he hs hp fun ρ2 ws ys H2 S2 p2 e2 he2 hs2 ry hp2 => ?_
  exact hp2 _ ρ2 H2 (Pre.refl _) (Ext.refl _) hs2 (.cons (rx.up p2 e2) ry)
/-- the longest list that is made here -/
def LIM : Nat := 100000
theorem lim_le {n : Nat} (h : n ≤ LIM) : n ≤ sizeLine := Nat.le_trans h (by decide)
theorem lim_lt {n : Nat} (h : n < LIM) : n < sizeLine := Nat.lt_of_lt_of_le h (by decide)
def eTup (r : En → Store → Out (List Val)) : En → Store → Out Val := fun env S => (r env S).bind fun xs S1 => if xs.length ≤ LIM then .ok (.tup xs) S1 else .bad
def eLst (r : En → Store → Out (List Val)) : En → Store → Out Val := fun env S => (r env S).bind fun xs S1 => if xs.length ≤ LIM then .ok (.ref S1.length) (S1 ++ [.lst xs]) else .bad
theorem rep_new {K : PySem.W.Frag} {ρ : List Addr} {H : Hp} {p : Addr} {n : Nat} (h : n = ρ.length) : Rep K (ρ ++ [p]) H (.ref p) (.ref n) := .ref (by rw [h]; simp)
theorem se_tup {x1} {es : List Expr} {r : En → Store → Out (List Val)} (h : SA X Y W es r) : SE X Y W (.Tuple es x1 pos) (eTup r) := by
  refine PE.imp (pe_tup h) fun σ H Q h => ?_
  refine tG.bind (k := fun env xs S1 => if xs.length ≤ LIM then Out.ok (Val.tup xs) S1 else Out.bad) h fun ρ env vs xs H1 S1 he hs rx hp => ?_
  split at hp
  · rename_i hl
    refine ⟨by rw [rx.length]; exact lim_le hl, fun p hn => ?_⟩
    exact hp _ ρ _ (Pre.refl _) (Ext.new hn) (hs.other hn) (.tup upd_same (rx.up (Pre.refl _) (Ext.new hn)))
  · exact hp.elim
theorem se_lst {es : List Expr} {r : En → Store → Out (List Val)} (h : SA X Y W es r) : SE X Y W (.List es pos) (eLst r) := by
  refine PE.imp (pe_lst h) fun σ H Q h => ?_
  refine tG.bind (k := fun env xs S1 => if xs.length ≤ LIM then Out.ok (Val.ref S1.length) (S1 ++ [.lst xs]) else Out.bad) h fun ρ env vs xs H1 S1 he hs rx hp => ?_
  split at hp
  · rename_i hl
    refine ⟨by rw [rx.length]; exact lim_le hl, fun p hn => ?_⟩
    exact hp _ (ρ ++ [p]) _ (Pre.snoc _ _) (Ext.new hn) (hs.new hn ⟨vs, upd_same, rx.up (Pre.snoc _ _) (Ext.new hn)⟩) (rep_new hs.len.symm)
  · exact hp.elim
/-- {} with int and text keys | with tuple keys -/
def eDk : En → Store → Out Val := fun _ S => .ok (.ref S.length) (S ++ [.dk []])
def eDt : En → Store → Out Val := fun _ S => .ok (.ref S.length) (S ++ [.dt []])
theorem se_dk : SE X Y W (.Dict [] [] pos) eDk := by
  refine PE.imp pe_dnewK fun σ H Q h => ?_
  obtain ⟨ρ, env, S, he, hs, h⟩ := h
  intro p hn
  exact h _ (ρ ++ [p]) _ (Pre.snoc _ _) (Ext.new hn) (hs.new hn ⟨[], upd_same, .nil⟩) (rep_new hs.len.symm)
theorem se_dt : SE X Y W (.Dict [] [] pos) eDt := by
  refine PE.imp pe_dnewT fun σ H Q h => ?_
  obtain ⟨ρ, env, S, he, hs, h⟩ := h
  intro p hn
  exact h _ (ρ ++ [p]) _ (Pre.snoc _ _) (Ext.new hn) (hs.new hn ⟨[], upd_same, .nil⟩) (rep_new hs.len.symm)
end
end Mp

set_option Elab.async false
set_option linter.all false
set_option maxRecDepth 100000
/-! Operators, comparisons, subscripts, slices. -/
namespace Mp
open PySem PySem.Spec PyProof.Rows L2

theorem Sim.lst {K : PySem.W.Frag} {Y : Sy} {ρ : List Addr} {H : Hp} {S : Store} (s : Sim K Y ρ H S) {i : Nat} {a : Addr} {xs : List Val} (h : ρ[i]? = some a) (e : S[i]? = some (.lst xs)) : ∃ vs, H a = some (.lst vs) ∧ Reps K ρ H vs xs := s.ob i a _ h e
theorem Sim.dk {K : PySem.W.Frag} {Y : Sy} {ρ : List Addr} {H : Hp} {S : Store} (s : Sim K Y ρ H S) {i : Nat} {a : Addr} {xs : List (Key × Val)} (h : ρ[i]? = some a) (e : S[i]? = some (.dk xs)) : ∃ vs, H a = some (.dK vs) ∧ RepK K ρ H vs xs := s.ob i a _ h e
theorem Sim.dt {K : PySem.W.Frag} {Y : Sy} {ρ : List Addr} {H : Hp} {S : Store} (s : Sim K Y ρ H S) {i : Nat} {a : Addr} {xs : List (List Key × Val)} (h : ρ[i]? = some a) (e : S[i]? = some (.dt xs)) : ∃ vs, H a = some (.dT vs) ∧ RepK K ρ H vs xs := s.ob i a _ h e
/-- a list that can be read: a store's list, a frozen one -/
def getL (S : Store) : Val → Option (List Val)
  | .ref i => match S[i]? with
    | some (.lst xs) => some xs
    | _ => none
  | .frz xs => some xs
  | _ => none
theorem getL_rep {K : PySem.W.Frag} {Y : Sy} {ρ : List Addr} {H : Hp} {S : Store} {v : V} {x : Val} {xs : List Val} (s : Sim K Y ρ H S) (r : Rep K ρ H v x) (h : getL S x = some xs) : ∃ a vs, v = .ref a ∧ SqL K H a vs ∧ Reps K ρ H vs xs := by
  cases r <;> try (simp [getL] at h)
  case frz a vs ys f r => subst h; exact ⟨a, vs, rfl, f.sq, r⟩
  case ref a i hi =>
    split at h
    · rename_i ys e
      cases h
      obtain ⟨vs, e1, r⟩ := s.lst hi e
      exact ⟨a, vs, rfl, SqL.of e1, r⟩
    · cases h

/-! ### data -/
mutual
def toD : Val → Option PyData
  | .non => some .none
  | .bl b => some (.bool b)
  | .int i => some (.int i)
  | .str x => some (.str x)
  | .tup xs => (toDs xs).map PyData.tuple
  | .frz xs => (toDs xs).map PyData.list
  | .ref _ => none
def toDs : List Val → Option (List PyData)
  | [] => some []
  | x :: xs => (toD x).bind fun d => (toDs xs).map fun ds => d :: ds
end
/-- .. and a list of the store, whose items are data -/
def toD1 (S : Store) (x : Val) : Option PyData := match x with
  | .ref i => match S[i]? with
    | some (.lst xs) => (toDs xs).map PyData.list
    | _ => none
  | x => toD x
section
variable {K : PySem.W.Frag} {Y : Sy} {ρ : List Addr} {H : Hp} {S : Store}
mutual
theorem toD_dp : ∀ {v : V} {x : Val} {d : PyData}, Rep K ρ H v x → toD x = some d → Dp K H v d
  | _, _, d, .non, h => by simp only [toD, Option.some.injEq] at h; subst h; exact .non
  | _, _, d, .bl b, h => by simp only [toD, Option.some.injEq] at h; subst h; exact .bl b
  | _, _, d, .int i, h => by simp only [toD, Option.some.injEq] at h; subst h; exact .int i
  | _, _, d, .str i, h => by simp only [toD, Option.some.injEq] at h; subst h; exact .str i
  | _, _, d, .tup e r, h => by
    simp only [toD, Option.map_eq_some_iff] at h
    obtain ⟨ds, h1, rfl⟩ := h
    exact .tup (SqT.of e) (toDs_dp r h1)
  | _, _, d, .frz e r, h => by
    simp only [toD, Option.map_eq_some_iff] at h
    obtain ⟨ds, h1, rfl⟩ := h
    exact .lst e.sq (toDs_dp r h1)
  | _, _, d, .ref _, h => by simp [toD] at h
theorem toDs_dp : ∀ {vs : List V} {xs : List Val} {ds : List PyData}, Reps K ρ H vs xs → toDs xs = some ds → DpAll K H vs ds
  | _, _, ds, .nil, h => by simp only [toDs, Option.some.injEq] at h; subst h; exact .nil
  | _, _, ds, .cons h1 h2, h => by
    simp only [toDs, Option.bind_eq_some_iff, Option.map_eq_some_iff] at h
    obtain ⟨d, e1, ds', e2, rfl⟩ := h
    exact .cons (toD_dp h1 e1) (toDs_dp h2 e2)
end
theorem toD1_dp (s : Sim K Y ρ H S) {v : V} {x : Val} {d : PyData} (r : Rep K ρ H v x) (h : toD1 S x = some d) : Dp K H v d := by
  cases x with
  | ref i =>
    cases r with
    | @ref a _ hi =>
      unfold toD1 at h
      dsimp only at h
      split at h
      · rename_i ys e1
        obtain ⟨ds, h1, rfl⟩ := Option.map_eq_some_iff.mp h
        obtain ⟨vs, e2, r⟩ := s.lst hi e1
        exact .lst (SqL.of e2) (toDs_dp r h1)
      · cases h
  | non => exact toD_dp r h
  | bl b => exact toD_dp r h
  | int b => exact toD_dp r h
  | str b => exact toD_dp r h
  | tup b => exact toD_dp r h
  | frz b => exact toD_dp r h
end

/-! ### arithmetic -/
def rOr (r r' : R2) : R2 := fun x y H Q => r x y H Q ∨ r' x y H Q
theorem OpR.or2 {X : Cx} {f : Value → Value → Sem Value} {r r' : R2} (h : OpR X f r) (h' : OpR X f r') : OpR X f (rOr r r') := h.or h'
def vAdd : BOp
  | .int i, .int j, S => .ok (.int (i + j)) S
  | .str a, .str b, S => if a.length + b.length ≤ LIM then .ok (.str (a ++ b)) S else .bad
  | .tup xs, .tup ys, S => if xs.length + ys.length ≤ LIM then .ok (.tup (xs ++ ys)) S else .bad
  | .ref i, .ref j, S => match S[i]?, S[j]? with
    | some (.lst xs), some (.lst ys) => if xs.length + ys.length ≤ LIM then .ok (.ref S.length) (S ++ [.lst (xs ++ ys)]) else .bad
    | _, _ => .bad
  | _, _, _ => .bad
def rAddS : R2 := fun x y H Q => ∃ i j, x = .str i ∧ y = .str j ∧ i.length + j.length ≤ sizeLine ∧ Q (.str (i ++ j)) H
def rAddI : R2 := rI0 fun i j => .int (i + j)
section
variable {X : Cx} {Y : Sy} {W : WX} {a b : Expr} {fa fb : En → Store → Out Val} {pos : Pos}
theorem op_vAdd : OpR X (binaryOp .Add) (rOr rAddI (rOr rAddS (rOr (rCatA X.K) rCat))) := OpR.or2 op_add (OpR.or2 op_add_str (OpR.or2 op_catA op_cat))
theorem vAdd_ok : OpS X Y (rOr rAddI (rOr rAddS (rOr (rCatA X.K) rCat))) vAdd := by
  intro W' ρ H S v w x y Q hs rx ry h
  cases rx <;> cases ry <;> try exact h.elim
  case int.int i j => exact .inl ⟨i, j, rfl, rfl, h _ ρ H (Pre.refl _) (Ext.refl _) hs (.int _)⟩
  case str.str i j =>
    simp only [vAdd] at h
    split at h
    · rename_i hl
      exact .inr (.inl ⟨i, j, rfl, rfl, lim_le hl, h _ ρ H (Pre.refl _) (Ext.refl _) hs (.str _)⟩)
    · exact h.elim
  case tup.tup a vs xs e1 r1 b ws ys e2 r2 =>
    simp only [vAdd] at h
    split at h
    · rename_i hl
      have l1 := r1.length
      have l2 := r2.length
      refine .inr (.inr (.inl ⟨a, b, vs, ws, rfl, rfl, SqT.of e1, SqT.of e2, by rw [l1, l2]; exact lim_le hl, fun z => ?_, fun _ z => ?_, fun _ _ p hn => ?_⟩))
      · subst z
        have : xs = [] := List.eq_nil_of_length_eq_zero l1.symm
        subst this
        exact h _ ρ H (Pre.refl _) (Ext.refl _) hs (.tup e2 r2)
      · subst z
        have : ys = [] := List.eq_nil_of_length_eq_zero l2.symm
        subst this
        exact h _ ρ H (Pre.refl _) (Ext.refl _) hs (.tup e1 (by simpa using r1))
      · exact h _ ρ _ (Pre.refl _) (Ext.new hn) (hs.other hn) (.tup upd_same ((r1.append r2).up (Pre.refl _) (Ext.new hn)))
    · exact h.elim
  case ref.ref a i hi b j hj =>
    simp only [vAdd] at h
    split at h
    · rename_i xs ys e1 e2
      split at h
      · rename_i hl
        obtain ⟨vs, q1, r1⟩ := hs.lst hi e1
        obtain ⟨ws, q2, r2⟩ := hs.lst hj e2
        refine .inr (.inr (.inr ⟨a, b, vs, ws, rfl, rfl, q1, q2, by rw [r1.length, r2.length]; exact lim_le hl, fun p hn => ?_⟩))
        exact h _ (ρ ++ [p]) _ (Pre.snoc _ _) (Ext.new hn) (hs.new hn ⟨_, upd_same, (r1.append r2).up (Pre.snoc _ _) (Ext.new hn)⟩) (rep_new hs.len.symm)
      · exact h.elim
    · exact h.elim
theorem se_add (ha : SE X Y W a fa) (hb : SE X Y W b fb) : SE X Y W (.BinOp a .Add b pos) (eB2 vAdd fa fb) := se_op op_vAdd vAdd_ok ha hb
/-- ints alone -/
def vI2 (g : Int → Int → Val) : BOp
  | .int i, .int j, S => .ok (g i j) S
  | _, _, _ => .bad
theorem vI2_ok {g : Int → Int → V} {g' : Int → Int → Val} (hg : ∀ K ρ H i j, Rep K ρ H (g i j) (g' i j)) : OpS X Y (rI0 g) (vI2 g') := by
  intro W' ρ H S v w x y Q hs rx ry h
  cases rx <;> cases ry <;> try exact h.elim
  case int.int i j => exact ⟨i, j, rfl, rfl, h _ ρ H (Pre.refl _) (Ext.refl _) hs (hg _ _ _ i j)⟩
/-- .. under a condition -/
def vIC (C : Int → Int → Prop) [∀ i j, Decidable (C i j)] (g : Int → Int → Int) : BOp
  | .int i, .int j, S => if C i j then .ok (.int (g i j)) S else .bad
  | _, _, _ => .bad
theorem vIC_ok {C C' : Int → Int → Prop} [∀ i j, Decidable (C i j)] {g : Int → Int → Int} (hc : ∀ i j, C i j → C' i j) : OpS X Y (rI C' fun i j => .int (g i j)) (vIC C g) := by
  intro W' ρ H S v w x y Q hs rx ry h
  cases rx <;> cases ry <;> try exact h.elim
  case int.int i j =>
    simp only [vIC] at h
    split at h
    · rename_i hz
      exact ⟨i, j, rfl, rfl, hc i j hz, h _ ρ H (Pre.refl _) (Ext.refl _) hs (.int _)⟩
    · exact h.elim
abbrev vSub : BOp := vI2 fun i j => .int (i - j)
abbrev CM (i j : Int) : Prop := i.natAbs < 2 ^ 2000 ∧ j.natAbs < 2 ^ 2000
abbrev CD (_ j : Int) : Prop := 0 < j ∧ j < 2 ^ 64
abbrev CP (i j : Int) : Prop := 0 ≤ j ∧ j ≤ 1000000 ∧ i.natAbs < 2 ^ 64
abbrev vMul : BOp := vIC CM fun i j => i * j
abbrev vFdiv : BOp := vIC CD fun i j => i / j
abbrev vMod : BOp := vIC (fun _ j => 0 < j) fun i j => i % j
abbrev vPow : BOp := vIC CP fun i j => i ^ j.toNat
theorem se_sub (ha : SE X Y W a fa) (hb : SE X Y W b fb) : SE X Y W (.BinOp a .Sub b pos) (eB2 vSub fa fb) := se_op op_sub (vI2_ok fun _ _ _ _ _ => .int _) ha hb
theorem se_mul (ha : SE X Y W a fa) (hb : SE X Y W b fb) : SE X Y W (.BinOp a .Mult b pos) (eB2 vMul fa fb) := se_op op_mulW (vIC_ok fun i j h => wide_mul (a := 2000) (b := 2000) h.1 h.2 (by decide) (by decide) (by decide)) ha hb
theorem se_fdiv (ha : SE X Y W a fa) (hb : SE X Y W b fb) : SE X Y W (.BinOp a .FloorDiv b pos) (eB2 vFdiv fa fb) := se_op op_fdivW (vIC_ok fun i j h => wide_div (b := 64) h.1 (by have := h.2; omega) (by decide) (by decide)) ha hb
theorem se_mod (ha : SE X Y W a fa) (hb : SE X Y W b fb) : SE X Y W (.BinOp a .Mod b pos) (eB2 vMod fa fb) := se_op op_mod (vIC_ok fun i j h => h) ha hb
theorem se_pow (ha : SE X Y W a fa) (hb : SE X Y W b fb) : SE X Y W (.BinOp a .Pow b pos) (eB2 vPow fa fb) := se_op op_pow (vIC_ok fun i j h => h) ha hb
def eNeg (f : En → Store → Out Val) : En → Store → Out Val := fun env S => (f env S).bind fun x S1 => match x with
  | .int i => .ok (.int (-i)) S1
  | _ => .bad
theorem se_neg (ha : SE X Y W a fa) : SE X Y W (.UnaryOp .USub a pos) (eNeg fa) := by
  refine PE.imp (pe_un un_neg ha) fun σ H Q h => ?_
  refine tG.bind (k := fun env x S1 => match x with | .int i => Out.ok (Val.int (-i)) S1 | _ => Out.bad) h fun ρ env v x H1 S1 he hs rx hp => ?_
  cases rx <;> try exact hp.elim
  rename_i i
  exact ⟨i, rfl, hp _ ρ H1 (Pre.refl _) (Ext.refl _) hs (.int _)⟩

/-! ### order: ints, tuples of ints -/
def intsOf : List Val → Option (List Int)
  | [] => some []
  | .int i :: r => (intsOf r).map fun ns => i :: ns
  | _ :: _ => none
theorem intsOf_rep {K : PySem.W.Frag} {ρ : List Addr} {H : Hp} : ∀ {vs : List V} {xs : List Val} {ns : List Int}, Reps K ρ H vs xs → intsOf xs = some ns → vs = ns.map V.int
  | _, _, _, .nil, h => by simp only [intsOf, Option.some.injEq] at h; subst h; rfl
  | _, _, ns, .cons h1 h2, h => by
    cases h1 <;> try (simp [intsOf] at h; done)
    simp only [intsOf, Option.map_eq_some_iff] at h
    obtain ⟨ms, e, rfl⟩ := h
    rw [intsOf_rep h2 e]
    rfl
/-- by g on ints, by t on tuples of ints -/
def vOrd (g : Int → Int → Bool) (t : List Int → List Int → Bool) : BOp
  | .int i, .int j, S => .ok (.bl (g i j)) S
  | .tup xs, .tup ys, S => match intsOf xs, intsOf ys with
    | some ns, some ms => .ok (.bl (t ns ms)) S
    | _, _ => .bad
  | _, _, _ => .bad
def rTup (K : PySem.W.Frag) (t : List Int → List Int → Bool) : R2 := fun x y H Q => ∃ (a b : Addr) (ns ms : List Int), x = .ref a ∧ y = .ref b ∧ SqT K H a (ns.map V.int) ∧ SqT K H b (ms.map V.int) ∧ Q (.bl (t ns ms)) H
theorem vOrd_ok {g : Int → Int → Bool} {t : List Int → List Int → Bool} : OpS X Y (rOr (rI0 fun i j => .bl (g i j)) (rTup X.K t)) (vOrd g t) := by
  intro W' ρ H S v w x y Q hs rx ry h
  cases rx <;> cases ry <;> try exact h.elim
  case int.int i j => exact .inl ⟨i, j, rfl, rfl, h _ ρ H (Pre.refl _) (Ext.refl _) hs (.bl _)⟩
  case tup.tup a vs xs e1 r1 b ws ys e2 r2 =>
    simp only [vOrd] at h
    split at h
    · rename_i ns ms h1 h2
      have i1 := intsOf_rep r1 h1
      have i2 := intsOf_rep r2 h2
      subst i1; subst i2
      exact .inr ⟨a, b, ns, ms, rfl, rfl, SqT.of e1, SqT.of e2, h _ ρ H (Pre.refl _) (Ext.refl _) hs (.bl _)⟩
    · exact h.elim
abbrev leL (ns ms : List Int) : Bool := _root_.Ob.lexAt (fun j => decide (ns.getD j 0 = ms.getD j 0)) (fun j => decide (ns.getD j 0 ≤ ms.getD j 0)) (decide (ns.length ≤ ms.length)) 0 (min ns.length ms.length)
end
end Mp

set_option Elab.async false
set_option linter.all false
set_option maxRecDepth 100000
/-! Comparisons, membership, subscripts, slices. -/
namespace Mp
open PySem PySem.Spec PyProof.Rows L2

section
variable {X : Cx} {Y : Sy} {W : WX} {a b : Expr} {fa fb : En → Store → Out Val} {pos : Pos}
/-! ### t > u of tuples of ints -/
theorem vals_int_at {ns : List Int} {its : List Value} (r : Vals (ns.map V.int) its) (j : Nat) (h : j < its.toArray.size) : ∃ t, its.toArray[j] = Value.int (ns.getD j 0) t := by
  have hl := r.length
  rw [List.length_map] at hl
  simp at h
  have e : (ns.map V.int)[j]? = some (V.int (ns.getD j 0)) := by
    rw [List.getElem?_map, List.getElem?_eq_getElem (by omega)]
    simp [List.getD_eq_getElem?_getD, List.getElem?_eq_getElem (show j < ns.length by omega)]
  obtain ⟨u, h1, t, h2⟩ := r.get e
  refine ⟨t, ?_⟩
  rw [List.getElem?_eq_getElem h] at h1
  cases h1
  simpa using h2
abbrev gtL (ns ms : List Int) : Bool := _root_.Ob.lexAt (fun j => decide (ns.getD j 0 = ms.getD j 0)) (fun j => decide (ms.getD j 0 < ns.getD j 0)) (decide (ns.length > ms.length)) 0 (min ns.length ms.length)
theorem op_gtT (hu : X.A.units < cLine) : OpR X (compareOp .Gt) (rTup X.K gtL) := by
  intro pins s σ H x y v u Q I rx ry h
  obtain ⟨p, q, ns, ms, rfl, rfl, hp, hq, hQ⟩ := h
  cases rx
  cases ry
  obtain ⟨its, r1, t1, _⟩ := I.tuple hp
  obtain ⟨jts, r2, t2, _⟩ := I.tuple hq
  have n1 : its.toArray.size = ns.length := by rw [List.size_toArray, ← r1.length, List.length_map]
  have n2 : jts.toArray.size = ms.length := by rw [List.size_toArray, ← r2.length, List.length_map]
  have G := _root_.Ob.RcOp.tuples_gt (A := X.A) (s := s) (e := fun j => decide (ns.getD j 0 = ms.getD j 0)) (r := fun j => decide (ms.getD j 0 < ns.getD j 0)) t1 t2 hu
    (fun j h1 h2 => by
      obtain ⟨t, et⟩ := vals_int_at r1 j h1
      obtain ⟨t', et'⟩ := vals_int_at r2 j h2
      have z : decide (ns.getD j 0 = ms.getD j 0) = (ns.getD j 0 == ms.getD j 0) := by
        by_cases q : ns.getD j 0 = ms.getD j 0
        · rw [q]; simp
        · rw [decide_eq_false q, beq_eq_false_iff_ne.mpr q]
      rw [et, et', z]
      exact SeqAt.EqAt.int_int _ _ _ _)
    (fun j h1 h2 _ => by
      obtain ⟨t, et⟩ := vals_int_at r1 j h1
      obtain ⟨t', et'⟩ := vals_int_at r2 j h2
      rw [et, et']
      exact _root_.Ob.RcOp.gt_int _ _ _ _)
  rw [n1, n2] at G
  exact G X.prog X.w X.xe (EP X pins σ Q) ⟨.bl _, H, I, rfl, hQ⟩
abbrev vLt : BOp := vOrd (fun i j => decide (i < j)) HT.lexLt
abbrev vLe : BOp := vOrd (fun i j => decide (i ≤ j)) leL
abbrev vGt : BOp := vOrd (fun i j => decide (j < i)) gtL
abbrev vGe : BOp := vI2 fun i j => .bl (decide (j ≤ i))
theorem op_vLt (hu : X.A.units < cLine) : OpR X (compareOp .Lt) (rOr (rI0 fun i j => .bl (decide (i < j))) (rTup X.K HT.lexLt)) := OpR.or2 op_lt (op_ltT hu)
theorem op_vLe (hu : X.A.units < cLine) : OpR X (compareOp .LtE) (rOr (rI0 fun i j => .bl (decide (i ≤ j))) (rTup X.K leL)) := OpR.or2 op_le (op_leT hu)
theorem op_vGt (hu : X.A.units < cLine) : OpR X (compareOp .Gt) (rOr (rI0 fun i j => .bl (decide (j < i))) (rTup X.K gtL)) := OpR.or2 op_gt (op_gtT hu)
theorem se_lt (hu : X.A.units < cLine) (ha : SE X Y W a fa) (hb : SE X Y W b fb) : SE X Y W (.Compare a [.Lt] [b] pos) (eB2 vLt fa fb) := se_cmp (op_vLt hu) vOrd_ok ha hb (nomark _)
theorem se_le (hu : X.A.units < cLine) (ha : SE X Y W a fa) (hb : SE X Y W b fb) : SE X Y W (.Compare a [.LtE] [b] pos) (eB2 vLe fa fb) := se_cmp (op_vLe hu) vOrd_ok ha hb (nomark _)
theorem se_gt (hu : X.A.units < cLine) (ha : SE X Y W a fa) (hb : SE X Y W b fb) : SE X Y W (.Compare a [.Gt] [b] pos) (eB2 vGt fa fb) := se_cmp (op_vGt hu) vOrd_ok ha hb (nomark _)
theorem se_ge (ha : SE X Y W a fa) (hb : SE X Y W b fb) : SE X Y W (.Compare a [.GtE] [b] pos) (eB2 vGe fa fb) := se_cmp op_ge (vI2_ok fun _ _ _ _ _ => .bl _) ha hb (nomark _)
theorem st_lt (hu : X.A.units < cLine) (ha : SE X Y W a fa) (hb : SE X Y W b fb) : ST X Y W (.Compare a [.Lt] [b] pos) (bV (eB2 vLt fa fb)) := st_cmp (op_vLt hu) vOrd_ok ha hb (nomark _)
theorem st_le (hu : X.A.units < cLine) (ha : SE X Y W a fa) (hb : SE X Y W b fb) : ST X Y W (.Compare a [.LtE] [b] pos) (bV (eB2 vLe fa fb)) := st_cmp (op_vLe hu) vOrd_ok ha hb (nomark _)
theorem st_gt (hu : X.A.units < cLine) (ha : SE X Y W a fa) (hb : SE X Y W b fb) : ST X Y W (.Compare a [.Gt] [b] pos) (bV (eB2 vGt fa fb)) := st_cmp (op_vGt hu) vOrd_ok ha hb (nomark _)
theorem st_ge (ha : SE X Y W a fa) (hb : SE X Y W b fb) : ST X Y W (.Compare a [.GtE] [b] pos) (bV (eB2 vGe fa fb)) := st_cmp op_ge (vI2_ok fun _ _ _ _ _ => .bl _) ha hb (nomark _)
/-- a op b op' c -/
def eCh (g g' : BOp) (fa fb fc : En → Store → Out Val) : En → Store → Out Val := fun env S => (fa env S).bind fun x S1 => (fb env S1).bind fun y S2 => (g x y S2).bind fun r S3 => match r with
  | .bl true => (fc env S3).bind fun z S4 => g' y z S4
  | .bl false => .ok (.bl false) S3
  | _ => .bad
/-- an operator that makes nothing and gives a flag -/
def FlagOp (g : BOp) : Prop := ∀ x y S, (∃ k, g x y S = .ok (.bl k) S) ∨ g x y S = .bad
theorem vOrd_flag {g : Int → Int → Bool} {t : List Int → List Int → Bool} : FlagOp (vOrd g t) := fun x y S => by
  cases x <;> cases y <;> try exact .inr rfl
  · exact .inl ⟨_, rfl⟩
  · simp only [vOrd]
    split
    · exact .inl ⟨_, rfl⟩
    · exact .inr rfl
theorem vI2_flag {g : Int → Int → Bool} : FlagOp (vI2 fun i j => .bl (g i j)) := fun x y S => by
  cases x <;> cases y <;> first | exact .inr rfl | exact .inl ⟨_, rfl⟩
theorem tChain_of {r r' : R2} {g g' : BOp} {fc : En → Store → Out Val} {σ : L2.St} {H : Hp} {Q : VK} (ho : OpS X Y r g) (hf : FlagOp g) (ho' : OpS X Y r' g')
    (h : tG X.K Y W (RV X.K) (eCh g g' fa fb fc) σ H Q) : tChain r r' (tG X.K Y W (RV X.K) fa) (tG X.K Y W (RV X.K) fb) (tG X.K Y W (RV X.K) fc) σ H Q := by
  refine tG.bind (k := fun env x S1 => (fb env S1).bind fun y S2 => (g x y S2).bind fun r S3 => match r with
    | .bl true => (fc env S3).bind fun z S4 => g' y z S4
    | .bl false => Out.ok (Val.bl false) S3
    | _ => Out.bad) h fun ρ env v x H1 S1 he hs rx hp => ?_
  refine tG.go he hs hp fun ρ2 w y H2 S2 p2 e2 he2 hs2 ry hp2 => ?_
  refine ho (fun _ _ _ => False) ρ2 H2 S2 v w x y _ hs2 (rx.up p2 e2) ry ?_
  rcases hf x y S2 with ⟨k, e⟩ | e
  · rw [e]
    rw [e] at hp2
    intro z ρ3 H3 p3 e3 hs3 rz
    cases rz
    refine ⟨k, rfl, ?_⟩
    cases k with
    | true =>
      refine iteT ?_
      refine tG.go (he2.up p3 e3) hs3 (Post.up p3 e3 hp2) fun ρ4 w' z H4 S4 p4 e4 he4 hs4 rz hp4 => ?_
      exact ho' _ ρ4 H4 S4 w w' y z Q hs4 (ry.up (p3.trans p4) (e3.trans e4)) rz hp4
    | false => exact iteF (hp2 _ ρ3 H3 p3 e3 hs3 (.bl false))
  · rw [e] at hp2
    exact hp2.elim
section
variable {op op' : CmpOp} {r r' : R2} {g g' : BOp} {c : Expr} {fc : En → Store → Out Val}
theorem se_ch (hr : OpR X (compareOp op) r) (ho : OpS X Y r g) (hf : FlagOp g) (hr' : OpR X (compareOp op') r') (ho' : OpS X Y r' g')
    (ha : SE X Y W a fa) (hb : SE X Y W b fb) (hc : SE X Y W c fc) (hm : lastMarks [op, op'] [b, c] = false := by with_unfolding_all rfl) : SE X Y W (.Compare a [op, op'] [b, c] pos) (eCh g g' fa fb fc) :=
  PE.imp (pe_chain hr hr' ha hb hc hm) fun _ _ _ h => tChain_of ho hf ho' h
theorem st_ch (hr : OpR X (compareOp op) r) (ho : OpS X Y r g) (hf : FlagOp g) (hr' : OpR X (compareOp op') r') (ho' : OpS X Y r' g')
    (ha : SE X Y W a fa) (hb : SE X Y W b fb) (hc : SE X Y W c fc) (hm : lastMarks [op, op'] [b, c] = false := by with_unfolding_all rfl) : ST X Y W (.Compare a [op, op'] [b, c] pos) (bV (eCh g g' fa fb fc)) :=
  PT.imp (pt_chain hr hr' ha hb hc hm) fun _ _ _ h => tTest_of (fun _ q => tChain_of ho hf ho' q) h
end

/-! ### is -/
def isV : Val → Val → Option Bool
  | .non, .non => some true
  | .non, .bl _ => some false
  | .bl _, .non => some false
  | .bl a, .bl b => some (decide (a = b))
  | _, .non => some false
  | _, .bl _ => some false
  | _, _ => none
def vIs : BOp := fun x y S => match isV x y with
  | some k => .ok (.bl k) S
  | none => .bad
def vIsN : BOp := fun x y S => match isV x y with
  | some k => .ok (.bl (!k)) S
  | none => .bad
def rIs : R2 := fun x y H Q => (y = .non ∧ Q (.bl (decide (x = .non))) H) ∨ ∃ b, y = .bl b ∧ Q (.bl (decide (x = .bl b))) H
def rIsN : R2 := fun x y H Q => (y = .non ∧ Q (.bl (!decide (x = .non))) H) ∨ ∃ b, y = .bl b ∧ Q (.bl (!decide (x = .bl b))) H
theorem plain_bool {v : Value} {b : Bool} {x : V} (r : RelV x v) : plainIs v (.bool b) = true ∧ (v = .bool b ↔ x = .bl b) := by
  cases x <;> first
    | (cases r; refine ⟨rfl, ?_⟩; constructor <;> intro h <;> cases h <;> rfl)
    | (obtain ⟨t, rfl⟩ := r; refine ⟨rfl, ?_⟩; constructor <;> intro h <;> cases h)
theorem op_vIs : OpR X (compareOp .Is) rIs := by
  intro pins s σ H x y v u Q I rx ry h
  rcases h with ⟨rfl, q⟩ | ⟨b, rfl, q⟩
  · exact op_isN pins s σ H x _ v u Q I rx ry ⟨rfl, q⟩
  · cases ry
    obtain ⟨hp, hi⟩ := plain_bool (b := b) rx
    by_cases e : x = .bl b
    · have ev := hi.mpr e
      subst ev
      exact wpAny_is_self hp ⟨.bl true, H, I, rfl, by simpa [e] using q⟩
    · exact wpAny_is_other hp (fun z => e (hi.mp z)) ⟨.bl false, H, I, rfl, by simpa [e] using q⟩
theorem op_vIsN : OpR X (compareOp .IsNot) rIsN := by
  intro pins s σ H x y v u Q I rx ry h
  rcases h with ⟨rfl, q⟩ | ⟨b, rfl, q⟩
  · exact op_notN pins s σ H x _ v u Q I rx ry ⟨rfl, q⟩
  · cases ry
    obtain ⟨hp, hi⟩ := plain_bool (b := b) rx
    by_cases e : x = .bl b
    · have ev := hi.mpr e
      subst ev
      exact wpAny_isNot_self hp ⟨.bl false, H, I, rfl, by simpa [e] using q⟩
    · exact wpAny_isNot_other hp (fun z => e (hi.mp z)) ⟨.bl true, H, I, rfl, by simpa [e] using q⟩
theorem isV_rep {K : PySem.W.Frag} {ρ : List Addr} {H : Hp} {v w : V} {x y : Val} {k : Bool} (rx : Rep K ρ H v x) (ry : Rep K ρ H w y) (h : isV x y = some k) : (w = .non ∧ decide (v = .non) = k) ∨ ∃ b, w = .bl b ∧ decide (v = .bl b) = k := by
  cases ry <;> cases rx <;> simp only [isV, Option.some.injEq, reduceCtorEq] at h <;> subst h <;> first
    | exact .inl ⟨rfl, by simp⟩
    | exact .inr ⟨_, rfl, by simp⟩
theorem vIs_ok : OpS X Y rIs vIs := by
  intro W' ρ H S v w x y Q hs rx ry h
  unfold vIs at h
  split at h
  · rename_i k e
    rcases isV_rep rx ry e with ⟨q1, q2⟩ | ⟨b, q1, q2⟩
    · exact .inl ⟨q1, by rw [q2]; exact h _ ρ H (Pre.refl _) (Ext.refl _) hs (.bl _)⟩
    · exact .inr ⟨b, q1, by rw [q2]; exact h _ ρ H (Pre.refl _) (Ext.refl _) hs (.bl _)⟩
  · exact h.elim
theorem vIsN_ok : OpS X Y rIsN vIsN := by
  intro W' ρ H S v w x y Q hs rx ry h
  unfold vIsN at h
  split at h
  · rename_i k e
    rcases isV_rep rx ry e with ⟨q1, q2⟩ | ⟨b, q1, q2⟩
    · exact .inl ⟨q1, by rw [q2]; exact h _ ρ H (Pre.refl _) (Ext.refl _) hs (.bl _)⟩
    · exact .inr ⟨b, q1, by rw [q2]; exact h _ ρ H (Pre.refl _) (Ext.refl _) hs (.bl _)⟩
  · exact h.elim
theorem se_is (ha : SE X Y W a fa) (hb : SE X Y W b fb) : SE X Y W (.Compare a [.Is] [b] pos) (eB2 vIs fa fb) := se_cmp op_vIs vIs_ok ha hb (nomark _)
theorem se_isN (ha : SE X Y W a fa) (hb : SE X Y W b fb) : SE X Y W (.Compare a [.IsNot] [b] pos) (eB2 vIsN fa fb) := se_cmp op_vIsN vIsN_ok ha hb (nomark _)
theorem st_is (ha : SE X Y W a fa) (hb : SE X Y W b fb) : ST X Y W (.Compare a [.Is] [b] pos) (bV (eB2 vIs fa fb)) := st_cmp op_vIs vIs_ok ha hb (nomark _)
theorem st_isN (ha : SE X Y W a fa) (hb : SE X Y W b fb) : ST X Y W (.Compare a [.IsNot] [b] pos) (bV (eB2 vIsN fa fb)) := st_cmp op_vIsN vIsN_ok ha hb (nomark _)

/-! ### == of data -/
def eqv1 (S : Store) (x y : Val) : Option Bool := (toD1 S x).bind fun d => (toD1 S y).bind fun e => if SeqAt.shaped d = true ∧ SeqAt.shaped e = true then some (PyData.eqv d e) else none
def vEq : BOp := fun x y S => match eqv1 S x y with
  | some k => .ok (.bl k) S
  | none => .bad
def vNe : BOp := fun x y S => match eqv1 S x y with
  | some k => .ok (.bl (!k)) S
  | none => .bad
theorem eqv1_dp {K : PySem.W.Frag} {ρ : List Addr} {H : Hp} {S : Store} {v w : V} {x y : Val} {k : Bool} (hs : Sim K Y ρ H S) (rx : Rep K ρ H v x) (ry : Rep K ρ H w y) (h : eqv1 S x y = some k) :
    ∃ d e, Dp K H v d ∧ Dp K H w e ∧ SeqAt.shaped d = true ∧ SeqAt.shaped e = true ∧ PyData.eqv d e = k := by
  unfold eqv1 at h
  simp only [Option.bind_eq_some_iff] at h
  obtain ⟨d, h1, e, h2, h3⟩ := h
  split at h3
  · rename_i hz
    cases h3
    exact ⟨d, e, toD1_dp hs rx h1, toD1_dp hs ry h2, hz.1, hz.2, rfl⟩
  · cases h3
theorem vEq_ok : OpS X Y (rEqD X.K) vEq := by
  intro W' ρ H S v w x y Q hs rx ry h
  unfold vEq at h
  split at h
  · rename_i k e
    obtain ⟨d, d', h1, h2, h3, h4, h5⟩ := eqv1_dp hs rx ry e
    exact ⟨d, d', h1, h2, h3, h4, by rw [h5]; exact h _ ρ H (Pre.refl _) (Ext.refl _) hs (.bl _)⟩
  · exact h.elim
theorem vNe_ok : OpS X Y (rNeD X.K) vNe := by
  intro W' ρ H S v w x y Q hs rx ry h
  unfold vNe at h
  split at h
  · rename_i k e
    obtain ⟨d, d', h1, h2, h3, h4, h5⟩ := eqv1_dp hs rx ry e
    exact ⟨d, d', h1, h2, h3, h4, by rw [h5]; exact h _ ρ H (Pre.refl _) (Ext.refl _) hs (.bl _)⟩
  · exact h.elim
theorem se_eq (hu : X.A.units + 64 < cLine) (ha : SE X Y W a fa) (hb : SE X Y W b fb) : SE X Y W (.Compare a [.Eq] [b] pos) (eB2 vEq fa fb) := se_cmp (op_eqD hu) vEq_ok ha hb (nomark _)
theorem se_ne (hu : X.A.units + 64 < cLine) (ha : SE X Y W a fa) (hb : SE X Y W b fb) : SE X Y W (.Compare a [.NotEq] [b] pos) (eB2 vNe fa fb) := se_cmp (op_neD hu) vNe_ok ha hb (nomark _)
theorem st_eq (hu : X.A.units + 64 < cLine) (ha : SE X Y W a fa) (hb : SE X Y W b fb) : ST X Y W (.Compare a [.Eq] [b] pos) (bV (eB2 vEq fa fb)) := st_cmp (op_eqD hu) vEq_ok ha hb (nomark _)
theorem st_ne (hu : X.A.units + 64 < cLine) (ha : SE X Y W a fa) (hb : SE X Y W b fb) : ST X Y W (.Compare a [.NotEq] [b] pos) (bV (eB2 vNe fa fb)) := st_cmp (op_neD hu) vNe_ok ha hb (nomark _)
end
end Mp

set_option Elab.async false
set_option linter.all false
set_option maxRecDepth 100000
/-! Keys, membership, subscripts, slices. -/
namespace Mp
open PySem PySem.Spec PyProof.Rows L2

/-! ### keys -/
def keyOf : Val → Option Key
  | .int i => some (.inl i)
  | .str x => some (.inr x)
  | _ => none
def keysOf : List Val → Option (List Key)
  | [] => some []
  | x :: xs => (keyOf x).bind fun k => (keysOf xs).map fun ks => k :: ks
def tkeyOf : Val → Option (List Key)
  | .tup xs => keysOf xs
  | _ => none
def lookK {κ : Type} [DecidableEq κ] (kvs : List (κ × Val)) (k : κ) : Option Val := (kvs.find? fun kv => decide (kv.1 = k)).map (·.2)
def putD {κ : Type} [DecidableEq κ] (kvs : List (κ × Val)) (k : κ) (v : Val) : List (κ × Val) :=
  if kvs.any (fun kv => decide (kv.1 = k)) then kvs.map fun kv => if kv.1 = k then (kv.1, v) else kv else kvs ++ [(k, v)]
section
variable {K : PySem.W.Frag} {Y : Sy} {ρ : List Addr} {H : Hp} {S : Store}
theorem keyOf_rep {v : V} {x : Val} {k : Key} (r : Rep K ρ H v x) (h : keyOf x = some k) : v = kV k := by
  cases r <;> simp only [keyOf, Option.some.injEq, reduceCtorEq] at h <;> subst h <;> rfl
theorem keysOf_rep : ∀ {vs : List V} {xs : List Val} {ks : List Key}, Reps K ρ H vs xs → keysOf xs = some ks → vs = ks.map kV
  | _, _, _, .nil, h => by simp only [keysOf, Option.some.injEq] at h; subst h; rfl
  | _, _, _, .cons h1 h2, h => by
    simp only [keysOf, Option.bind_eq_some_iff, Option.map_eq_some_iff] at h
    obtain ⟨k, e1, ks, e2, rfl⟩ := h
    rw [keyOf_rep h1 e1, keysOf_rep h2 e2]
    rfl
theorem tkeyOf_rep {v : V} {x : Val} {ks : List Key} (r : Rep K ρ H v x) (h : tkeyOf x = some ks) : ∃ b, v = .ref b ∧ H b = some (.tup (ks.map kV)) := by
  cases r <;> try (simp [tkeyOf] at h; done)
  case tup a vs xs e r =>
    have := keysOf_rep r h
    subst this
    exact ⟨a, rfl, e⟩
theorem RepK.look {κ : Type} [DecidableEq κ] (k : κ) : ∀ {ws : List (κ × V)} {kvs : List (κ × Val)}, RepK K ρ H ws kvs → (lookK kvs k = none ∧ valV ws k = none) ∨ ∃ v x, lookK kvs k = some x ∧ valV ws k = some v ∧ Rep K ρ H v x
  | _, _, .nil => .inl ⟨rfl, rfl⟩
  | p :: _, q :: tl, .cons h r => by
    by_cases e : p.1 = k
    · refine .inr ⟨p.2, q.2, ?_, valV_pos e, h.2⟩
      simp [lookK, List.find?_cons, ← h.1, e]
    · have e' : ¬ q.1 = k := by rw [← h.1]; exact e
      have a1 : lookK (q :: tl) k = lookK tl k := by simp [lookK, List.find?_cons, e']
      rcases RepK.look k r with ⟨h1, h2⟩ | ⟨v, x, h1, h2, h3⟩
      · exact .inl ⟨a1.trans h1, (valV_neg e).trans h2⟩
      · exact .inr ⟨v, x, a1.trans h1, (valV_neg e).trans h2, h3⟩
theorem RepK.any {κ : Type} [DecidableEq κ] (k : κ) : ∀ {ws : List (κ × V)} {kvs : List (κ × Val)}, RepK K ρ H ws kvs → (ws.any fun kv => decide (kv.1 = k)) = kvs.any fun kv => decide (kv.1 = k)
  | _, _, .nil => rfl
  | _, _, .cons h r => by rw [List.any_cons, List.any_cons, h.1, RepK.any k r]
theorem RepK.repl {κ : Type} [DecidableEq κ] (k : κ) {v : V} {x : Val} (hv : Rep K ρ H v x) : ∀ {ws : List (κ × V)} {kvs : List (κ × Val)}, RepK K ρ H ws kvs →
    RepK K ρ H (ws.map fun kv => if kv.1 = k then (kv.1, v) else kv) (kvs.map fun kv => if kv.1 = k then (kv.1, x) else kv)
  | _, _, .nil => .nil
  | p :: _, q :: _, .cons h r => by
    refine .cons ?_ (RepK.repl k hv r)
    dsimp only
    by_cases e : p.1 = k
    · have e' : q.1 = k := by rw [← h.1]; exact e
      rw [if_pos e, if_pos e']
      exact ⟨h.1, hv⟩
    · have e' : ¬ q.1 = k := by rw [← h.1]; exact e
      rw [if_neg e, if_neg e']
      exact h
theorem RepK.append {κ : Type} : ∀ {ws ws' : List (κ × V)} {kvs kvs' : List (κ × Val)}, RepK K ρ H ws kvs → RepK K ρ H ws' kvs' → RepK K ρ H (ws ++ ws') (kvs ++ kvs')
  | _, _, _, _, .nil, s => s
  | _, _, _, _, .cons h r, s => .cons h (RepK.append r s)
theorem RepK.put {κ : Type} [DecidableEq κ] (k : κ) {v : V} {x : Val} (hv : Rep K ρ H v x) {ws : List (κ × V)} {kvs : List (κ × Val)} (r : RepK K ρ H ws kvs) : RepK K ρ H (putK ws k v) (putD kvs k x) := by
  unfold putK putD
  rw [r.any k]
  split
  · exact r.repl k hv
  · exact r.append (.cons ⟨rfl, hv⟩ .nil)
/-- what a dict of the store holds -/
def dLook (S : Store) (d k : Val) : Option (Option Val) := match d with
  | .ref i => match S[i]? with
    | some (.dk kvs) => (keyOf k).map fun k => lookK kvs k
    | some (.dt kvs) => (tkeyOf k).map fun k => lookK kvs k
    | _ => none
  | _ => none
theorem dLook_rep (hs : Sim K Y ρ H S) {v w : V} {d k : Val} {o : Option Val} (rd : Rep K ρ H v d) (rk : Rep K ρ H w k) (h : dLook S d k = some o) :
    ∃ a o', v = .ref a ∧ DGet H a w o' ∧ ((o = none ∧ o' = none) ∨ ∃ x y, o = some x ∧ o' = some y ∧ Rep K ρ H y x) := by
  cases rd <;> try (simp [dLook] at h; done)
  case ref a i hi =>
    simp only [dLook] at h
    split at h
    · rename_i kvs e
      obtain ⟨k', e1, rfl⟩ := Option.map_eq_some_iff.mp h
      obtain ⟨ws, q, r⟩ := hs.dk hi e
      have ek := keyOf_rep rk e1
      subst ek
      rcases r.look k' with ⟨h1, h2⟩ | ⟨v, x, h1, h2, h3⟩
      · exact ⟨a, _, rfl, DGet.k q, .inl ⟨h1, h2⟩⟩
      · exact ⟨a, _, rfl, DGet.k q, .inr ⟨x, v, h1, h2, h3⟩⟩
    · rename_i kvs e
      obtain ⟨k', e1, rfl⟩ := Option.map_eq_some_iff.mp h
      obtain ⟨ws, q, r⟩ := hs.dt hi e
      obtain ⟨b, rfl, eb⟩ := tkeyOf_rep rk e1
      rcases r.look k' with ⟨h1, h2⟩ | ⟨v, x, h1, h2, h3⟩
      · exact ⟨a, _, rfl, DGet.t q eb, .inl ⟨h1, h2⟩⟩
      · exact ⟨a, _, rfl, DGet.t q eb, .inr ⟨x, v, h1, h2, h3⟩⟩
    · cases h
end

section
variable {X : Cx} {Y : Sy} {W : WX} {a b : Expr} {fa fb : En → Store → Out Val} {pos : Pos}
/-! ### in -/
def rInDT (K : PySem.W.Frag) (n : Bool) : R2 := fun x y H Q => ∃ d ds, Dp K H x d ∧ (Dp K H y (.list ds) ∨ Dp K H y (.tuple ds)) ∧ SeqAt.shaped d = true ∧ PyData.canLayAll0 ds = true ∧ Q (.bl (xor n (ds.any fun z => PyData.eqv z d))) H
def rInDict (n : Bool) : R2 := fun x y H Q => ∃ a o, y = .ref a ∧ DGet H a x o ∧ Q (.bl (xor n o.isSome)) H
def rInS (n : Bool) : R2 := fun x y H Q => ∃ i j, x = .str i ∧ y = .str j ∧ Q (.bl (xor n (!(Builtin.Str.occurrences j i 0 j.length 1).isEmpty))) H
theorem op_InDT (hu : X.A.units + 65 < cLine) : OpR X (compareOp .In) (rInDT X.K false) := by
  intro pins s σ H x y v u Q I rx ry h
  obtain ⟨d, ds, hd, he | he, sd, se, q⟩ := h
  · obtain ⟨as, r1⟩ := Dp.reads I d x v hd rx
    obtain ⟨bs, r2⟩ := Dp.reads I (.list ds) y u he ry
    exact SeqAt.in_list_reads r2 r1 se (SeqAt.canLay_of_shaped sd) (room_in_shaped sd hu) ⟨.bl _, H, I, rfl, by simpa using q⟩
  · obtain ⟨as, r1⟩ := Dp.reads I d x v hd rx
    obtain ⟨bs, r2⟩ := Dp.reads I (.tuple ds) y u he ry
    exact SeqAt.in_tuple_reads r2 r1 se (SeqAt.canLay_of_shaped sd) (room_in_shaped sd hu) ⟨.bl _, H, I, rfl, by simpa using q⟩
theorem op_NotInDT (hu : X.A.units + 65 < cLine) : OpR X (compareOp .NotIn) (rInDT X.K true) := by
  intro pins s σ H x y v u Q I rx ry h
  obtain ⟨d, ds, hd, he | he, sd, se, q⟩ := h
  · obtain ⟨as, r1⟩ := Dp.reads I d x v hd rx
    obtain ⟨bs, r2⟩ := Dp.reads I (.list ds) y u he ry
    exact SeqAt.notIn_list_reads r2 r1 se (SeqAt.canLay_of_shaped sd) (room_in_shaped sd hu) ⟨.bl _, H, I, rfl, by simpa using q⟩
  · obtain ⟨as, r1⟩ := Dp.reads I d x v hd rx
    obtain ⟨bs, r2⟩ := Dp.reads I (.tuple ds) y u he ry
    exact SeqAt.notIn_tuple_reads r2 r1 se (SeqAt.canLay_of_shaped sd) (room_in_shaped sd hu) ⟨.bl _, H, I, rfl, by simpa using q⟩
theorem op_InDict (hu : X.A.units + 65 < cLine) : OpR X (compareOp .In) (rInDict false) := by
  intro pins s σ H x y v u Q I rx ry h
  obtain ⟨p, o, rfl, g, q⟩ := h
  cases ry
  exact d_in (by omega) I g rx fun s' I' => ⟨.bl _, H, I', rfl, by simpa using q⟩
theorem op_NotInDict (hu : X.A.units + 65 < cLine) : OpR X (compareOp .NotIn) (rInDict true) := by
  intro pins s σ H x y v u Q I rx ry h
  obtain ⟨p, o, rfl, g, q⟩ := h
  cases ry
  exact d_notIn (by omega) I g rx fun s' I' => ⟨.bl _, H, I', rfl, by simpa using q⟩
/-- the items of a list or tuple, as data -/
def itemsD (S : Store) : Val → Option (List PyData)
  | .ref i => match S[i]? with
    | some (.lst xs) => toDs xs
    | _ => none
  | .frz xs => toDs xs
  | .tup xs => toDs xs
  | _ => none
def isIn (S : Store) (x y : Val) : Option Bool := match dLook S y x with
  | some o => some o.isSome
  | none => match itemsD S y, toD x with
    | some ds, some d => if SeqAt.shaped d = true ∧ PyData.canLayAll0 ds = true then some (ds.any fun z => PyData.eqv z d) else none
    | _, _ => none
def vIn (n : Bool) : BOp := fun x y S => match isIn S x y with
  | some k => .ok (.bl (xor n k)) S
  | none => .bad
theorem itemsD_rep {K : PySem.W.Frag} {ρ : List Addr} {H : Hp} {S : Store} {v : V} {x : Val} {ds : List PyData} (hs : Sim K Y ρ H S) (r : Rep K ρ H v x) (h : itemsD S x = some ds) : Dp K H v (.list ds) ∨ Dp K H v (.tuple ds) := by
  cases r <;> try (simp [itemsD] at h; done)
  case tup a vs xs e r => exact .inr (.tup (SqT.of e) (toDs_dp r h))
  case frz a vs xs e r => exact .inl (.lst e.sq (toDs_dp r h))
  case ref a i hi =>
    simp only [itemsD] at h
    split at h
    · rename_i xs e
      obtain ⟨vs, e2, r⟩ := hs.lst hi e
      exact .inl (.lst (SqL.of e2) (toDs_dp r h))
    · cases h
theorem vIn_ok {n : Bool} : OpS X Y (rOr (rInDT X.K n) (rInDict n)) (vIn n) := by
  intro W' ρ H S v w x y Q hs rx ry h
  unfold vIn at h
  split at h
  · rename_i k e
    unfold isIn at e
    split at e
    · rename_i o eo
      cases e
      obtain ⟨p, o', e1, g, hq⟩ := dLook_rep hs ry rx eo
      refine .inr ⟨p, o', e1, g, ?_⟩
      have : o'.isSome = o.isSome := by
        rcases hq with ⟨h1, h2⟩ | ⟨x, y, h1, h2, _⟩ <;> rw [h1, h2] <;> rfl
      rw [this]
      exact h _ ρ H (Pre.refl _) (Ext.refl _) hs (.bl _)
    · split at e
      · rename_i ds d e1 e2
        split at e
        · rename_i hz
          cases e
          exact .inl ⟨d, ds, toD_dp rx e2, itemsD_rep hs ry e1, hz.1, hz.2, h _ ρ H (Pre.refl _) (Ext.refl _) hs (.bl _)⟩
        · cases e
      · cases e
  · exact h.elim
theorem op_vIn (hu : X.A.units + 65 < cLine) : OpR X (compareOp .In) (rOr (rInDT X.K false) (rInDict false)) := OpR.or2 (op_InDT hu) (op_InDict hu)
theorem op_vNotIn (hu : X.A.units + 65 < cLine) : OpR X (compareOp .NotIn) (rOr (rInDT X.K true) (rInDict true)) := OpR.or2 (op_NotInDT hu) (op_NotInDict hu)
theorem se_in (hu : X.A.units + 65 < cLine) (ha : SE X Y W a fa) (hb : SE X Y W b fb) (hm : behindInMarks .In b = false := by rfl) : SE X Y W (.Compare a [.In] [b] pos) (eB2 (vIn false) fa fb) := se_cmp (op_vIn hu) vIn_ok ha hb hm
theorem se_notIn (hu : X.A.units + 65 < cLine) (ha : SE X Y W a fa) (hb : SE X Y W b fb) (hm : behindInMarks .NotIn b = false := by rfl) : SE X Y W (.Compare a [.NotIn] [b] pos) (eB2 (vIn true) fa fb) := se_cmp (op_vNotIn hu) vIn_ok ha hb hm
theorem st_in (hu : X.A.units + 65 < cLine) (ha : SE X Y W a fa) (hb : SE X Y W b fb) (hm : behindInMarks .In b = false := by rfl) : ST X Y W (.Compare a [.In] [b] pos) (bV (eB2 (vIn false) fa fb)) := st_cmp (op_vIn hu) vIn_ok ha hb hm
theorem st_notIn (hu : X.A.units + 65 < cLine) (ha : SE X Y W a fa) (hb : SE X Y W b fb) (hm : behindInMarks .NotIn b = false := by rfl) : ST X Y W (.Compare a [.NotIn] [b] pos) (bV (eB2 (vIn true) fa fb)) := st_cmp (op_vNotIn hu) vIn_ok ha hb hm

/-! ### a[b] -/
def itemsOf (S : Store) : Val → Option (List Val)
  | .tup xs => some xs
  | x => getL S x
def vIx : BOp := fun x y S => match dLook S x y with
  | some (some z) => .ok z S
  | some none => .bad
  | none => match itemsOf S x, y with
    | some xs, .int i => match atI xs i with
      | some z => .ok z S
      | none => .bad
    | _, _ => .bad
def rIxD : R2 := fun x y H Q => ∃ a v, x = .ref a ∧ DGet H a y (some v) ∧ Q v H
theorem ix_dict (hu : X.A.units + 1 < cLine) : IxR X rIxD := by
  intro value slice pins s σ H x y v u Q I rx ry h hs
  obtain ⟨p, z, rfl, g, q⟩ := h
  cases rx
  exact tail_any (dict_typeIs I g) PySem.F.slot_dict_getitem.lookup (d_getItem hu I g ry fun w' s3 I3 rw' => ⟨z, H, I3, rw', q⟩) hs
theorem Reps.atI {K : PySem.W.Frag} {ρ : List Addr} {H : Hp} {vs : List V} {xs : List Val} {i : Int} {z : Val} (r : Reps K ρ H vs xs) (h : L2.atI xs i = some z) : ∃ v, L2.atI vs i = some v ∧ Rep K ρ H v z := by
  unfold L2.atI at h ⊢
  rw [r.length]
  obtain ⟨j, e1, e2⟩ := Option.bind_eq_some_iff.mp h
  obtain ⟨v, e3, r'⟩ := r.get e2
  exact ⟨v, by rw [e1]; exact e3, r'⟩
theorem itemsOf_rep {K : PySem.W.Frag} {ρ : List Addr} {H : Hp} {S : Store} {v : V} {x : Val} {xs : List Val} (hs : Sim K Y ρ H S) (r : Rep K ρ H v x) (h : itemsOf S x = some xs) : ∃ a vs, v = .ref a ∧ (SqL K H a vs ∨ SqT K H a vs) ∧ Reps K ρ H vs xs := by
  cases x with
  | tup ys =>
    cases h
    cases r with
    | tup e r => exact ⟨_, _, rfl, .inr (SqT.of e), r⟩
  | ref i =>
    obtain ⟨a, vs, e1, e2, e3⟩ := getL_rep hs r h
    exact ⟨a, vs, e1, .inl e2, e3⟩
  | frz i =>
    obtain ⟨a, vs, e1, e2, e3⟩ := getL_rep hs r h
    exact ⟨a, vs, e1, .inl e2, e3⟩
  | _ => cases h
theorem vIx_ok : OpS X Y (rOr rIxD (rOr (rIxL X.K) (rIxT X.K))) vIx := by
  intro W' ρ H S v w x y Q hs rx ry h
  unfold vIx at h
  split at h
  · rename_i z e
    obtain ⟨p, o', e1, g, hq⟩ := dLook_rep hs rx ry e
    rcases hq with ⟨h1, h2⟩ | ⟨z', y', h1, h2, r⟩
    · cases h1
    · cases h1
      subst h2
      exact .inl ⟨p, y', e1, g, h _ ρ H (Pre.refl _) (Ext.refl _) hs r⟩
  · exact h.elim
  · split at h
    · rename_i xs i ex _
      split at h
      · rename_i z ez
        obtain ⟨p, vs, rfl, hq, r⟩ := itemsOf_rep hs rx ex
        obtain ⟨u, eu, ru⟩ := r.atI ez
        cases ry
        rcases hq with hq | hq
        · exact .inr (.inl ⟨p, vs, i, u, rfl, rfl, hq, eu, h _ ρ H (Pre.refl _) (Ext.refl _) hs ru⟩)
        · exact .inr (.inr ⟨p, vs, i, u, rfl, rfl, hq, eu, h _ ρ H (Pre.refl _) (Ext.refl _) hs ru⟩)
      · exact h.elim
    · exact h.elim
theorem se_ix (hu : X.A.units + 1 < cLine) (ha : SE X Y W a fa) (hb : SE X Y W b fb) (hp : PlainIx b := by exact fun _ _ => rfl) : SE X Y W (.Subscript a b pos) (eB2 vIx fa fb) :=
  PE.imp (pe_ix (IxR.or (ix_dict hu) (IxR.or ix_list ix_tup)) ha hb hp) fun _ _ _ h => tOp_of (r := rOr rIxD (rOr (rIxL X.K) (rIxT X.K))) vIx_ok h

/-! ### a[lo:hi] -/
def toI : Val → Store → Out (Option Int)
  | .int i, S => .ok (some i) S
  | _, _ => .bad
def pNo : En → Store → Out (Option Int) := fun _ S => .ok none S
def pSome (f : En → Store → Out Val) : En → Store → Out (Option Int) := fun env S => (f env S).bind toI
abbrev RO : RR (Option Int) (Option Int) := fun _ _ v x => v = x
def SO (X : Cx) (Y : Sy) (W : WX) (e : Option Expr) (f : En → Store → Out (Option Int)) : Prop := PO X e (tG X.K Y W RO f)
theorem PO.imp {X : Cx} {e : Option Expr} {t t' : TO} (h : PO X e t) (k : ∀ σ H Q, t' σ H Q → t σ H Q) : PO X e t' := ⟨fun pins s σ H Q I q => h.run pins s σ H Q I (k σ H Q q)⟩
theorem so_no : SO X Y W none pNo := by
  refine PO.imp po_none fun σ H Q h => ?_
  obtain ⟨ρ, env, S, he, hs, h⟩ := h
  exact h none ρ H (Pre.refl _) (Ext.refl _) hs rfl
theorem so_some {e : Expr} {f : En → Store → Out Val} (h : SE X Y W e f) : SO X Y W (some e) (pSome f) := by
  refine PO.imp (po_some h) fun σ H Q h => ?_
  refine tG.bind (k := fun _ => toI) h fun ρ env v x H1 S1 he hs rx hp => ?_
  cases rx <;> try exact hp.elim
  rename_i i
  exact ⟨i, rfl, hp _ ρ H1 (Pre.refl _) (Ext.refl _) hs rfl⟩
def cutL {α : Type} (xs : List α) (lo hi : Option Int) : List α := (xs.drop (HT.sIx xs.length 0 lo)).take (HT.sIx xs.length xs.length hi - HT.sIx xs.length 0 lo)
theorem Reps.cut {K : PySem.W.Frag} {ρ : List Addr} {H : Hp} {vs : List V} {xs : List Val} (r : Reps K ρ H vs xs) (lo hi : Option Int) : Reps K ρ H (cutV vs lo hi) (cutL xs lo hi) := by
  unfold cutV cutL
  rw [r.length]
  exact (r.drop _).take _
def vSl (x : Val) (lo hi : Option Int) (S : Store) : Out Val := match x with
  | .tup xs => .ok (.tup (cutL xs lo hi)) S
  | x => match getL S x with
    | some xs => .ok (.ref S.length) (S ++ [.lst (cutL xs lo hi)])
    | none => .bad
def eSl (f : En → Store → Out Val) (l h : En → Store → Out (Option Int)) : En → Store → Out Val := fun env S => (f env S).bind fun x S1 => (l env S1).bind fun lo S2 => (h env S2).bind fun hi S3 => vSl x lo hi S3
theorem sIx_all {α : Type} (xs : List α) {lo hi : Option Int} (h : HT.sIx xs.length 0 lo = 0 ∧ HT.sIx xs.length xs.length hi = xs.length) : cutL xs lo hi = xs := by
  unfold cutL
  rw [h.1, h.2]
  simp
theorem vSl_ok {W' : Value → Option Addr → Hp → Prop} {ρ : List Addr} {H : Hp} {S : Store} {v : V} {x : Val} {lo hi : Option Int} {Q : VK} (hs : Sim X.K Y ρ H S) (rx : Rep X.K ρ H v x) (h : Post X.K Y W' ρ H (RV X.K) Q (vSl x lo hi S)) :
    rSlA X.K v lo hi H Q ∨ rSlL X.K v lo hi H Q := by
  cases x with
  | tup xs =>
    cases rx with
    | @tup a vs _ e r =>
      refine .inl ⟨a, vs, rfl, SqT.of e, fun hw => ?_, fun hw p hn => ?_⟩
      · rw [r.length] at hw
        have := sIx_all xs hw
        refine h _ ρ H (Pre.refl _) (Ext.refl _) hs ?_
        rw [this]
        exact .tup e r
      · exact h _ ρ _ (Pre.refl _) (Ext.new hn) (hs.other hn) (.tup upd_same ((r.cut lo hi).up (Pre.refl _) (Ext.new hn)))
  | ref i =>
    simp only [vSl] at h
    split at h
    · rename_i xs e
      obtain ⟨a, vs, rfl, e2, r⟩ := getL_rep hs rx e
      exact .inr ⟨a, vs, rfl, e2, fun p hn => h _ (ρ ++ [p]) _ (Pre.snoc _ _) (Ext.new hn) (hs.new hn ⟨_, upd_same, (r.cut lo hi).up (Pre.snoc _ _) (Ext.new hn)⟩) (rep_new hs.len.symm)⟩
    · exact h.elim
  | frz i =>
    simp only [vSl] at h
    split at h
    · rename_i xs e
      obtain ⟨a, vs, rfl, e2, r⟩ := getL_rep hs rx e
      exact .inr ⟨a, vs, rfl, e2, fun p hn => h _ (ρ ++ [p]) _ (Pre.snoc _ _) (Ext.new hn) (hs.new hn ⟨_, upd_same, (r.cut lo hi).up (Pre.snoc _ _) (Ext.new hn)⟩) (rep_new hs.len.symm)⟩
    · exact h.elim
  | _ => exact h.elim
theorem se_sl {e : Expr} {lo hi : Option Expr} {p2 : Pos} {f : En → Store → Out Val} {l h : En → Store → Out (Option Int)} (he : SE X Y W e f) (hl : SO X Y W lo l) (hh : SO X Y W hi h) : SE X Y W (.Subscript e (.Slice lo hi none p2) pos) (eSl f l h) := by
  refine PE.imp (pe_slice (SlR.or sl_tupA sl_list) he hl hh) fun σ H Q hw => ?_
  refine tG.bind (k := fun env x S1 => (l env S1).bind fun lo S2 => (h env S2).bind fun hi S3 => vSl x lo hi S3) hw fun ρ env v x H1 S1 he hs rx hp => ?_
  refine tG.go he hs hp fun ρ2 o1 o1' H2 S2 p2 e2 he2 hs2 r1 hp2 => ?_
  refine tG.go he2 hs2 hp2 fun ρ3 o2 o2' H3 S3 p3 e3 he3 hs3 r2 hp3 => ?_
  subst r1; subst r2
  exact vSl_ok hs3 (rx.up (p2.trans p3) (e2.trans e3)) hp3
end
end Mp

set_option Elab.async false
set_option linter.all false
set_option maxRecDepth 100000
/-! Calls; statements; loops. -/
namespace Mp
open PySem PySem.Spec PyProof.Rows L2

/-! ### calls by values -/
abbrev Fn := List Val → Store → Out Val
def eCall (g : Fn) (fa : En → Store → Out (List Val)) : En → Store → Out Val := fun env S => (fa env S).bind g
def CallS (X : Cx) (Y : Sy) (r : List V → Hp → VK → Prop) (g : Fn) : Prop := ∀ (W' : Value → Option Addr → Hp → Prop) (ρ : List Addr) (H : Hp) (S : Store) (vs : List V) (xs : List Val) (Q : VK), Sim X.K Y ρ H S → Reps X.K ρ H vs xs → Post X.K Y W' ρ H (RV X.K) Q (g xs S) → r vs H Q
section
variable {X : Cx} {Y : Sy} {W : WX} {a b e : Expr} {es : List Expr} {fa fb f : En → Store → Out Val} {ga : En → Store → Out (List Val)} {p pos : Pos} {x : Str} {g : Fn}
theorem tCB_of {r : List V → Hp → VK → Prop} (ok : CallS X Y r g) {σ : L2.St} {H : Hp} {Q : VK} (h : tG X.K Y W (RV X.K) (eCall g ga) σ H Q) : tCB r (tG X.K Y W (RL X.K) ga) σ H Q :=
  tG.bind (k := fun _ => g) h fun ρ env vs xs H1 S1 he hs rx hp => ok _ ρ H1 S1 vs xs Q hs rx hp
theorem se_b {r : List V → Hp → VK → Prop} {id : String} (hc : CallR X (.builtin id) r) (ok : CallS X Y r g) (hg : Gl X x) (hm : X.mg x = none) (hv : bootBuiltins x = some (.builtin id)) (ha : SA X Y W (e :: es) ga) (hn : x ≠ "__name__" := by decide) (hdb : (x == ("__debug__" : Str)) = false := by decide)
    (he : starEach (e :: es) X.env = (false, eval e X.env) :: starEach es X.env := by rfl) (hpl : (backTo pos (starEach es X.env)).any (·.1) = false := by rfl) : SE X Y W (.Call (.Name x p) (e :: es) [] pos) (eCall g ga) :=
  PE.imp (pe_callB hc hg hm hv ha hn hdb he hpl) fun _ _ _ h => tCB_of ok h
theorem se_ty {r : List V → Hp → VK → Prop} {T : String} (hc : CallR X (.type T) r) (ok : CallS X Y r g) (hg : Gl X x) (hm : X.mg x = none) (hv : bootBuiltins x = some (.type T)) (ha : SA X Y W (e :: es) ga) (hn : x ≠ "__name__" := by decide) (hdb : (x == ("__debug__" : Str)) = false := by decide)
    (he : starEach (e :: es) X.env = (false, eval e X.env) :: starEach es X.env := by rfl) (hpl : (backTo pos (starEach es X.env)).any (·.1) = false := by rfl) : SE X Y W (.Call (.Name x p) (e :: es) [] pos) (eCall g ga) :=
  PE.imp (pe_callTy hc hg hm hv ha hn hdb he hpl) fun _ _ _ h => tCB_of ok h

/-! ### built-ins -/
theorem reps1 {K : PySem.W.Frag} {ρ : List Addr} {H : Hp} {vs : List V} {x : Val} (r : Reps K ρ H vs [x]) : ∃ v, vs = [v] ∧ Rep K ρ H v x := by
  cases r with | cons h t => cases t; exact ⟨_, rfl, h⟩
theorem reps2 {K : PySem.W.Frag} {ρ : List Addr} {H : Hp} {vs : List V} {x y : Val} (r : Reps K ρ H vs [x, y]) : ∃ v w, vs = [v, w] ∧ Rep K ρ H v x ∧ Rep K ρ H w y := by
  cases r with | cons h t => cases t with | cons h2 t => cases t; exact ⟨_, _, rfl, h, h2⟩
def fLen : Fn := fun vs S => match vs with
  | [.str z] => if z.length ≤ LIM then .ok (.int z.length) S else .bad
  | [.ref i] => match S[i]? with
    | some (.lst xs) => .ok (.int xs.length) S
    | some (.dk xs) => .ok (.int xs.length) S
    | _ => .bad
  | [x] => match itemsOf S x with
    | some xs => .ok (.int xs.length) S
    | none => .bad
  | _ => .bad
def rLenS : List V → Hp → VK → Prop := fun xs H Q => ∃ z, xs = [.str z] ∧ z.length ≤ sizeLine ∧ Q (.int z.length) H
def rLenQ (K : PySem.W.Frag) : List V → Hp → VK → Prop := fun xs H Q => ∃ p ys, xs = [.ref p] ∧ (SqL K H p ys ∨ SqT K H p ys) ∧ Q (.int ys.length) H
def rLenD : List V → Hp → VK → Prop := fun xs H Q => ∃ p kvs, xs = [.ref p] ∧ Rd H p (.dK kvs) ∧ Q (.int kvs.length) H
theorem call_lenD2 : CallR X (.builtin "len") rLenD := by
  intro pins s σ H xs us Q I r h
  obtain ⟨p, kvs, rfl, e, q⟩ := h
  obtain ⟨u, rfl, ru⟩ := vals1 r
  cases ru
  exact d_len I e fun t s' I' => ⟨.int kvs.length, H, I', ⟨t, rfl⟩, q⟩
theorem call_fLen : CallR X (.builtin "len") (fun xs H Q => rLenS xs H Q ∨ rLenQ X.K xs H Q ∨ rLenD xs H Q) := CallR.or call_len_str (CallR.or call_len_seq call_lenD2)
theorem fLen_ok : CallS X Y (fun xs H Q => rLenS xs H Q ∨ rLenQ X.K xs H Q ∨ rLenD xs H Q) fLen := by
  intro W' ρ H S vs xs Q hs rx h
  unfold fLen at h
  split at h
  · obtain ⟨v, rfl, r⟩ := reps1 rx
    cases r
    split at h
    · rename_i hz
      exact .inl ⟨_, rfl, lim_le hz, h _ ρ H (Pre.refl _) (Ext.refl _) hs (.int _)⟩
    · exact h.elim
  · obtain ⟨v, rfl, r⟩ := reps1 rx
    cases r with
    | @ref a i hi =>
    split at h
    · rename_i ys e
      obtain ⟨ws, e2, r⟩ := hs.lst hi e
      exact .inr (.inl ⟨a, ws, rfl, .inl (SqL.of e2), h _ ρ H (Pre.refl _) (Ext.refl _) hs (by rw [r.length]; exact .int _)⟩)
    · rename_i ys e
      obtain ⟨ws, e2, r⟩ := hs.dk hi e
      exact .inr (.inr ⟨a, ws, rfl, .inl e2, h _ ρ H (Pre.refl _) (Ext.refl _) hs (by rw [r.length]; exact .int _)⟩)
    · exact h.elim
  · split at h
    · rename_i ys e
      obtain ⟨v, rfl, r⟩ := reps1 rx
      obtain ⟨p, ws, rfl, hq, r⟩ := itemsOf_rep hs r e
      exact .inr (.inl ⟨p, ws, rfl, hq, h _ ρ H (Pre.refl _) (Ext.refl _) hs (by rw [r.length]; exact .int _)⟩)
    · exact h.elim
  · exact h.elim
theorem se_len (hg : Gl X "len") (hm : X.mg "len" = none) (ha : SA X Y W [e] ga) (he : starEach [e] X.env = [(false, eval e X.env)] := by rfl) : SE X Y W (.Call (.Name "len" p) [e] [] pos) (eCall fLen ga) :=
  se_b call_fLen fLen_ok hg hm PySem.boot_len ha (he := he)
def fInt : Fn := fun vs S => match vs with
  | [.int i] => .ok (.int i) S
  | [.bl k] => .ok (.int (if k then 1 else 0)) S
  | _ => .bad
theorem se_int1 (hg : Gl X "int") (hm : X.mg "int" = none) (ha : SA X Y W [e] ga) (he : starEach [e] X.env = [(false, eval e X.env)] := by rfl) : SE X Y W (.Call (.Name "int" p) [e] [] pos) (eCall fInt ga) := by
  refine se_ty call_int1 (fun W' ρ H S vs xs Q hs rx h => ?_) hg hm (by decide +kernel) ha (he := he)
  unfold fInt at h
  split at h
  · obtain ⟨v, rfl, r⟩ := reps1 rx
    cases r
    exact .inl ⟨_, rfl, h _ ρ H (Pre.refl _) (Ext.refl _) hs (.int _)⟩
  · obtain ⟨v, rfl, r⟩ := reps1 rx
    cases r
    exact .inr ⟨_, rfl, h _ ρ H (Pre.refl _) (Ext.refl _) hs (.int _)⟩
  · exact h.elim
def fList : Fn := fun vs S => match vs with
  | [x] => match itemsOf S x with
    | some xs => .ok (.ref S.length) (S ++ [.lst xs])
    | none => .bad
  | _ => .bad
theorem se_list (hg : Gl X "list") (hm : X.mg "list" = none) (ha : SA X Y W [e] ga) (he : starEach [e] X.env = [(false, eval e X.env)] := by rfl) : SE X Y W (.Call (.Name "list" p) [e] [] pos) (eCall fList ga) := by
  refine se_ty call_list_of (fun W' ρ H S vs xs Q hs rx h => ?_) hg hm (by decide +kernel) ha (he := he)
  unfold fList at h
  split at h
  · split at h
    · rename_i x ys e
      obtain ⟨v, rfl, r⟩ := reps1 rx
      obtain ⟨q, ws, rfl, hq, r⟩ := itemsOf_rep hs r e
      exact ⟨q, ws, rfl, hq, fun l hn => h _ (ρ ++ [l]) _ (Pre.snoc _ _) (Ext.new hn) (hs.new hn ⟨_, upd_same, r.up (Pre.snoc _ _) (Ext.new hn)⟩) (rep_new hs.len.symm)⟩
    · exact h.elim
  · exact h.elim
def fTuple : Fn := fun vs S => match vs with
  | [x] => match itemsOf S x with
    | some xs => .ok (.tup xs) S
    | none => .bad
  | _ => .bad
theorem se_tuple (hg : Gl X "tuple") (hm : X.mg "tuple" = none) (ha : SA X Y W [e] ga) (he : starEach [e] X.env = [(false, eval e X.env)] := by rfl) : SE X Y W (.Call (.Name "tuple" p) [e] [] pos) (eCall fTuple ga) := by
  refine se_ty call_tuple_of (fun W' ρ H S vs xs Q hs rx h => ?_) hg hm (by decide +kernel) ha (he := he)
  match xs, rx, h with
  | [z], rx, h =>
    obtain ⟨v, rfl, rv⟩ := reps1 rx
    cases z with
    | tup zs =>
      cases rv with
      | @tup q ws _ e1 r1 => exact ⟨q, ws, rfl, .inr ⟨SqT.of e1, h _ ρ H (Pre.refl _) (Ext.refl _) hs (.tup e1 r1)⟩⟩
    | ref i =>
      simp only [fTuple, itemsOf] at h
      split at h
      · rename_i ys e
        obtain ⟨q, ws, rfl, hq, r⟩ := getL_rep hs rv e
        exact ⟨q, ws, rfl, .inl ⟨hq, fun l hn => h _ ρ _ (Pre.refl _) (Ext.new hn) (hs.other hn) (.tup upd_same (r.up (Pre.refl _) (Ext.new hn)))⟩⟩
      · exact h.elim
    | frz i =>
      simp only [fTuple, itemsOf] at h
      split at h
      · rename_i ys e
        obtain ⟨q, ws, rfl, hq, r⟩ := getL_rep hs rv e
        exact ⟨q, ws, rfl, .inl ⟨hq, fun l hn => h _ ρ _ (Pre.refl _) (Ext.new hn) (hs.other hn) (.tup upd_same (r.up (Pre.refl _) (Ext.new hn)))⟩⟩
      · exact h.elim
    | _ => exact h.elim
  | [], _, h => exact h.elim
  | _ :: _ :: _, _, h => exact h.elim
def fMin2 : Fn := fun vs S => match vs with
  | [.int i, .int j] => .ok (.int (if j < i then j else i)) S
  | _ => .bad
def fMax2 : Fn := fun vs S => match vs with
  | [.int i, .int j] => .ok (.int (if j > i then j else i)) S
  | _ => .bad
theorem se_min2 (hc : X.calm = true) (hg : Gl X "min") (hm : X.mg "min" = none) (ha : SA X Y W [a, b] ga) (he : starEach [a, b] X.env = (false, eval a X.env) :: starEach [b] X.env := by rfl) (hpl : (backTo pos (starEach [b] X.env)).any (·.1) = false := by rfl) : SE X Y W (.Call (.Name "min" p) [a, b] [] pos) (eCall fMin2 ga) := by
  refine se_b (call_min2 hc) (fun W' ρ H S vs xs Q hs rx h => ?_) hg hm (by decide +kernel) ha (he := he) (hpl := hpl)
  unfold fMin2 at h
  split at h
  · obtain ⟨v, w, rfl, r1, r2⟩ := reps2 rx
    cases r1; cases r2
    exact ⟨_, _, rfl, h _ ρ H (Pre.refl _) (Ext.refl _) hs (.int _)⟩
  · exact h.elim
theorem se_max2 (hc : X.calm = true) (hg : Gl X "max") (hm : X.mg "max" = none) (ha : SA X Y W [a, b] ga) (he : starEach [a, b] X.env = (false, eval a X.env) :: starEach [b] X.env := by rfl) (hpl : (backTo pos (starEach [b] X.env)).any (·.1) = false := by rfl) : SE X Y W (.Call (.Name "max" p) [a, b] [] pos) (eCall fMax2 ga) := by
  refine se_b (call_max2 hc) (fun W' ρ H S vs xs Q hs rx h => ?_) hg hm (by decide +kernel) ha (he := he) (hpl := hpl)
  unfold fMax2 at h
  split at h
  · obtain ⟨v, w, rfl, r1, r2⟩ := reps2 rx
    cases r1; cases r2
    exact ⟨_, _, rfl, h _ ρ H (Pre.refl _) (Ext.refl _) hs (.int _)⟩
  · exact h.elim
/-! ### flags in a list: all, any; ints: sum -/
def flagsOf : List Val → Option (List Bool)
  | [] => some []
  | .bl k :: r => (flagsOf r).map fun ks => k :: ks
  | _ :: _ => none
theorem flagsOf_rep {K : PySem.W.Frag} {ρ : List Addr} {H : Hp} : ∀ {vs : List V} {xs : List Val} {ns : List Bool}, Reps K ρ H vs xs → flagsOf xs = some ns → vs = ns.map V.bl
  | _, _, _, .nil, h => by simp only [flagsOf, Option.some.injEq] at h; subst h; rfl
  | _, _, ns, .cons h1 h2, h => by
    cases h1 <;> try (simp [flagsOf] at h; done)
    simp only [flagsOf, Option.map_eq_some_iff] at h
    obtain ⟨ms, e, rfl⟩ := h
    rw [flagsOf_rep h2 e]
    rfl
/-- of one list, by its items -/
def fOne {α : Type} (c : List Val → Option α) (k : α → Val) : Fn := fun vs S => match vs with
  | [x] => match (getL S x).bind c with
    | some ks => .ok (k ks) S
    | none => .bad
  | _ => .bad
abbrev fAll : Fn := fOne flagsOf fun ks => .bl (ks.all id)
abbrev fAny : Fn := fOne flagsOf fun ks => .bl (ks.any id)
abbrev fSum : Fn := fOne intsOf fun ns => .int ns.sum
theorem fOne_rep {α : Type} {c : List Val → Option α} {k : α → Val} {W' : Value → Option Addr → Hp → Prop} {ρ : List Addr} {H : Hp} {S : Store} {vs : List V} {xs : List Val} {Q : VK} (hs : Sim X.K Y ρ H S) (rx : Reps X.K ρ H vs xs) (h : Post X.K Y W' ρ H (RV X.K) Q (fOne c k xs S)) :
    ∃ q ws ys ks, vs = [.ref q] ∧ SqL X.K H q ws ∧ Reps X.K ρ H ws ys ∧ c ys = some ks ∧ ∀ v, Rep X.K ρ H v (k ks) → Q v H := by
  unfold fOne at h
  split at h
  · split at h
    · rename_i x ks e
      obtain ⟨ys, e1, e2⟩ := Option.bind_eq_some_iff.mp e
      obtain ⟨v, rfl, r⟩ := reps1 rx
      obtain ⟨q, ws, rfl, hq, r⟩ := getL_rep hs r e1
      exact ⟨q, ws, ys, ks, rfl, hq, r, e2, fun v rv => h v ρ H (Pre.refl _) (Ext.refl _) hs rv⟩
    · exact h.elim
  · exact h.elim
theorem se_all (hc : X.calm = true) (hg : Gl X "all") (hm : X.mg "all" = none) (ha : SA X Y W [e] ga) (he : starEach [e] X.env = [(false, eval e X.env)] := by rfl) : SE X Y W (.Call (.Name "all" p) [e] [] pos) (eCall fAll ga) := by
  refine se_b (cr_all hc) (fun W' ρ H S vs xs Q hs rx h => ?_) hg hm (by decide +kernel) ha (he := he)
  obtain ⟨q, ws, ys, ks, rfl, hq, r, ec, hQ⟩ := fOne_rep hs rx h
  have := flagsOf_rep r ec
  subst this
  exact ⟨q, ks, rfl, hq, hQ _ (.bl _)⟩
theorem se_any (hc : X.calm = true) (hg : Gl X "any") (hm : X.mg "any" = none) (ha : SA X Y W [e] ga) (he : starEach [e] X.env = [(false, eval e X.env)] := by rfl) : SE X Y W (.Call (.Name "any" p) [e] [] pos) (eCall fAny ga) := by
  refine se_b (cr_any hc) (fun W' ρ H S vs xs Q hs rx h => ?_) hg hm (by decide +kernel) ha (he := he)
  obtain ⟨q, ws, ys, ks, rfl, hq, r, ec, hQ⟩ := fOne_rep hs rx h
  have := flagsOf_rep r ec
  subst this
  exact ⟨q, ks, rfl, hq, hQ _ (.bl _)⟩
theorem se_sum (hc : X.calm = true) (hg : Gl X "sum") (hm : X.mg "sum" = none) (ha : SA X Y W [e] ga) (he : starEach [e] X.env = [(false, eval e X.env)] := by rfl) : SE X Y W (.Call (.Name "sum" p) [e] [] pos) (eCall fSum ga) := by
  refine se_b (cr_sum hc) (fun W' ρ H S vs xs Q hs rx h => ?_) hg hm (by decide +kernel) ha (he := he)
  obtain ⟨q, ws, ys, ks, rfl, hq, r, ec, hQ⟩ := fOne_rep hs rx h
  have := intsOf_rep r ec
  subst this
  exact ⟨q, ks, rfl, hq, hQ _ (.int _)⟩

/-! ### isinstance of built-in classes -/
def tyOf (S : Store) : Val → Option String
  | .non => some "NoneType"
  | .bl _ => some "bool"
  | .int _ => some "int"
  | .str _ => some "str"
  | .tup _ => some "tuple"
  | .frz _ => none
  | .ref i => match S[i]? with
    | some (.lst _) => some "list"
    | some (.dk _) => some "dict"
    | some (.dt _) => some "dict"
    | _ => none
theorem tyOf_rep {K : PySem.W.Frag} {ρ : List Addr} {H : Hp} {S : Store} {v : V} {x : Val} {T : String} (hs : Sim K Y ρ H S) (r : Rep K ρ H v x) (h : tyOf S x = some T) : TyX K H v (.type T) := by
  cases r <;> simp only [tyOf, Option.some.injEq, reduceCtorEq] at h
  case non => subst h; exact .base .non
  case bl b => subst h; exact .base (.bl b)
  case int i => subst h; exact .base (.int i)
  case str i => subst h; exact .base (.str i)
  case tup e r => subst h; exact .base (.tup e)
  case ref a i hi =>
    split at h
    · rename_i xs e
      cases h
      obtain ⟨vs, e2, _⟩ := hs.lst hi e
      exact .base (.lst e2)
    · rename_i xs e
      cases h
      obtain ⟨vs, e2, _⟩ := hs.dk hi e
      exact .base (.dK e2)
    · rename_i xs e
      cases h
      obtain ⟨vs, e2, _⟩ := hs.dt hi e
      exact .base (.dT e2)
    · cases h
def tyNames : List String := ["NoneType", "bool", "int", "str", "tuple", "list", "dict"]
def subTy (a b : String) : Bool := a == b || (a == "bool" && b == "int")
def eIsT (T : String) (f : En → Store → Out Val) : En → Store → Out Val := fun env S => (f env S).bind fun x S1 => match tyOf S1 x with
  | some t => if t ∈ tyNames then .ok (.bl (subTy t T)) S1 else .bad
  | none => .bad
theorem se_isT {T : String} {tn : Str} {p2 : Pos} (hT : ∀ t ∈ tyNames, kitB t T = some (subTy t T)) (hg : Gl X "isinstance") (hm : X.mg "isinstance" = none) (hg2 : Gl X tn) (hm2 : X.mg tn = none) (hv : bootBuiltins tn = some (.type T)) (ha : SE X Y W e f)
    (hn : tn ≠ "__name__" := by decide) (hdb : (tn == ("__debug__" : Str)) = false := by decide)
    (he : starEach [e, .Name tn p2] X.env = (false, eval e X.env) :: starEach [.Name tn p2] X.env := by rfl) (hpl : (backTo pos (starEach [.Name tn p2] X.env)).any (·.1) = false := by rfl) (h2 : starEach [.Name tn p2] X.env = (false, eval (.Name tn p2) X.env) :: starEach [] X.env := by rfl) :
    SE X Y W (.Call (.Name "isinstance" p) [e, .Name tn p2] [] pos) (eIsT T f) := by
  refine PE.imp (pe_callB (call_isi (X := X)) hg hm (by decide +kernel) (pa_cons ha (pa_cons (pe_bltn (v := .ty T) hg2 hm2 hv rfl hn hdb) pa_nil h2) he) (he := he) (hpl := hpl)) fun σ H Q h => ?_
  refine tG.bind (k := fun _ x S1 => match tyOf S1 x with | some t => if t ∈ tyNames then Out.ok (Val.bl (subTy t T)) S1 else Out.bad | none => Out.bad) h fun ρ env v x H1 S1 he hs rx hp => ?_
  split at hp
  · rename_i t et
    split at hp
    · rename_i ht
      exact ⟨v, .ty T, .type t, .type T, subTy t T, rfl, .ty T, tyOf_rep hs rx et, kit_ty (hT t ht), hp _ ρ H1 (Pre.refl _) (Ext.refl _) hs (.bl _)⟩
    · exact hp.elim
  · exact hp.elim
end
end Mp

set_option Elab.async false
set_option linter.all false
set_option maxRecDepth 100000
/-! Statements, targets, what is walked, for. -/
namespace Mp
open PySem PySem.Spec PyProof.Rows L2

/-! ### statements -/
def PostS (K : PySem.W.Frag) (Y : Sy) (W : WX) (ρ : List Addr) (H : Hp) (D : Ends) : Res → Prop
  | .nx env S => ∀ σ' ρ' H', Pre ρ ρ' → Ext H H' → ERep K Y ρ' H' σ' env → Sim K Y ρ' H' S → D.nx σ' H'
  | .rt x S => ∀ v ρ' H', Pre ρ ρ' → Ext H H' → Sim K Y ρ' H' S → Rep K ρ' H' v x → D.rt v H'
  | .bk env S => ∀ σ' ρ' H', Pre ρ ρ' → Ext H H' → ERep K Y ρ' H' σ' env → Sim K Y ρ' H' S → D.bk σ' H'
  | .ct env S => ∀ σ' ρ' H', Pre ρ ρ' → Ext H H' → ERep K Y ρ' H' σ' env → Sim K Y ρ' H' S → D.ct σ' H'
  | .er c fs env S => ∀ cls d σ' ρ' H', Pre ρ ρ' → Ext H H' → ERep K Y ρ' H' σ' env → Sim K Y ρ' H' S → ErrRep K Y ρ' H' cls d c fs → W cls d σ' H'
  | .bad => False
theorem PostS.up {K : PySem.W.Frag} {Y : Sy} {W : WX} {ρ ρ' : List Addr} {H H' : Hp} {D : Ends} {r : Res} (p : Pre ρ ρ') (e : Ext H H') (h : PostS K Y W ρ H D r) : PostS K Y W ρ' H' D r := by
  cases r with
  | nx env S => exact fun σ2 ρ2 H2 p2 e2 => h σ2 ρ2 H2 (p.trans p2) (e.trans e2)
  | rt x S => exact fun σ2 ρ2 H2 p2 e2 => h σ2 ρ2 H2 (p.trans p2) (e.trans e2)
  | bk env S => exact fun σ2 ρ2 H2 p2 e2 => h σ2 ρ2 H2 (p.trans p2) (e.trans e2)
  | ct env S => exact fun σ2 ρ2 H2 p2 e2 => h σ2 ρ2 H2 (p.trans p2) (e.trans e2)
  | er c fs env S => exact fun c d σ2 ρ2 H2 p2 e2 => h c d σ2 ρ2 H2 (p.trans p2) (e.trans e2)
  | bad => exact h
def tS (K : PySem.W.Frag) (Y : Sy) (W : WX) (g : En → Store → Res) : TS := fun D σ H => ∃ ρ env S, ERep K Y ρ H σ env ∧ Sim K Y ρ H S ∧ PostS K Y W ρ H D (g env S)
def SS (X : Cx) (Y : Sy) (W : WX) (st : Stmt) (g : En → Store → Res) : Prop := PS X st (tS X.K Y W g)
def SSs (X : Cx) (Y : Sy) (W : WX) (st : List Stmt) (g : En → Store → Res) : Prop := PSs X st (tS X.K Y W g)
/-- from an expression's outcome to a statement's -/
theorem tS.go {α β : Type} {K : PySem.W.Frag} {Y : Sy} {W : WX} {R : RR β α} {f : En → Store → Out α} {k : En → α → Store → Res} {D : Ends} {σ : L2.St} {H : Hp} {Q' : β → Hp → Prop}
    (h : tS K Y W (fun env S => (f env S).toS env (k env)) D σ H)
    (q : ∀ ρ env v x H1 S1, ERep K Y ρ H1 σ env → Sim K Y ρ H1 S1 → R ρ H1 v x → PostS K Y W ρ H1 D (k env x S1) → Q' v H1) : tG K Y W R f σ H Q' := by
  obtain ⟨ρ, env, S, he, hs, h⟩ := h
  refine ⟨ρ, env, S, he, hs, ?_⟩
  dsimp only at h
  generalize f env S = o at h
  cases o with
  | ok x S1 =>
    intro v ρ1 H1 p e s r
    exact q ρ1 env v x H1 S1 (he.up p e) s r (PostS.up p e h)
  | err c fs S1 =>
    intro cls d ρ1 H1 p e s r
    exact h cls d σ ρ1 H1 p e (he.up p e) s r
  | bad => exact h

def sNil : En → Store → Res := fun env S => .nx env S
def sSeq (g h : En → Store → Res) : En → Store → Res := fun env S => match g env S with
  | .nx e S1 => h e S1
  | .rt v S1 => .rt v S1
  | .bk e S1 => .bk e S1
  | .ct e S1 => .ct e S1
  | .er c fs e S1 => .er c fs e S1
  | .bad => .bad
section
variable {X : Cx} {Y : Sy} {W : WX} {st : Stmt} {rest : List Stmt} {g h : En → Store → Res} {e : Expr} {f : En → Store → Out Val} {pos : Pos}
theorem ss_nil : SSs X Y W [] sNil := by
  refine PSs.imp pss_nil fun D σ H h => ?_
  obtain ⟨ρ, env, S, he, hs, h⟩ := h
  exact h σ ρ H (Pre.refl _) (Ext.refl _) he hs
theorem ss_one (h1 : SS X Y W st g) : SSs X Y W [st] g := pss_one h1
theorem ss_cons (h1 : SS X Y W st g) (h2 : SSs X Y W rest h) : SSs X Y W (st :: rest) (sSeq g h) := by
  refine PSs.imp (pss_cons h1 h2) fun D σ H hh => ?_
  obtain ⟨ρ, env, S, he, hs, hh⟩ := hh
  refine ⟨ρ, env, S, he, hs, ?_⟩
  simp only [sSeq] at hh
  generalize g env S = r at hh
  cases r with
  | nx e1 S1 => exact fun σ' ρ' H' p e q s => ⟨ρ', e1, S1, q, s, PostS.up p e hh⟩
  | rt v S1 => exact hh
  | bk v S1 => exact hh
  | ct v S1 => exact hh
  | er c fs v S1 => exact hh
  | bad => exact hh
def sBrk : En → Store → Res := fun env S => .bk env S
def sCt : En → Store → Res := fun env S => .ct env S
theorem ss_pass : SS X Y W (.Pass pos) sNil := by
  refine PS.imp ps_pass fun D σ H h => ?_
  obtain ⟨ρ, env, S, he, hs, h⟩ := h
  exact h σ ρ H (Pre.refl _) (Ext.refl _) he hs
theorem ss_doc {x j pos'} : SS X Y W (.Expr (.Constant (.str x) j pos') pos) sNil := by
  refine PS.imp ps_doc fun D σ H h => ?_
  obtain ⟨ρ, env, S, he, hs, h⟩ := h
  exact h σ ρ H (Pre.refl _) (Ext.refl _) he hs
theorem ss_break : SS X Y W (.Break pos) sBrk := by
  refine PS.imp ps_break fun D σ H h => ?_
  obtain ⟨ρ, env, S, he, hs, h⟩ := h
  exact h σ ρ H (Pre.refl _) (Ext.refl _) he hs
theorem ss_continue : SS X Y W (.Continue pos) sCt := by
  refine PS.imp ps_continue fun D σ H h => ?_
  obtain ⟨ρ, env, S, he, hs, h⟩ := h
  exact h σ ρ H (Pre.refl _) (Ext.refl _) he hs
def sExpr (f : En → Store → Out Val) : En → Store → Res := fun env S => (f env S).toS env fun _ S1 => .nx env S1
theorem ss_expr (he : SE X Y W e f) (hs : swapsWith e none pos.line X.env = pure false := by rfl) : SS X Y W (.Expr e pos) (sExpr f) := by
  refine PS.imp (ps_expr he hs) fun D σ H h => ?_
  refine tS.go (k := fun env _ S1 => .nx env S1) h fun ρ env v x H1 S1 he hs rx hp => ?_
  exact hp σ ρ H1 (Pre.refl _) (Ext.refl _) he hs
def sRet (f : En → Store → Out Val) : En → Store → Res := fun env S => (f env S).toS env fun x S1 => .rt x S1
theorem ss_ret (he : SE X Y W e f) : SS X Y W (.Return (some e) pos) (sRet f) := by
  refine PS.imp (ps_ret he) fun D σ H h => ?_
  refine tS.go (k := fun env x S1 => .rt x S1) h fun ρ env v x H1 S1 he hs rx hp => ?_
  exact hp v ρ H1 (Pre.refl _) (Ext.refl _) hs rx
def sRetN : En → Store → Res := fun _ S => .rt .non S
theorem ss_retN : SS X Y W (.Return none pos) sRetN := by
  refine PS.imp ps_retN fun D σ H h => ?_
  obtain ⟨ρ, env, S, he, hs, h⟩ := h
  exact h _ ρ H (Pre.refl _) (Ext.refl _) hs .non
def sIf (c : En → Store → Out Bool) (g h : En → Store → Res) : En → Store → Res := fun env S => (c env S).toS env fun b S1 => if b = true then g env S1 else h env S1
theorem ss_if {c : Expr} {a b : List Stmt} {fc : En → Store → Out Bool} (hc : ST X Y W c fc) (ha : SSs X Y W a g) (hb : SSs X Y W b h) : SS X Y W (.If c a b pos) (sIf fc g h) := by
  refine PS.imp (ps_if hc ha hb) fun D σ H hh => ?_
  refine tS.go (k := fun env b S1 => if b = true then g env S1 else h env S1) hh fun ρ env v x H1 S1 he hs rx hp => ?_
  subst rx
  cases v with
  | true => exact ⟨ρ, env, S1, he, hs, hp⟩
  | false => exact ⟨ρ, env, S1, he, hs, hp⟩

/-! ### targets -/
abbrev Tgt := Val → En → Option En
abbrev Tgts := List Val → En → Option En
/-- only the slots of L may be another -/
def SameBut (L : List Nat) (σ σ' : L2.St) : Prop := σ'.length = σ.length ∧ ∀ i, i ∉ L → σ'[i]? = σ[i]?
def tTg (K : PySem.W.Frag) (Y : Sy) (L : List Nat) (t : Tgt) : TG := fun v σ H Q => ∃ ρ env x env', ERep K Y ρ H σ env ∧ Rep K ρ H v x ∧ t x env = some env' ∧ ∀ σ', ERep K Y ρ H σ' env' → SameBut L σ σ' → Q σ' H
def tTgs (K : PySem.W.Frag) (Y : Sy) (L : List Nat) (t : Tgts) : TGs := fun v σ H Q => ∃ ρ env x env', ERep K Y ρ H σ env ∧ Reps K ρ H v x ∧ t x env = some env' ∧ ∀ σ', ERep K Y ρ H σ' env' → SameBut L σ σ' → Q σ' H
def SG (X : Cx) (Y : Sy) (tg : Expr) (L : List Nat) (t : Tgt) : Prop := PG X tg (tTg X.K Y L t)
def SGs (X : Cx) (Y : Sy) (tg : List Expr) (L : List Nat) (t : Tgts) : Prop := PGs X tg (tTgs X.K Y L t)
theorem PG.imp {X : Cx} {e : Expr} {t t' : TG} (h : PG X e t) (k : ∀ v σ H Q, t' v σ H Q → t v σ H Q) : PG X e t' := ⟨fun pins s σ H v u Q I r q => h.run pins s σ H v u Q I r (k v σ H Q q)⟩
theorem PGs.imp {X : Cx} {e : List Expr} {t t' : TGs} (h : PGs X e t) (k : ∀ v σ H Q, t' v σ H Q → t v σ H Q) : PGs X e t' := ⟨fun pins s σ H v u Q I r q => h.run pins s σ H v u Q I r (k v σ H Q q)⟩
def gN (i : Nat) : Tgt := fun x env => some (env.set i (some x))
theorem sg_name {i : Nat} {x : Str} (hy : Y.xi = none) (hN : X.N.Nodup) (hi : X.N[i]? = some x) (hx : Loc X.env.scope x) (hf : X.fn x = true ∨ X.env.scope.names.lookup x = some .local := by first | exact .inl rfl | exact .inr rfl | assumption) : SG X Y (.Name x pos) [i] (gN i) := by
  refine PG.imp (pg_name hN hi hx hf) fun v σ H Q h => ?_
  obtain ⟨ρ, env, x, env', he, hr, e, q⟩ := h
  cases e
  refine q _ (he.set hr hy) ⟨by simp, fun j hj => ?_⟩
  simp at hj
  exact List.getElem?_set_ne (Ne.symm hj)
def gNo : Tgts := fun xs env => match xs with
  | [] => some env
  | _ => none
def gCo (t : Tgt) (u : Tgts) : Tgts := fun xs env => match xs with
  | x :: r => (t x env).bind fun e => u r e
  | [] => none
theorem sgs_nil : SGs X Y [] [] gNo := by
  refine PGs.imp pgs_nil fun v σ H Q h => ?_
  obtain ⟨ρ, env, x, env', he, hr, e, q⟩ := h
  cases hr with
  | nil => cases e; exact ⟨rfl, q σ he ⟨rfl, fun _ _ => rfl⟩⟩
  | cons a b => cases e
theorem sgs_cons {es : List Expr} {L L' : List Nat} {t : Tgt} {u : Tgts} (h1 : SG X Y e L t) (h2 : SGs X Y es L' u)
    (hs : (assignEach (e :: es) X.env).map (·.2) = assign e X.env :: (assignEach es X.env).map (·.2) := by rfl) : SGs X Y (e :: es) (L ++ L') (gCo t u) := by
  refine PGs.imp (pgs_cons h1 h2 hs) fun v σ H Q h => ?_
  obtain ⟨ρ, env, x, env', he, hr, e, q⟩ := h
  cases hr with
  | nil => cases e
  | @cons v vs x xs a b =>
    obtain ⟨e1, q1, q2⟩ := Option.bind_eq_some_iff.mp (show (t x env).bind (fun e => u xs e) = some env' from e)
    refine ⟨v, vs, rfl, ρ, env, x, e1, he, a, q1, fun σ1 he1 s1 => ?_⟩
    exact ⟨ρ, e1, xs, env', he1, b, q2, fun σ2 he2 s2 => q σ2 he2 ⟨s2.1.trans s1.1, fun i hi => by
      rw [List.mem_append] at hi
      rw [s2.2 i fun z => hi (.inr z), s1.2 i fun z => hi (.inl z)]⟩⟩
def gT (n : Nat) (u : Tgts) : Tgt := fun x env => match x with
  | .tup xs => if xs.length = n then u xs env else none
  | _ => none
theorem sg_tup {es : List Expr} {k : Nat} {L : List Nat} {u : Tgts} {n : Nat} (hc : X.calm = true) (h : SGs X Y es L u)
    (hn : (assignEach es X.env).length = n := by rfl) (hst : (assignEach es X.env).findIdx? (·.1) = none := by rfl) : SG X Y (.Tuple es k pos) L (gT n u) := by
  refine PG.imp (pg_tup hc h hn hst) fun v σ H Q h => ?_
  obtain ⟨ρ, env, x, env', he, hr, e, q⟩ := h
  cases hr <;> try (simp [gT] at e; done)
  rename_i a vs xs e1 r
  simp only [gT] at e
  split at e
  · rename_i hl
    exact ⟨a, vs, rfl, SqT.of e1, r.length.trans hl, ρ, env, xs, env', he, r, e, q⟩
  · cases e
def sAsg (f : En → Store → Out Val) (t : Tgt) : En → Store → Res := fun env S => (f env S).toS env fun x S1 => match t x env with
  | some e => .nx e S1
  | none => .bad
theorem asg_of {L : List Nat} {t : Tgt} {D : Ends} {σ : L2.St} {H : Hp} (h : tS X.K Y W (sAsg f t) D σ H) : tAsg (tG X.K Y W (RV X.K) f) (tTg X.K Y L t) D σ H := by
  refine tS.go (k := fun env x S1 => match t x env with | some e => .nx e S1 | none => .bad) h fun ρ env v x H1 S1 he hs rx hp => ?_
  split at hp
  · rename_i e' q
    exact ⟨ρ, env, x, e', he, rx, q, fun σ' he' _ => hp σ' ρ H1 (Pre.refl _) (Ext.refl _) he' hs⟩
  · exact hp.elim
theorem ss_asg {tg : Expr} {L : List Nat} {t : Tgt} (he : SE X Y W e f) (hg : SG X Y tg L t) (hs : swapsWithSole [tg] e pos.line X.env = pure false := by rfl) (hw : swappedStores [tg] e X.env = pure none := by rfl)
    (h1 : (assignEach [tg] X.env).map (·.2) = [assign tg X.env] := by rfl) : SS X Y W (.Assign [tg] e pos) (sAsg f t) :=
  PS.imp (ps_asg he hg hs hw h1) fun _ _ _ h => asg_of h
abbrev sSet (i : Nat) (f : En → Store → Out Val) : En → Store → Res := sAsg f (gN i)
theorem ss_set {i : Nat} {x : Str} {pos' : Pos} (hy : Y.xi = none) (hN : X.N.Nodup) (hi : X.N[i]? = some x) (hx : Loc X.env.scope x) (he : SE X Y W e f) (hs : swapsWith e (some (.Name x pos')) pos.line X.env = pure false := by rfl) (hf : X.fn x = true ∨ X.env.scope.names.lookup x = some .local := by first | exact .inl rfl | exact .inr rfl | assumption) :
    SS X Y W (.Assign [.Name x pos'] e pos) (sSet i f) := by
  refine PS.imp (ps_set hN hi hx he hs hf) fun D σ H h => ?_
  refine tS.go (k := fun env x S1 => match gN i x env with | some e => .nx e S1 | none => .bad) h fun ρ env v x H1 S1 he hs rx hp => ?_
  exact hp _ ρ H1 (Pre.refl _) (Ext.refl _) (he.set rx hy) hs
/-- a, b = e1, e2: two local names -/
def kPar (i j : Nat) (env : En) (xs : List Val) (S1 : Store) : Res := match xs with
  | [x, y] => .nx ((env.set i (some x)).set j (some y)) S1
  | _ => .bad
def sPar (i j : Nat) (r : En → Store → Out (List Val)) : En → Store → Res := fun env S => (r env S).toS env (kPar i j env)
theorem ss_par {i j : Nat} {x y : Str} {a b : Expr} {ra : En → Store → Out (List Val)} {px py pt : Pos} {kt k2 pt2} (hh : Y.xi = none) (hc : X.calm = true) (hN : X.N.Nodup) (hi : X.N[i]? = some x) (hj : X.N[j]? = some y) (hij : i ≠ j)
    (hx : X.env.scope.names.lookup x = some .local) (hy : X.env.scope.names.lookup y = some .local) (ha : SA X Y W [a, b] ra)
    (hw : swappedStores [.Tuple [.Name x px, .Name y py] kt pt] (.Tuple [a, b] k2 pt2) X.env = pure (some [x, y]))
    (hs : swapsWithSole [.Tuple [.Name x px, .Name y py] kt pt] (.Tuple [a, b] k2 pt2) pos.line X.env = pure false := by rfl) :
    SS X Y W (.Assign [.Tuple [.Name x px, .Name y py] kt pt] (.Tuple [a, b] k2 pt2) pos) (sPar i j ra) := by
  refine PS.imp (ps_par hc hN hi hj hij hx hy ha hw hs) fun D σ H h => ?_
  refine tS.go (k := kPar i j) h fun ρ env vs xs H1 S1 he hs rx hp => ?_
  unfold kPar at hp
  split at hp
  · rename_i x y
    obtain ⟨v, w, rfl, r1, r2⟩ := reps2 rx
    exact ⟨v, w, rfl, hp _ ρ H1 (Pre.refl _) (Ext.refl _) ((he.set r1 hh).set r2 hh) hs⟩
  · exact hp.elim
end

/-! ### what is walked -/
abbrev Itm := List Val × (Store → Prop)
structure JRep (K : PySem.W.Frag) (Y : Sy) (ρ0 : List Addr) (H0 : Hp) (J : It) (p : Itm) : Prop where
  go : ∀ i ρ H S, Pre ρ0 ρ → Ext H0 H → Sim K Y ρ H S → p.2 S → i < p.1.length → J.go i H
  st : ∀ i ρ H S, Pre ρ0 ρ → Ext H0 H → Sim K Y ρ H S → p.2 S → p.1.length ≤ i → J.stop i H
  yl : ∀ i ρ H S v H', Pre ρ0 ρ → Ext H0 H → Sim K Y ρ H S → p.2 S → i < p.1.length → J.yld i H v H' → ∃ x, p.1[i]? = some x ∧ Ext H H' ∧ Sim K Y ρ H' S ∧ Rep K ρ H' v x
abbrev RJ (K : PySem.W.Frag) (Y : Sy) : RR It Itm := fun ρ H J p => JRep K Y ρ H J p
def SI (X : Cx) (Y : Sy) (W : WX) (tg iter : Expr) (f : En → Store → Out Itm) : Prop := PI X tg iter (tG X.K Y W (RJ X.K Y) f)
theorem PI.imp {X : Cx} {tg e : Expr} {t t' : TI} (h : PI X tg e t) (k : ∀ σ H Q, t' σ H Q → t σ H Q) : PI X tg e t' := ⟨fun pins s σ H R I q => h.run pins s σ H R I (k σ H R q)⟩
section
variable {K : PySem.W.Frag} {Y : Sy} {ρ : List Addr} {H : Hp}
theorem JRep.tup {a : Addr} {vs : List V} {xs : List Val} (e : H a = some (.tup vs)) (r : Reps K ρ H vs xs) : JRep K Y ρ H (Itt K a) (xs, fun _ => True) := by
  have key : ∀ ρ' H', Pre ρ ρ' → Ext H H' → SqT K H' a vs ∧ Reps K ρ' H' vs xs := fun ρ' H' p q => ⟨SqT.of (q _ _ trivial e), r.up p q⟩
  refine ⟨fun i ρ' H' S p q s _ hi => ?_, fun i ρ' H' S p q s _ hi => ?_, fun i ρ' H' S v H2 p q s _ hi hy => ?_⟩
  · obtain ⟨h1, h2⟩ := key ρ' H' p q
    have hl : i < vs.length := by rw [h2.length]; exact hi
    exact ⟨vs, vs[i], h1, List.getElem?_eq_getElem hl⟩
  · obtain ⟨h1, h2⟩ := key ρ' H' p q
    exact ⟨vs, h1, by rw [h2.length]; exact hi⟩
  · obtain ⟨h1, h2⟩ := key ρ' H' p q
    obtain ⟨rfl, hv⟩ := hy
    obtain ⟨x, e1, r1⟩ := h2.getV (hv vs h1)
    exact ⟨x, e1, Ext.refl _, s, r1⟩
theorem JRep.frz {a : Addr} {vs : List V} {xs : List Val} (e : Fzl K H a vs) (r : Reps K ρ H vs xs) : JRep K Y ρ H (Itl K a) (xs, fun _ => True) := by
  have key : ∀ ρ' H', Pre ρ ρ' → Ext H H' → SqL K H' a vs ∧ Reps K ρ' H' vs xs := fun ρ' H' p q => ⟨(e.up q).sq, r.up p q⟩
  refine ⟨fun i ρ' H' S p q s _ hi => ?_, fun i ρ' H' S p q s _ hi => ?_, fun i ρ' H' S v H2 p q s _ hi hy => ?_⟩
  · obtain ⟨h1, h2⟩ := key ρ' H' p q
    have hl : i < vs.length := by rw [h2.length]; exact hi
    exact ⟨vs, vs[i], h1, List.getElem?_eq_getElem hl⟩
  · obtain ⟨h1, h2⟩ := key ρ' H' p q
    exact ⟨vs, h1, by rw [h2.length]; exact hi⟩
  · obtain ⟨h1, h2⟩ := key ρ' H' p q
    obtain ⟨rfl, hv⟩ := hy
    obtain ⟨x, e1, r1⟩ := h2.getV (hv vs h1)
    exact ⟨x, e1, Ext.refl _, s, r1⟩
theorem JRep.lst {a : Addr} {n : Nat} {xs : List Val} (hn : ρ[n]? = some a) : JRep K Y ρ H (Itl K a) (xs, fun S => S[n]? = some (.lst xs)) := by
  have key : ∀ ρ' H' S, Pre ρ ρ' → Sim K Y ρ' H' S → S[n]? = some (.lst xs) → ∃ vs, SqL K H' a vs ∧ Reps K ρ' H' vs xs := fun ρ' H' S p s c => by
    obtain ⟨vs, e, r⟩ := s.lst (p _ _ hn) c
    exact ⟨vs, SqL.of e, r⟩
  refine ⟨fun i ρ' H' S p q s c hi => ?_, fun i ρ' H' S p q s c hi => ?_, fun i ρ' H' S v H2 p q s c hi hy => ?_⟩
  · obtain ⟨vs, h1, h2⟩ := key ρ' H' S p s c
    have hl : i < vs.length := by rw [h2.length]; exact hi
    exact ⟨vs, vs[i], h1, List.getElem?_eq_getElem hl⟩
  · obtain ⟨vs, h1, h2⟩ := key ρ' H' S p s c
    exact ⟨vs, h1, by rw [h2.length]; exact hi⟩
  · obtain ⟨vs, h1, h2⟩ := key ρ' H' S p s c
    obtain ⟨rfl, hv⟩ := hy
    obtain ⟨x, e1, r1⟩ := h2.getV (hv vs h1)
    exact ⟨x, e1, Ext.refl _, s, r1⟩
end
/-- the items of a list or a tuple; a list must stay as it is while it is walked -/
def walkOf (S : Store) : Val → Option Itm
  | .tup xs => some (xs, fun _ => True)
  | .frz xs => some (xs, fun _ => True)
  | .ref n => match S[n]? with
    | some (.lst xs) => some (xs, fun S' => S'[n]? = some (.lst xs))
    | _ => none
  | _ => none
def iSeq (f : En → Store → Out Val) : En → Store → Out Itm := fun env S => (f env S).bind fun x S1 => match walkOf S1 x with
  | some p => .ok p S1
  | none => .bad
theorem walkOf_rep {K : PySem.W.Frag} {Y : Sy} {ρ : List Addr} {H : Hp} {S : Store} {v : V} {x : Val} {p : Itm} (hs : Sim K Y ρ H S) (r : Rep K ρ H v x) (h : walkOf S x = some p) :
    ∃ a, v = .ref a ∧ (((∃ vs, SqL K H a vs) ∧ JRep K Y ρ H (Itl K a) p) ∨ ((∃ vs, SqT K H a vs) ∧ JRep K Y ρ H (Itt K a) p)) := by
  cases r <;> try (simp [walkOf] at h; done)
  case tup a vs xs e r => cases h; exact ⟨a, rfl, .inr ⟨⟨vs, SqT.of e⟩, JRep.tup e r⟩⟩
  case frz a vs xs e r => cases h; exact ⟨a, rfl, .inl ⟨⟨vs, e.sq⟩, JRep.frz e r⟩⟩
  case ref a i hi =>
    simp only [walkOf] at h
    split at h
    · rename_i xs e
      cases h
      obtain ⟨vs, e2, r2⟩ := hs.lst hi e
      exact ⟨a, rfl, .inl ⟨⟨vs, SqL.of e2⟩, JRep.lst hi⟩⟩
    · cases h
def iLT (K : PySem.W.Frag) (tl : TE) : TI := fun σ H R => tl σ H fun x H1 => ∃ a, x = .ref a ∧ (((∃ xs, SqL K H1 a xs) ∧ R (Itl K a) H1) ∨ ((∃ xs, SqT K H1 a xs) ∧ R (Itt K a) H1))
section
variable {X : Cx} {Y : Sy} {W : WX} {tg e : Expr} {f : En → Store → Out Val}
/-- both ways at once: by what the value turns out to be -/
theorem pi_lt {te : TE} (he : PE X e te) : PI X tg e (iLT X.K te) := by
  refine ⟨fun pins s σ H R I h => ?_⟩
  refine thn (he.run pins s σ H _ I h) fun v s1 ⟨x, H1, I1, r1, q1⟩ => ?_
  obtain ⟨a, e, q⟩ := q1
  subst e
  cases r1
  have fre : ∀ b ∈ [s1.heap.objs.size], FpOk X pins H1 b := fun b hb => by
    have e : b = s1.heap.objs.size := by simpa using hb
    subst e
    exact I1.fpOk (Nat.le_refl _) (I1.hok.fresh (Nat.le_refl _))
  rcases q with ⟨⟨xs, hq⟩, q⟩ | ⟨⟨xs, hq⟩, q⟩
  · obtain ⟨its, rv, p, hz⟩ := I1.list hq
    refine wpAny_pyIter_list p.isList ?_
    exact ⟨s1.heap.objs.size, [s1.heap.objs.size], _, _, H1, rfl, I1.kept (t' := s1.toks) fun b o e => Heap.get?_push_of_some _ e, turn_list a _, ⟨_, Heap.get?_push_size _ rfl, rfl, rfl⟩, fre, q⟩
  · obtain ⟨its, rv, p, hz⟩ := I1.tuple hq
    refine wpAny_pyIter_tuple (show s1.heap.IsTuple a its.toArray from p) ?_
    exact ⟨s1.heap.objs.size, [s1.heap.objs.size], _, _, H1, rfl, I1.kept (t' := s1.toks) fun b o e => Heap.get?_push_of_some _ e, turn_tuple a _, ⟨_, Heap.get?_push_size _ rfl, rfl, rfl⟩, fre, q⟩
theorem si_seq (he : SE X Y W e f) : SI X Y W tg e (iSeq f) := by
  refine PI.imp (pi_lt he) fun σ H R h => ?_
  refine tG.bind (k := fun env x S1 => match walkOf S1 x with | some p => Out.ok p S1 | none => Out.bad) h fun ρ env v x H1 S1 he hs rx hp => ?_
  split at hp
  · rename_i p ep
    obtain ⟨a, e1, hh⟩ := walkOf_rep hs rx ep
    refine ⟨a, e1, ?_⟩
    rcases hh with ⟨h1, h2⟩ | ⟨h1, h2⟩
    · exact .inl ⟨h1, hp _ ρ H1 (Pre.refl _) (Ext.refl _) hs h2⟩
    · exact .inr ⟨h1, hp _ ρ H1 (Pre.refl _) (Ext.refl _) hs h2⟩
  · exact hp.elim
/-- lo, lo + 1, .. -/
def upL (lo : Int) (n : Nat) : List Val := (List.range n).map fun (k : Nat) => Val.int (lo + k)
theorem JRep.rng {K : PySem.W.Frag} {ρ : List Addr} {H : Hp} {lo : Int} {n : Nat} : JRep K Y ρ H (Itr lo n) (upL lo n, fun _ => True) := by
  refine ⟨fun i ρ' H' S p q s _ hi => ?_, fun i ρ' H' S p q s _ hi => ?_, fun i ρ' H' S v H2 p q s _ hi hy => ?_⟩
  · show i < n
    simpa [upL] using hi
  · show n ≤ i
    simpa [upL] using hi
  · obtain ⟨rfl, rfl⟩ := hy
    have hi' : i < n := by simpa [upL] using hi
    exact ⟨.int (lo + i), by simp [upL, hi'], Ext.refl _, s, .int _⟩
def RNG : Int := 2 ^ 60
def all1 : Store → Prop := fun _ => True
noncomputable def k1R (xs : List Val) (S1 : Store) : Out Itm := match xs with
  | [.int j] => @ite _ (-RNG ≤ j ∧ j < RNG) (Classical.propDecidable _) (.ok (upL 0 j.toNat, fun _ => True) S1) .bad
  | _ => .bad
noncomputable def k2R (xs : List Val) (S1 : Store) : Out Itm := match xs with
  | [.int i, .int j] => @ite _ ((-RNG ≤ i ∧ i < RNG) ∧ -RNG ≤ j ∧ j < RNG) (Classical.propDecidable _) (.ok (upL i (j - i).toNat, fun _ => True) S1) .bad
  | _ => .bad
noncomputable def iR1 (fa : En → Store → Out (List Val)) : En → Store → Out Itm := fun env S => (fa env S).bind k1R
noncomputable def iR2 (fa : En → Store → Out (List Val)) : En → Store → Out Itm := fun env S => (fa env S).bind k2R
theorem si_r1 {a : Expr} {fa : En → Store → Out (List Val)} {p pos : Pos} (hg : Gl X "range") (hm : X.mg "range" = none) (ha : SA X Y W [a] fa) (hs : starEach [a] X.env = [(false, eval a X.env)] := by rfl) : SI X Y W tg (.Call (.Name "range" p) [a] [] pos) (iR1 fa) := by
  refine PI.imp (pi_range1 hg hm ha hs) fun σ H R h => ?_
  refine tG.bind (k := fun _ => k1R) h fun ρ env vs xs H1 S1 he hs rx hp => ?_
  unfold k1R at hp
  split at hp
  · rename_i j
    split at hp
    · rename_i hj
      obtain ⟨v, rfl, r⟩ := reps1 rx
      cases r
      have h1 : (RNG : Int) = 2 ^ 60 := rfl
      exact ⟨j, rfl, by omega, by omega, hp _ ρ H1 (Pre.refl _) (Ext.refl _) hs JRep.rng⟩
    · exact hp.elim
  · exact hp.elim
theorem si_r2 {a b : Expr} {fa : En → Store → Out (List Val)} {p pos : Pos} (hg : Gl X "range") (hm : X.mg "range" = none) (ha : SA X Y W [a, b] fa) (hs : starEach [a, b] X.env = [(false, eval a X.env), (false, eval b X.env)] := by rfl) (hs2 : starEach [b] X.env = [(false, eval b X.env)] := by rfl) : SI X Y W tg (.Call (.Name "range" p) [a, b] [] pos) (iR2 fa) := by
  refine PI.imp (pi_range2 hg hm ha hs hs2) fun σ H R h => ?_
  refine tG.bind (k := fun _ => k2R) h fun ρ env vs xs H1 S1 he hs rx hp => ?_
  unfold k2R at hp
  split at hp
  · rename_i i j
    split at hp
    · rename_i hj
      obtain ⟨v, w, rfl, r1, r2⟩ := reps2 rx
      cases r1; cases r2
      have h1 : (RNG : Int) = 2 ^ 60 := rfl
      exact ⟨i, j, rfl, by omega, hp _ ρ H1 (Pre.refl _) (Ext.refl _) hs JRep.rng⟩
    · exact hp.elim
  · exact hp.elim
end

/-! ### for -/
open Classical in
noncomputable def forX (ck : Store → Prop) (t : Tgt) (g : En → Store → Res) : List Val → En → Store → Res
  | [], env, S => if ck S then .nx env S else .bad
  | x :: r, env, S => if ck S then (match t x env with
    | none => .bad
    | some e => match g e S with
      | .nx e1 S1 => forX ck t g r e1 S1
      | .ct e1 S1 => forX ck t g r e1 S1
      | .bk e1 S1 => .nx e1 S1
      | .rt v S1 => .rt v S1
      | .er c fs e1 S1 => .er c fs e1 S1
      | .bad => .bad) else .bad
noncomputable def sFor (fi : En → Store → Out Itm) (t : Tgt) (g : En → Store → Res) : En → Store → Res := fun env S => (fi env S).toS env fun p S1 => forX p.2 t g p.1 env S1
section
variable {X : Cx} {Y : Sy} {W : WX} {tg iter : Expr} {body : List Stmt} {fi : En → Store → Out Itm} {L : List Nat} {t : Tgt} {g : En → Store → Res} {pos : Pos}
theorem ss_for (hp : PassesOwn (model X.prog X.w) X.A X.env X.xe) (hc : X.calm = true) (hi : SI X Y W tg iter fi) (hg : SG X Y tg L t) (hb : SSs X Y W body g)
    (hs : ∀ x, foldedSetIterable iter X.env x = pure x := by intro _; rfl) : SS X Y W (.For tg iter body [] pos) (sFor fi t g) := by
  refine PS.imp (ps_for hp hc hi hg hb hs) fun D σ0 H0 h => ?_
  refine tS.go (k := fun env (p : Itm) S1 => forX p.2 t g p.1 env S1) h fun ρ0 env0 J p H1 S0 he0 hs0 rj hp0 => ?_
  refine ⟨fun i m σ H => ∃ ρ env S, m = p.1.length - i ∧ i ≤ p.1.length ∧ Pre ρ0 ρ ∧ Ext H1 H ∧ ERep X.K Y ρ H σ env ∧ Sim X.K Y ρ H S ∧ PostS X.K Y W ρ H D (forX p.2 t g (p.1.drop i) env S),
    ⟨_, ρ0, env0, S0, rfl, Nat.zero_le _, Pre.refl _, Ext.refl _, he0, hs0, hp0⟩, fun i m σ H hw => ?_⟩
  obtain ⟨ρ, env, S, rfl, hi, pr, ex, he, hs, hp⟩ := hw
  by_cases hlt : i < p.1.length
  · have ed : p.1.drop i = p.1[i] :: p.1.drop (i + 1) := List.drop_eq_getElem_cons hlt
    rw [ed] at hp
    simp only [forX] at hp
    split at hp
    · rename_i hck
      refine .inr ⟨rj.go i ρ H S pr ex hs hck hlt, fun σ' H' => ∃ ρ env S, Pre ρ0 ρ ∧ Ext H1 H' ∧ ERep X.K Y ρ H' σ' env ∧ Sim X.K Y ρ H' S ∧ PostS X.K Y W ρ H' D (forX p.2 t g (p.1.drop (i + 1)) env S), fun σ' H' hn => ?_, fun v H' hy => ?_⟩
      · obtain ⟨ρ', env', S', a1, a2, a3, a4, a5⟩ := hn
        exact ⟨p.1.length - (i + 1), by omega, ρ', env', S', rfl, by omega, a1, a2, a3, a4, a5⟩
      · obtain ⟨x, ex1, ex2, hs2, rx⟩ := rj.yl i ρ H S v H' pr ex hs hck hlt hy
        have exx : p.1[i] = x := by
          rw [List.getElem?_eq_getElem hlt] at ex1
          exact Option.some.inj ex1
        rw [exx] at hp
        split at hp
        · exact hp.elim
        · rename_i e1 te
          refine ⟨ρ, env, x, e1, he.up (Pre.refl _) ex2, rx, te, fun σ2 he2 _ => ?_⟩
          refine ⟨ρ, e1, S, he2, hs2, ?_⟩
          have ex3 : Ext H1 H' := ex.trans ex2
          generalize hgr : g e1 S = r at hp
          cases r with
          | nx e2 S2 => exact fun σ3 ρ3 H3 p3 q3 r3 s3 => ⟨ρ3, e2, S2, pr.trans p3, ex3.trans q3, r3, s3, PostS.up p3 (ex2.trans q3) hp⟩
          | ct e2 S2 => exact fun σ3 ρ3 H3 p3 q3 r3 s3 => ⟨ρ3, e2, S2, pr.trans p3, ex3.trans q3, r3, s3, PostS.up p3 (ex2.trans q3) hp⟩
          | bk e2 S2 => exact fun σ3 ρ3 H3 p3 q3 r3 s3 => hp σ3 ρ3 H3 p3 (ex2.trans q3) r3 s3
          | rt v S2 => exact fun v ρ3 H3 p3 q3 r3 s3 => hp v ρ3 H3 p3 (ex2.trans q3) r3 s3
          | er c fs e2 S2 => exact fun c d σ3 ρ3 H3 p3 q3 r3 s3 => hp c d σ3 ρ3 H3 p3 (ex2.trans q3) r3 s3
          | bad => exact hp
    · exact hp.elim
  · have ed : p.1.drop i = [] := List.drop_eq_nil_of_le (by omega)
    rw [ed] at hp
    simp only [forX] at hp
    split at hp
    · rename_i hck
      exact .inl ⟨rj.st i ρ H S pr ex hs hck (by omega), hp σ ρ H (Pre.refl _) (Ext.refl _) he hs⟩
    · exact hp.elim
end
end Mp

set_option Elab.async false
set_option linter.all false
set_option maxRecDepth 100000
/-! Own defs, comprehensions, methods of lists, stores. -/
namespace Mp
open PySem PySem.Spec PyProof.Rows L2

/-! ### the context of a body -/
structure Cc (X : Cx) (Y : Sy) (W : WX) (k : Nat) : Prop where
  calm : X.calm = true
  nd : X.N.Nodup
  xi : Y.xi = none
  hp : PassesOwn (model X.prog X.w) X.A X.env X.xe
  tk : Takes X W
  room : Room k X.A
theorem Cc.u0 {X : Cx} {Y : Sy} {W : WX} {k : Nat} (c : Cc X Y W k) : X.A.units < cLine := c.room.units0
theorem Cc.u1 {X : Cx} {Y : Sy} {W : WX} {k : Nat} (c : Cc X Y W k) : X.A.units + 1 < cLine := by have := c.room.units; omega
theorem Cc.u64 {X : Cx} {Y : Sy} {W : WX} {k : Nat} (c : Cc X Y W k) : X.A.units + 64 < cLine := c.room.units
theorem Cc.u65 {X : Cx} {Y : Sy} {W : WX} {k : Nat} (c : Cc X Y W k) : X.A.units + 65 < cLine := by have := c.room.un; omega
abbrev W0 : WX := fun _ _ _ _ => False
theorem Cc.blk {X : Cx} {Y : Sy} {W : WX} {k : Nat} (c : Cc X Y W k) (s : Shared) (H : Hp) (scope : Scope) (cenv : Env) (fp : List Addr) : Cc (X.blk s H scope cenv fp) Y W0 k :=
  ⟨c.calm, c.nd, c.xi, PassesOwn.never, takes0, c.room⟩

/-! ### defs of the text -/
def spOf (K : PySem.W.Frag) (Y : Sy) (n : Nat) (g : Fn) : Sp := fun vs H Q E => vs.length = n ∧ ∃ ρ xs S, Reps K ρ H vs xs ∧ Sim K Y ρ H S ∧ Post K Y (fun cls d H' => E cls d H') ρ H (RV K) Q (g xs S)
def fnB (N n : Nat) (g : En → Store → Res) : Fn := fun xs S => if xs.length = n then (match g (xs.map some ++ List.replicate (N - n) none) S with
  | .nx _ S1 => .ok .non S1
  | .rt v S1 => .ok v S1
  | .er c fs _ S1 => .err c fs S1
  | _ => .bad) else .bad
def Arity (n : Nat) (g : Fn) : Prop := ∀ xs S, xs.length ≠ n → g xs S = .bad
theorem arity_fnB {N n : Nat} {g : En → Store → Res} : Arity n (fnB N n g) := fun xs S h => by unfold fnB; rw [if_neg h]
theorem fn_ok {P : Program} {w : World} {K : PySem.W.Frag} {mg : Str → Option Value} {base : Heap} {Y : Sy} {x qual : Str} {st : Stmt} {f : Addr} {fd : FuncData} {N ps : List Str} {k : Nat} {g : En → Store → Res} (F : Fun K x qual st f fd) (S : FnScope N ps (defScope st)) (hy : Y.xi = none)
    (hb : ∀ cdv A outer s H E, Cc (cxOf (L2.CX P w) P w K mg base N qual (defScope st) f cdv A outer s H E) Y (fun cls d _ H' => E cls d H') k →
      SSs (cxOf (L2.CX P w) P w K mg base N qual (defScope st) f cdv A outer s H E) Y (fun cls d _ H' => E cls d H') (defBody st) g) :
    FnOk P w K mg base (L2.CX P w) (k + 1) f fd ps (spOf K Y ps.length (fnB N.length ps.length g)) := by
  refine F.okX S (fun vs H Q E h => h.1) fun cdv A outer s H vs Q E hr h => ?_
  refine ⟨_, hb cdv A outer s H E ⟨rfl, S.nd, hy, passes_of rfl, takes_of rfl rfl rfl rfl, hr⟩, ?_⟩
  obtain ⟨hl, ρ, xs, S0, rx, hs, hp⟩ := h
  have hl2 : xs.length = ps.length := rx.length.symm.trans hl
  unfold fnB at hp
  rw [if_pos hl2] at hp
  refine ⟨ρ, xs.map some ++ List.replicate (N.length - ps.length) none, S0, ⟨?_, fun i x hi => ?_, fun n a cv d fs q => by rw [hy] at q; cases q⟩, hs, ?_⟩
  · unfold L2.start
    simp [rx.length, hl2]
  · unfold L2.start
    by_cases hi2 : i < xs.length
    · rw [List.getElem?_append_left (by simpa using hi2), List.getElem?_map] at hi
      have hx : xs[i]? = some x := by
        rw [List.getElem?_eq_getElem hi2] at hi ⊢
        simpa using hi
      obtain ⟨v, h1, h2⟩ := rx.get hx
      refine ⟨v, ?_, h2⟩
      rw [List.getElem?_append_left (by simpa [rx.length] using hi2), List.getElem?_map, h1]
      rfl
    · rw [List.getElem?_append_right (by simpa using Nat.le_of_not_lt hi2)] at hi
      have := List.mem_of_getElem? hi
      simp [List.mem_replicate] at this
  · show PostS K Y _ ρ H _ (g _ S0)
    generalize hgr : g (xs.map some ++ List.replicate (N.length - ps.length) none) S0 = r at hp
    cases r with
    | nx e1 S1 => exact fun σ' ρ' H' p e q s => hp _ ρ' H' p e s .non
    | rt v S1 => exact fun v ρ' H' p e s r => hp v ρ' H' p e s r
    | bk e1 S1 => exact (show False from hp).elim
    | ct e1 S1 => exact (show False from hp).elim
    | er c fs e1 S1 => exact fun cls d σ' ρ' H' p e q s r => hp cls d ρ' H' p e s r
    | bad => exact hp
section
variable {X : Cx} {Y : Sy} {W : WX} {k kc : Nat} {e : Expr} {es : List Expr} {ga : En → Store → Out (List Val)} {p pos : Pos} {x : Str} {g : Fn} {f : Addr} {fd : FuncData} {ps : List Str} {n : Nat}
theorem se_call (c : Cc X Y W kc) (F : FnOk X.prog X.w X.K X.mg X.base (L2.CX X.prog X.w) k f fd ps (spOf X.K Y n g)) (har : Arity n g) (hk : k ≤ kc) (hg : Gl X x) (hm : X.mg x = some (.ref f)) (kp : PySem.W.keepIn X.K (.ref f) = true) (hb : Binds X.K fd ps []) (ha : SA X Y W (e :: es) ga)
    (hdb : (x == ("__debug__" : Str)) = false := by decide) (he : starEach (e :: es) X.env = (false, eval e X.env) :: starEach es X.env := by rfl) (hpl : (backTo pos (starEach es X.env)).any (·.1) = false := by rfl) : SE X Y W (.Call (.Name x p) (e :: es) [] pos) (eCall g ga) := by
  refine PE.imp (pe_callS (F.mono hk) c.room hg hm kp hb (fun σ => passAt c.tk σ) ha hdb he hpl) fun σ H Q h => ?_
  refine tG.bind (k := fun _ => g) h fun ρ env vs xs H1 S1 he hs rx hp => ?_
  refine ⟨?_, ρ, xs, S1, rx, hs, hp⟩
  by_cases hl : xs.length = n
  · rw [rx.length]; exact hl
  · rw [har xs S1 hl] at hp
    exact hp.elim
end

/-! ### comprehensions -/
def wipeE (env : En) : List Nat → En
  | [] => env
  | v :: vs => (wipeE env vs).set v none
theorem wipeE_length (env : En) : ∀ vs : List Nat, (wipeE env vs).length = env.length
  | [] => rfl
  | v :: vs => by unfold wipeE; rw [List.length_set, wipeE_length env vs]
theorem ERep.wipe {K : PySem.W.Frag} {Y : Sy} {ρ : List Addr} {H : Hp} {σ : L2.St} {env : En} (hx : Y.xi = none) (h : ERep K Y ρ H σ env) : ∀ vs : List Nat, ERep K Y ρ H (L2.wipe σ vs) (wipeE env vs)
  | [] => h
  | v :: vs => by
    have ih := ERep.wipe hx h vs
    refine ⟨by unfold L2.wipe wipeE; simp [ih.len], fun i x q => ?_, fun n a cv d fs q => by rw [hx] at q; cases q⟩
    unfold wipeE at q
    unfold L2.wipe
    by_cases hi : v = i
    · subst hi
      by_cases hv : v < (wipeE env vs).length
      · rw [List.getElem?_set_self hv] at q; cases q
      · rw [List.getElem?_eq_none (by simpa using hv)] at q; cases q
    · rw [List.getElem?_set_ne hi] at q ⊢
      exact ih.at_ i x q
theorem wipe_get {σ : L2.St} (i : Nat) : ∀ vs : List Nat, (L2.wipe σ vs)[i]? = if i ∈ vs ∧ i < σ.length then some none else σ[i]?
  | [] => by simp [L2.wipe]
  | v :: vs => by
    unfold L2.wipe
    by_cases hi : v = i
    · subst hi
      by_cases hv : v < σ.length
      · rw [List.getElem?_set_self (by rw [L2.wipe_length]; exact hv), if_pos ⟨by simp, hv⟩]
      · rw [List.getElem?_eq_none (by simp [L2.wipe_length]; omega), if_neg (fun z => hv z.2), List.getElem?_eq_none (by omega)]
    · rw [List.getElem?_set_ne hi, wipe_get i vs]
      have : (i ∈ v :: vs) ↔ i ∈ vs := by simp [Ne.symm hi]
      simp only [this]
theorem wipe_same {L vs : List Nat} {σ σ' : L2.St} (s : SameBut L (L2.wipe σ vs) σ') (h : ∀ i ∈ L, i ∈ vs) : L2.wipe σ' vs = L2.wipe σ vs := by
  have hl : σ'.length = σ.length := by rw [s.1, L2.wipe_length]
  refine List.ext_getElem? fun i => ?_
  rw [wipe_get, wipe_get, hl]
  by_cases hi : i ∈ vs ∧ i < σ.length
  · rw [if_pos hi, if_pos hi]
  · rw [if_neg hi, if_neg hi]
    by_cases hv : i ∈ vs
    · have : ¬ i < σ.length := fun z => hi ⟨hv, z⟩
      rw [List.getElem?_eq_none (by omega), List.getElem?_eq_none (by omega)]
    · rw [s.2 i fun z => hv (h i z), wipe_get, if_neg fun z => hv z.1]
def Out.tie {α β : Type} : Out α → (α → Store → Out β) → Out β
  | .ok x S, k => k x S
  | _, _ => .bad
open Classical in
noncomputable def lcX (ck : Store → Prop) (t : Tgt) (tst : En → Store → Out Bool) (el : En → Store → Out Val) (n : Nat) (env : En) : List Val → List Val → Store → Out Val
  | [], _, S => if ck S then .ok (.ref n) S else .bad
  | x :: r, acc, S => if ck S then (match t x env with
    | none => .bad
    | some e => (tst e S).tie fun b S1 => if b = true then (el e S1).tie fun y S2 => if S2[n]? = some (.lst acc) ∧ acc.length < LIM then lcX ck t tst el n env r (acc ++ [y]) (S2.set n (.lst (acc ++ [y]))) else .bad
      else lcX ck t tst el n env r acc S1) else .bad
noncomputable def eLc (fi : En → Store → Out Itm) (t : Tgt) (tst : En → Store → Out Bool) (el : En → Store → Out Val) (vs : List Nat) : En → Store → Out Val := fun env S =>
  (fi env S).bind fun p S1 => lcX p.2 t tst el S1.length (wipeE env vs) p.1 [] (S1 ++ [.lst []])
def SPt (X : Cx) (Y : Sy) (ifs : List Expr) (f : En → Store → Out Bool) : Prop := PTs X ifs (tG X.K Y W0 RB f)
theorem PTs.imp {X : Cx} {e : List Expr} {t t' : TT} (h : PTs X e t) (k : ∀ σ H Q, t' σ H Q → t σ H Q) : PTs X e t' := ⟨fun pins s σ H Q I q => h.run pins s σ H Q I (k σ H Q q)⟩
def bYes : En → Store → Out Bool := fun _ S => .ok true S
section
variable {X : Cx} {Y : Sy} {W : WX} {k : Nat}
theorem sp_nil : SPt X Y [] bYes := by
  refine PTs.imp pts_nil fun σ H Q h => ?_
  obtain ⟨ρ, env, S, he, hs, h⟩ := h
  exact h true ρ H (Pre.refl _) (Ext.refl _) hs rfl
theorem sp_one {c : Expr} {f : En → Store → Out Bool} (h : ST X Y W0 c f) : SPt X Y [c] f := pts_one h
theorem tLc_of {fi : En → Store → Out Itm} {t : Tgt} {tst : En → Store → Out Bool} {el : En → Store → Out Val} {vs L : List Nat} {σ : L2.St} {H : Hp} {Q : VK} (hx : Y.xi = none) (hL : ∀ i ∈ L, i ∈ vs)
    (h : tG X.K Y W (RV X.K) (eLc fi t tst el vs) σ H Q) : tLc (tG X.K Y W (RJ X.K Y) fi) (tTg X.K Y L t) (tG X.K Y W0 RB tst) (tG X.K Y W0 (RV X.K) el) vs σ H Q := by
  refine tG.bind (k := fun env (p : Itm) S1 => lcX p.2 t tst el S1.length (wipeE env vs) p.1 [] (S1 ++ [.lst []])) h fun ρ0 env J p H1 S0 he0 hs0 rj hp0 => ?_
  intro D hD
  have hs1 : Sim X.K Y (ρ0 ++ [D]) (upd H1 D (.lst [])) (S0 ++ [.lst []]) := hs0.new hD ⟨[], upd_same, .nil⟩
  have hDn : (ρ0 ++ [D])[S0.length]? = some D := by rw [← hs0.len]; simp
  refine ⟨fun i m H' => ∃ ρ acc S, m = p.1.length - i ∧ i ≤ p.1.length ∧ Pre (ρ0 ++ [D]) ρ ∧ Ext (upd H1 D (.lst [])) H' ∧ Sim X.K Y ρ H' S ∧ Post X.K Y (fun cls d H' => W cls d σ H') ρ H' (RV X.K) Q (lcX p.2 t tst el S0.length (wipeE env vs) (p.1.drop i) acc S),
    ⟨_, ρ0 ++ [D], [], _, rfl, Nat.zero_le _, Pre.refl _, Ext.refl _, hs1, Post.up (Pre.snoc _ _) (Ext.new hD) hp0⟩, fun i m H2 hw => ?_⟩
  obtain ⟨ρ, acc, S, rfl, hi, pr, ex, hs, hp⟩ := hw
  have pr0 : Pre ρ0 ρ := (Pre.snoc _ _).trans pr
  have ex0 : Ext H1 H2 := (Ext.new hD).trans ex
  by_cases hlt : i < p.1.length
  · have ed : p.1.drop i = p.1[i] :: p.1.drop (i + 1) := List.drop_eq_getElem_cons hlt
    rw [ed] at hp
    simp only [lcX] at hp
    split at hp
    · rename_i hck
      refine .inr ⟨rj.go i ρ H2 S pr0 ex0 hs hck hlt, fun H' => ∃ ρ acc S, Pre (ρ0 ++ [D]) ρ ∧ Ext (upd H1 D (.lst [])) H' ∧ Sim X.K Y ρ H' S ∧ Post X.K Y (fun cls d H' => W cls d σ H') ρ H' (RV X.K) Q (lcX p.2 t tst el S0.length (wipeE env vs) (p.1.drop (i + 1)) acc S), fun H' hn => ?_, fun v H' hy => ?_⟩
      · obtain ⟨ρ', acc', S', a1, a2, a3, a4⟩ := hn
        exact ⟨p.1.length - (i + 1), by omega, ρ', acc', S', rfl, by omega, a1, a2, a3, a4⟩
      · obtain ⟨x, ex1, ex2, hs2, rx⟩ := rj.yl i ρ H2 S v H' pr0 ex0 hs hck hlt hy
        have exx : p.1[i] = x := by
          rw [List.getElem?_eq_getElem hlt] at ex1
          exact Option.some.inj ex1
        rw [exx] at hp
        split at hp
        · exact hp.elim
        · rename_i e1 te
          have he' : ERep X.K Y ρ H' (L2.wipe σ vs) (wipeE env vs) := ((he0.up pr0 (ex0.trans ex2)).wipe hx vs)
          refine ⟨ρ, wipeE env vs, x, e1, he', rx, te, fun σ2 he2 sb => ⟨wipe_same sb hL, ?_⟩⟩
          refine ⟨ρ, e1, S, he2, hs2, ?_⟩
          have exD : Ext (upd H1 D (.lst [])) H' := ex.trans ex2
          generalize hgt : tst e1 S = ot at hp
          cases ot with
          | bad => exact hp.elim
          | err c fs S1 => exact hp.elim
          | ok b S1 =>
            intro b' ρ3 H3 p3 q3 s3 rb
            obtain rfl : b' = b := rb
            simp only [Out.tie] at hp
            cases b' with
            | false => exact iteF ⟨ρ3, acc, S1, pr.trans p3, exD.trans q3, s3, Post.up p3 (ex2.trans q3) hp⟩
            | true =>
              refine iteT ?_
              rw [if_pos rfl] at hp
              refine ⟨ρ3, e1, S1, he2.up p3 q3, s3, ?_⟩
              generalize hge : el e1 S1 = oe at hp
              cases oe with
              | bad => exact hp.elim
              | err c fs S2 => exact hp.elim
              | ok y S2 =>
                intro v4 ρ4 H4 p4 q4 s4 r4
                simp only [] at hp
                split at hp
                · rename_i hc
                  have hDi : ρ4[S0.length]? = some D := p4 _ _ (p3 _ _ (pr _ _ hDn))
                  obtain ⟨ws, e5, r5⟩ := s4.lst hDi hc.1
                  refine ⟨ws, e5, by rw [r5.length]; exact lim_lt hc.2, ?_⟩
                  have nf : ¬ Fx (HO.lst ws) := fun z => z
                  have e6 : Ext H4 (upd H4 D (.lst (ws ++ [v4]))) := Ext.mut e5 nf
                  obtain ⟨_, s6⟩ := s4.put (u := .lst (ws ++ [v4])) (o := .lst (acc ++ [y])) hDi ⟨_, upd_same, ((r5.append (.cons r4 .nil)).up (Pre.refl _) e6)⟩
                  exact ⟨ρ4, acc ++ [y], _, pr.trans (p3.trans p4), exD.trans ((q3.trans q4).trans e6), s6, Post.up (p3.trans p4) ((ex2.trans (q3.trans q4)).trans e6) hp⟩
                · exact hp.elim
    · exact hp.elim
  · have ed : p.1.drop i = [] := List.drop_eq_nil_of_le (by omega)
    rw [ed] at hp
    simp only [lcX] at hp
    split at hp
    · rename_i hck
      exact .inl ⟨rj.st i ρ H2 S pr0 ex0 hs hck (by omega), hp _ ρ H2 (Pre.refl _) (Ext.refl _) hs (.ref (pr _ _ hDn))⟩
    · exact hp.elim
theorem se_lc {elt tg iter : Expr} {ifs : List Expr} {scope : Scope} {own : List (Str × Nat)} {pos : Pos} {fi : En → Store → Out Itm} {t : Tgt} {tst : En → Store → Out Bool} {el : En → Store → Out Val} {L : List Nat} (c : Cc X Y W k) (hi : SI X Y W tg iter fi) (ok : BlkOk X.N X.env.scope scope own) (hL : ∀ i ∈ L, i ∈ own.map (·.2))
    (hg : ∀ (s : Shared) (H : Hp) (C : Addr) (cl : List (Str × Addr)) (fp : List Addr), Cc (X.blk s H scope (compEnvC scope cl C X.env) fp) Y W0 k → SG (X.blk s H scope (compEnvC scope cl C X.env) fp) Y tg L t)
    (ht : ∀ (s : Shared) (H : Hp) (C : Addr) (cl : List (Str × Addr)) (fp : List Addr), Cc (X.blk s H scope (compEnvC scope cl C X.env) fp) Y W0 k → SPt (X.blk s H scope (compEnvC scope cl C X.env) fp) Y ifs tst)
    (he : ∀ (s : Shared) (H : Hp) (C : Addr) (cl : List (Str × Addr)) (fp : List Addr), Cc (X.blk s H scope (compEnvC scope cl C X.env) fp) Y W0 k → SE (X.blk s H scope (compEnvC scope cl C X.env) fp) Y W0 elt el)
    (hs : ∀ x, foldedSetIterable iter X.env x = pure x := by intro _; rfl) : SE X Y W (.ListComp elt [⟨tg, iter, ifs, 0⟩] scope pos) (eLc fi t tst el (own.map (·.2))) :=
  PE.imp (pe_lc (g := tTg X.K Y L t) (tt := tG X.K Y W0 RB tst) (te := tG X.K Y W0 (RV X.K) el) c.calm c.nd hi ok (fun s H C cl fp => hg s H C cl fp (c.blk ..)) (fun s H C cl fp => ht s H C cl fp (c.blk ..)) (fun s H C cl fp => he s H C cl fp (c.blk ..)) hs) fun _ _ _ h => tLc_of c.xi hL h
theorem ss_setLc {i : Nat} {y : Str} {py : Pos} {elt tg iter : Expr} {ifs : List Expr} {scope : Scope} {own : List (Str × Nat)} {pos spos : Pos} {fi : En → Store → Out Itm} {t : Tgt} {tst : En → Store → Out Bool} {el : En → Store → Out Val} {L : List Nat} (c : Cc X Y W k) (hy : X.N[i]? = some y) (hyl : X.env.scope.names.lookup y = some .local)
    (hsw : swapsWith (.ListComp elt [⟨tg, iter, ifs, 0⟩] scope pos) (some (.Name y py)) spos.line X.env = pure true) (hi : SI X Y W tg iter fi) (ok : BlkOk X.N X.env.scope scope own) (hL : ∀ i ∈ L, i ∈ own.map (·.2))
    (hg : ∀ (s : Shared) (H : Hp) (C : Addr) (cl : List (Str × Addr)) (fp : List Addr), Cc (X.blk s H scope (compEnvC scope cl C X.env) fp) Y W0 k → SG (X.blk s H scope (compEnvC scope cl C X.env) fp) Y tg L t)
    (ht : ∀ (s : Shared) (H : Hp) (C : Addr) (cl : List (Str × Addr)) (fp : List Addr), Cc (X.blk s H scope (compEnvC scope cl C X.env) fp) Y W0 k → SPt (X.blk s H scope (compEnvC scope cl C X.env) fp) Y ifs tst)
    (he : ∀ (s : Shared) (H : Hp) (C : Addr) (cl : List (Str × Addr)) (fp : List Addr), Cc (X.blk s H scope (compEnvC scope cl C X.env) fp) Y W0 k → SE (X.blk s H scope (compEnvC scope cl C X.env) fp) Y W0 elt el)
    (hs : ∀ x, foldedSetIterable iter X.env x = pure x := by intro _; rfl) : SS X Y W (.Assign [.Name y py] (.ListComp elt [⟨tg, iter, ifs, 0⟩] scope pos) spos) (sSet i (eLc fi t tst el (own.map (·.2)))) := by
  refine PS.imp (ps_setLc (g := tTg X.K Y L t) (tt := tG X.K Y W0 RB tst) (te := tG X.K Y W0 (RV X.K) el) c.calm c.nd hy hyl hsw hi ok (fun s H C cl fp => hg s H C cl fp (c.blk ..)) (fun s H C cl fp => ht s H C cl fp (c.blk ..)) (fun s H C cl fp => he s H C cl fp (c.blk ..)) hs) fun D σ H h => ?_
  have h2 : tG X.K Y W (RV X.K) (eLc fi t tst el (own.map (·.2))) σ H (fun x H1 => gName i x σ H1 D.nx) := by
    refine tS.go (k := fun env x S1 => match gN i x env with | some e => .nx e S1 | none => .bad) h fun ρ env v x H1 S1 he hs rx hp => ?_
    exact hp _ ρ H1 (Pre.refl _) (Ext.refl _) (he.set rx c.xi) hs
  exact tLc_of c.xi hL h2
end
end Mp

set_option Elab.async false
set_option linter.all false
set_option maxRecDepth 100000
/-! Methods of lists, stores, zip, enumerate, sorted, constants. -/
namespace Mp
open PySem PySem.Spec PyProof.Rows L2

section
variable {X : Cx} {Y : Sy} {W : WX} {k : Nat} {o e a b : Expr} {es : List Expr} {f fa fb fo : En → Store → Out Val} {ga : En → Store → Out (List Val)} {p pos cpos apos : Pos} {x : Str}

/-! ### methods of lists: the place, what stands there, the arguments -/
abbrev Lm := Nat → List Val → List Val → Store → Out Val
def lmK (g : Lm) (i : Nat) (vs : List Val) (S2 : Store) : Out Val := match S2[i]? with
  | some (.lst xs) => g i xs vs S2
  | _ => .bad
def lmA (g : Lm) (ga : En → Store → Out (List Val)) (env : En) (x : Val) (S1 : Store) : Out Val := match x with
  | .ref i => match S1[i]? with
    | some (.lst _) => (ga env S1).bind (lmK g i)
    | _ => .bad
  | _ => .bad
def eLm (g : Lm) (fo : En → Store → Out Val) (ga : En → Store → Out (List Val)) : En → Store → Out Val := fun env S => (fo env S).bind (lmA g ga env)
/-- what a list's method does to the list at a -/
def LmS (X : Cx) (Y : Sy) (r : V → List V → Hp → VK → Prop) (g : Lm) : Prop := ∀ (W' : Value → Option Addr → Hp → Prop) (ρ : List Addr) (H : Hp) (S : Store) (a : Addr) (i : Nat) (ws vs : List V) (xs ys : List Val) (Q : VK), Sim X.K Y ρ H S →
  ρ[i]? = some a → S[i]? = some (.lst xs) → H a = some (.lst ws) → Reps X.K ρ H ws xs → Reps X.K ρ H vs ys → Post X.K Y W' ρ H (RV X.K) Q (g i xs ys S) → r (.ref a) vs H Q
theorem tBM_of {r : V → List V → Hp → VK → Prop} {g : Lm} (ok : LmS X Y r g) {σ : L2.St} {H : Hp} {Q : VK} (h : tG X.K Y W (RV X.K) (eLm g fo ga) σ H Q) : tBM X.K "list" r (tG X.K Y W (RV X.K) fo) (tG X.K Y W (RL X.K) ga) σ H Q := by
  refine tG.bind (k := lmA g ga) h fun ρ env v x H1 S1 he hs rx hp => ?_
  unfold lmA at hp
  split at hp
  · rename_i i
    cases rx with
    | @ref a _ hi =>
    split at hp
    · rename_i zs ez
      obtain ⟨us, eu, _⟩ := hs.lst hi ez
      refine ⟨.inl ⟨rfl, us, SqL.of eu⟩, ?_⟩
      refine tG.go he hs hp fun ρ2 vs ys H2 S2 p2 e2 he2 hs2 ry hp2 => ?_
      unfold lmK at hp2
      split at hp2
      · rename_i xs ex
        obtain ⟨ws, ew, rw'⟩ := hs2.lst (p2 _ _ hi) ex
        exact ok _ ρ2 H2 S2 a i ws vs xs ys Q hs2 (p2 _ _ hi) ex ew rw' ry hp2
      · exact hp2.elim
    · exact hp.elim
  · exact hp.elim
theorem put_lst {K : PySem.W.Frag} {ρ : List Addr} {H : Hp} {S : Store} {a : Addr} {i : Nat} {ws : List V} {xs : List Val} (hs : Sim K Y ρ H S) (hi : ρ[i]? = some a) {us : List V} (e : H a = some (.lst us)) (r : Reps K ρ H ws xs) :
    Ext H (upd H a (.lst ws)) ∧ Sim K Y ρ (upd H a (.lst ws)) (S.set i (.lst xs)) := by
  have e1 : Ext H (upd H a (.lst ws)) := Ext.mut e (fun z => z)
  exact hs.put hi ⟨ws, upd_same, r.up (Pre.refl _) e1⟩
def lAppend : Lm := fun i xs ys S => match ys with
  | [y] => if xs.length < LIM then .ok .non (S.set i (.lst (xs ++ [y]))) else .bad
  | _ => .bad
theorem lAppend_ok : LmS X Y rAppend lAppend := by
  intro W' ρ H S a i ws vs xs ys Q hs hi ex ew rw' ry hp
  unfold lAppend at hp
  split at hp
  · rename_i y
    split at hp
    · rename_i hl
      obtain ⟨v, rfl, rv⟩ := reps1 ry
      refine ⟨a, ws, v, rfl, rfl, ew, by rw [rw'.length]; exact lim_lt hl, ?_⟩
      obtain ⟨q1, q2⟩ := put_lst hs hi ew (rw'.append (.cons rv .nil))
      exact hp _ ρ _ (Pre.refl _) q1 q2 .non
    · exact hp.elim
  · exact hp.elim
theorem se_append (ho : SE X Y W o fo) (ha : SA X Y W [e] ga) (hbase : attributeBase o "append" X.env (eval o X.env) = eval o X.env := by rfl)
    (hfew : ((backTo cpos (starEach [e] X.env)).all (fun x => !x.1) && (backToKw cpos (keywordEach [] X.env)).all (fun x => x.1.isSome)
      && decide ([e].length + ([] : List Keyword).length + (if ([] : List Keyword).isEmpty then 0 else 1) < 30)) = true := by rfl)
    (hline : (apos.endLine == cpos.line) = true := by rfl) (hs : starEach [e] X.env = (false, eval e X.env) :: starEach [] X.env := by rfl) : SE X Y W (.Call (.Attribute o "append" apos) [e] [] cpos) (eLm lAppend fo ga) :=
  PE.imp (pe_bm PySem.F.plainAttrs_list PySem.F.slot_list_append PySem.F.type_list_append mt_append ho ha hbase hfew hline hs) fun _ _ _ h => tBM_of lAppend_ok h
noncomputable def lPopAt : Lm := fun i xs ys S => match ys with
  | [.int j] => @ite _ (-(2 ^ 63) ≤ j ∧ j < 2 ^ 63) (Classical.propDecidable _) (match seqIndex? j xs.length with
    | some k => match xs[k]? with
      | some y => .ok y (S.set i (.lst (xs.eraseIdx k)))
      | none => .bad
    | none => .bad) .bad
  | _ => .bad
theorem lPopAt_ok : LmS X Y rPopAt lPopAt := by
  intro W' ρ H S a i ws vs xs ys Q hs hi ex ew rw' ry hp
  unfold lPopAt at hp
  split at hp
  · rename_i j
    split at hp
    · rename_i hl
      split at hp
      · rename_i k ek
        split at hp
        · rename_i y ey
          obtain ⟨v, rfl, rv⟩ := reps1 ry
          cases rv
          obtain ⟨u, eu, ru⟩ := rw'.get ey
          obtain ⟨q1, q2⟩ := put_lst hs hi ew (rw'.eraseIdx k)
          refine ⟨a, ws, j, k, u, rfl, rfl, ew, hl.1, hl.2, by rw [rw'.length]; exact ek, eu, ?_⟩
          exact hp _ ρ _ (Pre.refl _) q1 q2 (ru.up (Pre.refl _) q1)
        · exact hp.elim
      · exact hp.elim
    · exact hp.elim
  · exact hp.elim
theorem se_popAt (ho : SE X Y W o fo) (ha : SA X Y W [e] ga) (hbase : attributeBase o "pop" X.env (eval o X.env) = eval o X.env := by rfl)
    (hfew : ((backTo cpos (starEach [e] X.env)).all (fun x => !x.1) && (backToKw cpos (keywordEach [] X.env)).all (fun x => x.1.isSome)
      && decide ([e].length + ([] : List Keyword).length + (if ([] : List Keyword).isEmpty then 0 else 1) < 30)) = true := by rfl)
    (hline : (apos.endLine == cpos.line) = true := by rfl) (hs : starEach [e] X.env = (false, eval e X.env) :: starEach [] X.env := by rfl) : SE X Y W (.Call (.Attribute o "pop" apos) [e] [] cpos) (eLm lPopAt fo ga) :=
  PE.imp (pe_bm PySem.F.plainAttrs_list PySem.F.slot_list_pop PySem.F.type_list_pop mt_popAt ho ha hbase hfew hline hs) fun _ _ _ h => tBM_of lPopAt_ok h

/-! ### o[i] = v -/
def putIx (d i v : Val) (S : Store) : Option Store := match d with
  | .ref n => match S[n]? with
    | some (.lst xs) => match i with
      | .int j => (ixN xs.length j).map fun m => S.set n (.lst (xs.set m v))
      | _ => none
    | some (.dk kvs) => (keyOf i).bind fun k => if kvs.length < LIM then some (S.set n (.dk (putD kvs k v))) else none
    | some (.dt kvs) => (tkeyOf i).bind fun k => if kvs.length < LIM then some (S.set n (.dt (putD kvs k v))) else none
    | _ => none
  | _ => none
def rSetU : TSet := fun o i v H Q => rSetL o i v H Q ∨ ∃ a H', o = .ref a ∧ DPut H a i v H' ∧ Q H'
theorem set_u (hu : X.A.units + 1 < cLine) : PSet X rSetU := by
  intro pins s σ H o i v ov iv u Q I ro ri rv h
  rcases h with h | ⟨a, H', rfl, g, q⟩
  · exact set_list pins s σ H o i v ov iv u Q I ro ri rv h
  · cases ro
    exact d_setItem hu I g ri rv fun s' I' => ⟨H', I', q⟩
theorem putIx_ok {K : PySem.W.Frag} {ρ : List Addr} {H : Hp} {S S' : Store} {o i v : V} {d j y : Val} {Q : Hp → Prop} (hs : Sim K Y ρ H S) (ro : Rep K ρ H o d) (ri : Rep K ρ H i j) (rv : Rep K ρ H v y) (h : putIx d j y S = some S')
    (q : ∀ H', Ext H H' → Sim K Y ρ H' S' → Q H') : rSetU o i v H Q := by
  unfold putIx at h
  split at h
  · rename_i n
    cases ro with
    | @ref a _ hi =>
    split at h
    · rename_i xs ex
      split at h
      · rename_i m
        cases ri
        obtain ⟨z, ez, rfl⟩ := Option.map_eq_some_iff.mp h
        obtain ⟨ws, ew, r⟩ := hs.lst hi ex
        obtain ⟨q1, q2⟩ := put_lst hs hi ew (r.set rv z)
        exact .inl ⟨a, ws, m, z, rfl, rfl, ew, by rw [r.length]; exact ez, q _ q1 q2⟩
      · cases h
    · rename_i kvs ex
      obtain ⟨k, ek, h⟩ := Option.bind_eq_some_iff.mp h
      split at h
      · rename_i hl
        cases h
        obtain ⟨ws, ew, r⟩ := hs.dk hi ex
        have e2 := keyOf_rep ri ek
        subst e2
        have e1 : Ext H (upd H a (.dK (putK ws k v))) := Ext.mut ew (fun z => z)
        obtain ⟨q1, q2⟩ := hs.put (u := .dK (putK ws k v)) (o := .dk (putD kvs k y)) hi ⟨_, upd_same, (r.put k rv).up (Pre.refl _) e1⟩
        exact .inr ⟨a, _, rfl, DPut.k ew (by rw [r.length]; exact lim_lt hl), q _ q1 q2⟩
      · cases h
    · rename_i kvs ex
      obtain ⟨k, ek, h⟩ := Option.bind_eq_some_iff.mp h
      split at h
      · rename_i hl
        cases h
        obtain ⟨ws, ew, r⟩ := hs.dt hi ex
        obtain ⟨b, rfl, eb⟩ := tkeyOf_rep ri ek
        have e1 : Ext H (upd H a (.dT (putK ws k v))) := Ext.mut ew (fun z => z)
        obtain ⟨q1, q2⟩ := hs.put (u := .dT (putK ws k v)) (o := .dt (putD kvs k y)) hi ⟨_, upd_same, (r.put k rv).up (Pre.refl _) e1⟩
        exact .inr ⟨a, _, rfl, DPut.t ew eb (by rw [r.length]; exact lim_lt hl), q _ q1 q2⟩
      · cases h
    · cases h
  · cases h
def kPutIx (d i v : Val) (env : En) (S : Store) : Res := match putIx d i v S with
  | some S' => .nx env S'
  | none => .bad
def sPutIx (f fo fi : En → Store → Out Val) : En → Store → Res := fun env S => (f env S).toS env fun v S1 => (fo env S1).toS env fun d S2 => (fi env S2).toS env fun i S3 => kPutIx d i v env S3
/-- an outcome inside a statement, once the slots stand -/
theorem tS.in {α β : Type} {K : PySem.W.Frag} {R : RR β α} {f : En → Store → Out α} {k' : α → Store → Res} {D : Ends} {σ : L2.St} {H : Hp} {ρ : List Addr} {env : En} {S : Store} {Q' : β → Hp → Prop} (he : ERep K Y ρ H σ env) (hs : Sim K Y ρ H S)
    (h : PostS K Y W ρ H D ((f env S).toS env k'))
    (q : ∀ ρ1 v x H1 S1, Pre ρ ρ1 → Ext H H1 → ERep K Y ρ1 H1 σ env → Sim K Y ρ1 H1 S1 → R ρ1 H1 v x → PostS K Y W ρ1 H1 D (k' x S1) → Q' v H1) : tG K Y W R f σ H Q' := by
  refine ⟨ρ, env, S, he, hs, ?_⟩
  generalize f env S = o at h
  cases o with
  | ok x S1 =>
    intro v ρ1 H1 p e s r
    exact q ρ1 v x H1 S1 p e (he.up p e) s r (PostS.up p e h)
  | err c fs S1 =>
    intro cls d ρ1 H1 p e s r
    exact h cls d σ ρ1 H1 p e (he.up p e) s r
  | bad => exact h
theorem ss_putIx {i : Expr} {fi : En → Store → Out Val} {pos' : Pos} (hu : X.A.units + 1 < cLine) (he : SE X Y W e f) (ho : SE X Y W o fo) (hi : SE X Y W i fi)
    (ha : ∀ v, assign (.Subscript o i pos') X.env v = (do
      let ov ← holding [v] (eval o X.env)
      let iv ← holding [v, ov] (eval i X.env)
      standAt pos'
      holding [v, ov, iv] (setItem ov iv v)
      release [v, ov, iv] []) := by first | rfl | (intro _; rfl))
    (hs : swapsWithSole [.Subscript o i pos'] e pos.line X.env = pure false := by rfl) (hw : swappedStores [.Subscript o i pos'] e X.env = pure none := by rfl)
    (h1 : (assignEach [.Subscript o i pos'] X.env).map (·.2) = [assign (.Subscript o i pos') X.env] := by rfl) : SS X Y W (.Assign [.Subscript o i pos'] e pos) (sPutIx f fo fi) := by
  refine PS.imp (ps_asg he (pg_sub ho hi (set_u hu) ha) hs hw h1) fun D σ H h => ?_
  refine tS.go (k := fun env v S1 => (fo env S1).toS env fun d S2 => (fi env S2).toS env fun i S3 => kPutIx d i v env S3) h fun ρ env v y H1 S1 he hs ry hp => ?_
  refine tS.in he hs hp fun ρ2 d dd H2 S2 p2 e2 he2 hs2 rd hp2 => ?_
  refine tS.in he2 hs2 hp2 fun ρ3 j jj H3 S3 p3 e3 he3 hs3 rj hp3 => ?_
  unfold kPutIx at hp3
  split at hp3
  · rename_i S' es
    refine putIx_ok hs3 (rd.up p3 e3) rj (ry.up (p2.trans p3) (e2.trans e3)) es fun H' q1 q2 => ?_
    exact hp3 σ ρ3 H' (Pre.refl _) q1 (he3.up (Pre.refl _) q1) q2
  · exact hp3.elim

/-! ### constants of the module -/
theorem se_glob {v : V} {u : Value} {y : Val} (hg : Gl X x) (hm : X.mg x = some u) (r : RelV v u) (rep : ∀ ρ H, Rep X.K ρ H v y) (hd : (x == ("__debug__" : Str)) = false := by decide) : SE X Y W (.Name x pos) (eC y) := se_c (pe_glob hg hm r hd) rep

/-! ### zip -/
def zipL : List Val → List Val → List Val
  | x :: xs, y :: ys => .tup [x, y] :: zipL xs ys
  | _, _ => []
theorem zipL_get : ∀ (xs ys : List Val) (i : Nat), (zipL xs ys)[i]? = (xs[i]?).bind fun x => (ys[i]?).map fun y => Val.tup [x, y]
  | [], _, _ => by simp [zipL]
  | _ :: _, [], i => by cases i <;> simp [zipL]
  | x :: xs, y :: ys, 0 => by simp [zipL]
  | x :: xs, y :: ys, i + 1 => by simp [zipL, zipL_get xs ys i]
theorem zipL_length : ∀ xs ys : List Val, (zipL xs ys).length = min xs.length ys.length
  | [], _ => by simp [zipL]
  | _ :: _, [] => by simp [zipL]
  | x :: xs, y :: ys => by simp [zipL, zipL_length xs ys]
theorem JRep.zipT {K : PySem.W.Frag} {ρ : List Addr} {H : Hp} {a b : Addr} {vs ws : List V} {xs ys : List Val} (ea : H a = some (.tup vs)) (eb : H b = some (.tup ws)) (r1 : Reps K ρ H vs xs) (r2 : Reps K ρ H ws ys) : JRep K Y ρ H (RZ.ItzT K a b) (zipL xs ys, fun _ => True) := by
  refine ⟨fun i ρ' H' S p q s _ hi => ?_, fun i ρ' H' S p q s _ hi => ?_, fun i ρ' H' S v H2 p q s _ hi hy => ?_⟩
  · rw [zipL_length] at hi
    have l1 : i < vs.length := by rw [r1.length]; omega
    have l2 : i < ws.length := by rw [r2.length]; omega
    exact ⟨vs, ws, vs[i], ws[i], SqT.of (q _ _ trivial ea), SqT.of (q _ _ trivial eb), List.getElem?_eq_getElem l1, List.getElem?_eq_getElem l2⟩
  · rw [zipL_length] at hi
    exact ⟨vs, ws, SqT.of (q _ _ trivial ea), SqT.of (q _ _ trivial eb), by rw [r1.length, r2.length]; omega⟩
  · obtain ⟨T, x, y, rfl, hT, rfl, h1, h2⟩ := hy
    obtain ⟨x', e1, q1⟩ := (r1.up p q).getV (h1 vs (SqT.of (q _ _ trivial ea)))
    obtain ⟨y', e2, q2⟩ := (r2.up p q).getV (h2 ws (SqT.of (q _ _ trivial eb)))
    have e3 := Ext.new (o := .tup [x, y]) hT
    exact ⟨.tup [x', y'], by rw [zipL_get]; simp [e1, e2], e3, s.other hT, .tup upd_same (.cons (q1.up (Pre.refl _) e3) (.cons (q2.up (Pre.refl _) e3) .nil))⟩
theorem JRep.zipL {K : PySem.W.Frag} {ρ : List Addr} {H : Hp} {a b : Addr} {n m : Nat} {xs ys : List Val} (ha : ρ[n]? = some a) (hb : ρ[m]? = some b) : JRep K Y ρ H (Itz K a b) (Mp.zipL xs ys, fun S => S[n]? = some (.lst xs) ∧ S[m]? = some (.lst ys)) := by
  have key : ∀ ρ' H' S, Pre ρ ρ' → Sim K Y ρ' H' S → (S[n]? = some (.lst xs) ∧ S[m]? = some (.lst ys)) → ∃ vs ws, SqL K H' a vs ∧ SqL K H' b ws ∧ Reps K ρ' H' vs xs ∧ Reps K ρ' H' ws ys := fun ρ' H' S p s c => by
    obtain ⟨vs, e, r⟩ := s.lst (p _ _ ha) c.1
    obtain ⟨ws, e2, r2⟩ := s.lst (p _ _ hb) c.2
    exact ⟨vs, ws, SqL.of e, SqL.of e2, r, r2⟩
  refine ⟨fun i ρ' H' S p q s c hi => ?_, fun i ρ' H' S p q s c hi => ?_, fun i ρ' H' S v H2 p q s c hi hy => ?_⟩
  · obtain ⟨vs, ws, q1, q2, r1, r2⟩ := key ρ' H' S p s c
    rw [zipL_length] at hi
    have l1 : i < vs.length := by rw [r1.length]; omega
    have l2 : i < ws.length := by rw [r2.length]; omega
    exact ⟨vs, ws, vs[i], ws[i], q1, q2, List.getElem?_eq_getElem l1, List.getElem?_eq_getElem l2⟩
  · obtain ⟨vs, ws, q1, q2, r1, r2⟩ := key ρ' H' S p s c
    rw [zipL_length] at hi
    exact ⟨vs, ws, q1, q2, by rw [r1.length, r2.length]; omega⟩
  · obtain ⟨vs, ws, q1, q2, r1, r2⟩ := key ρ' H' S p s c
    obtain ⟨T, x, y, rfl, hT, rfl, h1, h2⟩ := hy
    obtain ⟨x', e1, w1⟩ := r1.getV (h1 vs q1)
    obtain ⟨y', e2, w2⟩ := r2.getV (h2 ws q2)
    have e3 := Ext.new (o := .tup [x, y]) hT
    exact ⟨.tup [x', y'], by rw [zipL_get]; simp [e1, e2], e3, s.other hT, .tup upd_same (.cons (w1.up (Pre.refl _) e3) (.cons (w2.up (Pre.refl _) e3) .nil))⟩
def kZip (vs : List Val) (S1 : Store) : Out Itm := match vs with
  | [.tup xs, .tup ys] => .ok (zipL xs ys, fun _ => True) S1
  | [.ref n, .ref m] => match S1[n]?, S1[m]? with
    | some (.lst xs), some (.lst ys) => .ok (zipL xs ys, fun S => S[n]? = some (.lst xs) ∧ S[m]? = some (.lst ys)) S1
    | _, _ => .bad
  | _ => .bad
def iZip2 (fa : En → Store → Out (List Val)) : En → Store → Out Itm := fun env S => (fa env S).bind kZip
theorem si_zip {tpos : Pos} {elts : List Expr} {kk : Nat} (hg : Gl X "zip") (hm : X.mg "zip" = none) (ha : SA X Y W [a, b] ga)
    (hs : starEach [a, b] X.env = (false, eval a X.env) :: starEach [b] X.env := by rfl) (hpl : (backTo pos (starEach [b] X.env)).any (·.1) = false := by rfl) : SI X Y W (.Tuple elts kk tpos) (.Call (.Name "zip" p) [a, b] [] pos) (iZip2 ga) := by
  refine PI.imp (RZ.pi_zipA hg hm ha hs hpl) fun σ H R h => ?_
  refine tG.bind (k := fun _ => kZip) h fun ρ env vs xs H1 S1 he hs rx hp => ?_
  unfold kZip at hp
  split at hp
  · obtain ⟨v, w, rfl, r1, r2⟩ := reps2 rx
    cases r1 with | @tup c ws _ e1 r1 => cases r2 with | @tup d us _ e2 r2 =>
    exact ⟨c, d, ws, us, rfl, .inr ⟨SqT.of e1, SqT.of e2, hp _ ρ H1 (Pre.refl _) (Ext.refl _) hs (JRep.zipT e1 e2 r1 r2)⟩⟩
  · obtain ⟨v, w, rfl, r1, r2⟩ := reps2 rx
    cases r1 with | @ref c n hn => cases r2 with | @ref d m hm =>
    split at hp
    · rename_i ys zs ey ez
      obtain ⟨ws, q1, _⟩ := hs.lst hn ey
      obtain ⟨us, q2, _⟩ := hs.lst hm ez
      exact ⟨c, d, ws, us, rfl, .inl ⟨SqL.of q1, SqL.of q2, hp _ ρ H1 (Pre.refl _) (Ext.refl _) hs (JRep.zipL hn hm)⟩⟩
    · exact hp.elim
  · exact hp.elim

/-! ### sorted -/
def dOf (x : Val) : PyData := (toD x).getD .none
def leV (x y : Val) : Bool := PySem.W.dataLe false dOf x y
open Classical in
noncomputable def fSorted : Fn := fun vs S => match vs with
  | [x] => match getL S x with
    | some xs => if (∃ ds, toDs xs = some ds ∧ PySem.W.AllAlike ds ∧ PySem.W.Sortable ds ∧ ∀ d ∈ ds, d.depth ≤ 64) ∧ xs.length ≤ LIM then .ok (.ref S.length) (S ++ [.lst (xs.mergeSort leV)]) else .bad
    | none => .bad
  | _ => .bad

theorem dOf_of {x : Val} {d : PyData} (h : toD x = some d) : dOf x = d := by unfold dOf; rw [h]; rfl
theorem toDs_map : ∀ {xs : List Val} {ds : List PyData}, toDs xs = some ds → xs.map dOf = ds
  | [], _, h => by simp only [toDs, Option.some.injEq] at h; subst h; rfl
  | x :: xs, _, h => by
    simp only [toDs, Option.bind_eq_some_iff, Option.map_eq_some_iff] at h
    obtain ⟨d, e1, ds, e2, rfl⟩ := h
    rw [List.map_cons, dOf_of e1, toDs_map e2]
theorem toDs_all : ∀ {xs : List Val} {ds : List PyData}, toDs xs = some ds → ∀ x ∈ xs, ∃ d, toD x = some d ∧ d ∈ ds
  | [], _, _, _, h => by simp at h
  | x :: xs, _, h, y, hy => by
    simp only [toDs, Option.bind_eq_some_iff, Option.map_eq_some_iff] at h
    obtain ⟨d, e1, ds, e2, rfl⟩ := h
    rcases List.mem_cons.mp hy with rfl | hy
    · exact ⟨d, e1, by simp⟩
    · obtain ⟨d', h1, h2⟩ := toDs_all e2 y hy
      exact ⟨d', h1, by simp [h2]⟩
/-- sorted of a list of data, by the values -/
def rSortD (K : PySem.W.Frag) : List V → Hp → VK → Prop := fun vs H Q => ∃ (a : Addr) (bs : List (V × PyData)), vs = [V.ref a] ∧ SqL K H a (bs.map (·.1)) ∧ (∀ p ∈ bs, Dp K H p.1 p.2) ∧ PySem.W.AllAlike (bs.map (·.2)) ∧ PySem.W.Sortable (bs.map (·.2)) ∧
  (∀ p ∈ bs, p.2.depth ≤ 64) ∧ bs.length ≤ sizeLine ∧ ∀ p, H p = none → Q (.ref p) (upd H p (.lst ((bs.mergeSort (PySem.W.dataLe false (·.2))).map (·.1))))
theorem each_of {α β : Type} {R : α → β → Prop} : ∀ {as : List α} {bs : List β}, as.length = bs.length → (∀ (i : Nat) (a : α) (b : β), as[i]? = some a → bs[i]? = some b → R a b) → PySem.W.EachIs R as bs
  | [], [], _, _ => .nil
  | a :: as, b :: bs, hl, h => .cons (h 0 a b rfl rfl) (each_of (by simpa using hl) fun i x y h1 h2 => h (i + 1) x y (by simpa using h1) (by simpa using h2))
  | [], _ :: _, hl, _ => by simp at hl
  | _ :: _, [], hl, _ => by simp at hl
theorem vals_each {bs : List (V × PyData)} {us : List Value} : PySem.W.EachIs (fun (v : Value) (b : V × PyData) => RelV b.1 v) us bs → Vals (bs.map (·.1)) us := by
  intro h
  induction h with
  | nil => exact .nil
  | cons a _ ih => exact .cons a ih
theorem cr_sortD (hu : X.A.units + 66 < cLine) : CallR X (.builtin "sorted") (rSortD X.K) := by
  intro pins s σ H vs us Q I r h
  obtain ⟨a, bs, rfl, hs, hd, hal, hk, hdp, hl, q⟩ := h
  obtain ⟨its, rv, hL, _⟩ := I.list hs
  rw [Vals.ref1 r]
  have hlen : its.length = bs.length := by rw [← rv.length, List.length_map]
  have e1 : PySem.W.EachIs (fun (v : Value) (b : V × PyData) => RelV b.1 v) its bs := each_of hlen fun i v b h1 h2 => by
    obtain ⟨u, h3, h4⟩ := rv.get (i := i) (x := b.1) (by rw [List.getElem?_map, h2]; rfl)
    rw [h1] at h3
    cases h3
    exact h4
  have e2 : PySem.W.EachIs (fun (v : Value) (b : V × PyData) => ∃ as, Reads s.heap v b.2 as) its bs := each_of hlen fun i v b h1 h2 => by
    obtain ⟨u, h3, h4⟩ := rv.get (i := i) (x := b.1) (by rw [List.getElem?_map, h2]; rfl)
    rw [h1] at h3
    cases h3
    exact Dp.reads I b.2 b.1 v (hd b (List.mem_of_getElem? h2)) h4
  refine PySem.W.sorted_data (enc := fun b : V × PyData => b.2) hL.isList e1 e2 hal hk hl (fun b hb => by have := hdp b hb; show X.A.units + 2 + b.2.depth < cLine; omega) fun out h1 h2 => ?_
  obtain ⟨ep, he'⟩ := PyProof.Rows.sortedAll_at s.heap its out.toArray
  have hlen2 : ((bs.mergeSort (PySem.W.dataLe false (·.2))).map (·.1)).length ≤ sizeLine := by rw [List.length_map, List.length_mergeSort]; exact hl
  refine ⟨.ref _, upd H (s.heap.objs.size + 1) (.lst _), I.laid (t' := s.toks) (fun _ _ => PyProof.Rows.sortedAll_old) (Nat.le_succ _) ⟨hlen2, out, ep, vals_each h2, ?_⟩, rfl, q _ (I.hok.fresh (Nat.le_succ _))⟩
  simpa using he'
theorem se_sorted (hu : X.A.units + 66 < cLine) (hg : Gl X "sorted") (hm : X.mg "sorted" = none) (ha : SA X Y W [e] ga) (he : starEach [e] X.env = [(false, eval e X.env)] := by rfl) : SE X Y W (.Call (.Name "sorted" p) [e] [] pos) (eCall fSorted ga) := by
  refine se_b (cr_sortD hu) (fun W' ρ H S vs xs Q hs rx h => ?_) hg hm (by decide +kernel) ha (he := he)
  unfold fSorted at h
  split at h
  · split at h
    · rename_i ys ey
      split at h
      · rename_i hc
        obtain ⟨⟨ds, e1, e2, e3, e4⟩, hl⟩ := hc
        obtain ⟨v, rfl, rv⟩ := reps1 rx
        obtain ⟨a, ws, rfl, hq, r⟩ := getL_rep hs rv ey
        have hz : (ws.zip ys).map (·.1) = ws := by rw [List.map_fst_zip]; rw [r.length]; exact Nat.le_refl _
        have hz2 : (ws.zip ys).map (·.2) = ys := by rw [List.map_snd_zip]; rw [r.length]; exact Nat.le_refl _
        let cs : List (V × Val) := ws.zip ys
        let bs : List (V × PyData) := cs.map fun p => (p.1, dOf p.2)
        have hb1 : bs.map (·.1) = ws := by
          show (cs.map _).map _ = _
          rw [List.map_map]
          exact hz
        have hb2 : bs.map (·.2) = ds := by
          show (cs.map _).map _ = _
          rw [List.map_map]
          have : cs.map ((fun (x : V × PyData) => x.2) ∘ fun (p : V × Val) => (p.1, dOf p.2)) = (cs.map (·.2)).map dOf := by rw [List.map_map]; rfl
          rw [this, show cs.map (·.2) = ys from hz2, toDs_map e1]
        have hrep : ∀ p ∈ cs, Rep X.K ρ H p.1 p.2 := fun p hp => by
          obtain ⟨i, hi⟩ := List.mem_iff_getElem?.mp hp
          have h1 : (cs.map (·.1))[i]? = some p.1 := by rw [List.getElem?_map, hi]; rfl
          have h2 : (cs.map (·.2))[i]? = some p.2 := by rw [List.getElem?_map, hi]; rfl
          rw [show cs.map (·.1) = ws from hz] at h1
          rw [show cs.map (·.2) = ys from hz2] at h2
          obtain ⟨v, h3, h4⟩ := r.get h2
          rw [h1] at h3
          cases h3
          exact h4
        have hsort : (bs.mergeSort (PySem.W.dataLe false (·.2))) = (cs.mergeSort (fun p q => leV p.2 q.2)).map fun p => (p.1, dOf p.2) :=
          (PySem.W.sort_maps (fun p : V × Val => (p.1, dOf p.2)) (l := cs) (r := fun p q => leV p.2 q.2) (s := PySem.W.dataLe false (·.2)) fun _ _ _ _ => rfl).symm
        have hsy : (cs.mergeSort (fun p q => leV p.2 q.2)).map (·.2) = ys.mergeSort leV := by
          rw [← hz2]
          exact PySem.W.sort_maps (fun p : V × Val => p.2) (l := cs) (r := fun p q => leV p.2 q.2) (s := leV) fun _ _ _ _ => rfl
        refine ⟨a, bs, rfl, by rw [hb1]; exact hq, fun p hp => ?_, by rw [hb2]; exact e2, by rw [hb2]; exact e3, fun p hp => ?_, ?_, fun p hn => ?_⟩
        · obtain ⟨c, hc, rfl⟩ := List.mem_map.mp hp
          have hy : c.2 ∈ ys := by rw [← hz2]; exact List.mem_map.mpr ⟨c, hc, rfl⟩
          obtain ⟨d, h1, _⟩ := toDs_all e1 c.2 hy
          exact toD_dp (hrep c hc) (by rw [dOf_of h1]; exact h1)
        · exact e4 p.2 (by rw [← hb2]; exact List.mem_map.mpr ⟨p, hp, rfl⟩)
        · have : bs.length = ys.length := by
            have h9 := congrArg List.length hb1
            rw [List.length_map] at h9
            exact h9.trans r.length
          rw [this]
          exact lim_le hl
        · have en := Ext.new (o := .lst ((bs.mergeSort (PySem.W.dataLe false (·.2))).map (·.1))) hn
          refine h _ (ρ ++ [p]) _ (Pre.snoc _ _) en (hs.new hn ⟨_, upd_same, ?_⟩) (rep_new hs.len.symm)
          rw [hsort, List.map_map]
          have hr : ∀ l : List (V × Val), (∀ p ∈ l, Rep X.K ρ H p.1 p.2) → Reps X.K ρ H (l.map ((fun (x : V × PyData) => x.1) ∘ fun (p : V × Val) => (p.1, dOf p.2))) (l.map (·.2)) := by
            intro l
            induction l with
            | nil => intro _; exact .nil
            | cons q l ih => intro hl; exact .cons (hl q (by simp)) (ih fun p hp => hl p (by simp [hp]))
          rw [← hsy]
          rw [hsort, List.map_map] at en
          exact (hr _ fun p hp => hrep p ((List.mergeSort_perm _ _).mem_iff.mp hp)).up (Pre.snoc _ _) en
      · exact h.elim
    · exact h.elim
  · exact h.elim
end
end Mp

set_option Elab.async false
set_option linter.all false
set_option maxRecDepth 100000
set_option maxHeartbeats 1000000
/-! Own errors: made, raised, caught. -/
namespace Mp
open PySem PySem.Spec PyProof.Rows L2

/-! ### an error without fields: C(), its __init__ does nothing -/
section
variable {X : Cx} {Y : Sy} {W : WX} {k : Nat}
theorem end_bare {pins : List (Addr × Obj)} {σ : L2.St} {J1 J2 : Hp} {u1 u2 u3 : Heap} {gs gs' : Array GenState} {dr dr' : Drawn} {tk tk' : Nat} {q q' : OsState} {n C : Addr} (I0 : Inv X pins σ J1 ⟨u1, gs, dr, tk, q⟩)
    (hn : u1.objs.size ≤ n) (kp : ∀ b o, u1.get? b = some o → u2.get? b = some o) (un : Un (frs X.stack) [] (upd J1 n (exo n C none)) J2 u2 u3) (held : HOk X.prog X.w J2 u3) (eq' : q' = q) (bare : AllBare gs')
    (en : J2 n = some (exo n C none)) :
    ∃ (t0 : Addr) (G : Heap), Inv X pins σ (del J2 n) ⟨G, gs', dr', tk', q'⟩ ∧ (∀ b o, G.get? b = some o → u3.get? b = some o) ∧ G.get? n = none ∧
      u3.get? n = some ({ cls := .ref C, dict := none, data := .fields #[.ref t0, .none, .none, .none, .bool false, .none] } : Obj) := by
  obtain ⟨t0, there⟩ := exo_at held en
  have free1 : J1 n = none := I0.hok.fresh hn
  obtain ⟨G, in1, in2⟩ := restrict u3 fun b => decide (b ≠ n)
  have same : ∀ b, b ≠ n → G.get? b = u3.get? b := fun b hb => in1 b (decide_eq_true hb)
  have gone : G.get? n = none := in2 n (by simp)
  have older : ∀ {b : Addr} {o : Obj}, u1.get? b = some o → b ≠ n := fun {b o} z => Nat.ne_of_lt (Nat.lt_of_lt_of_le (Heap.lt_size z) hn)
  have up1 : ∀ {b : Addr}, b ≠ n → J1 b = none → upd J1 n (exo n C none) b = none := fun {b} hb z => (upd_ne hb).trans z
  have U : Un (frs X.stack) [] J1 (del J2 n) u1 G := {
    keep := fun b o z m hf hx => (same b (older z)).trans (un.keep b o (kp b o z) (up1 (older z) m) hf hx)
    slot := fun b o z m hf hx => by
      obtain ⟨sl, e⟩ := un.slot b o (kp b o z) (up1 (older z) m) hf hx
      exact ⟨sl, (same b (older z)).trans e⟩
    free := fun b o z m hx => (del_ne (older z)).trans (un.free b o (kp b o z) (up1 (older z) m) hx)
    there := fun b o z hx => by
      obtain ⟨o', e⟩ := un.there b o (kp b o z) hx
      exact ⟨o', (same b (older z)).trans e⟩
    tups := fun b xs z => (del_ne (ne_of_none z free1)).trans (un.tups b xs ((upd_ne (ne_of_none z free1)).trans z))
    frzs := fun b o v z => (del_ne (ne_of_none z free1)).trans (un.frzs b o v ((upd_ne (ne_of_none z free1)).trans z))
    tbls := fun b ps z => by
      obtain ⟨more, e⟩ := un.tbls b ps ((upd_ne (ne_of_none z free1)).trans z)
      exact ⟨more, (del_ne (ne_of_none z free1)).trans e⟩ }
  have held2 : HOk X.prog X.w (del J2 n) G := fun b o z => by
    have hb : b ≠ n := fun e => by rw [e, del_same] at z; cases z
    rw [del_ne hb] at z
    have noown : ∀ {c : Addr}, J2 c = some (.own b) → c ≠ n := fun {c} hc => at_ne en hc exo_own
    refine (held b o z).stay (fun c v hc y => ?_) (fun c hc => (del_ne (noown hc)).trans hc) (fun c xs hc => (del_ne (at_ne en hc exo_tup)).trans hc)
    have hcn : c ≠ n := hc.elim (fun e => e ▸ hb) noown
    exact (same c hcn).trans y
  refine ⟨t0, G, I0.call' (ch := []) eq' U held2 bare (fun b z => absurd z (by simp)), fun b o z => ?_, gone, there⟩
  by_cases hb : b = n
  · rw [hb, gone] at z; cases z
  · exact (same b hb).symm.trans z
/-- C() -/
def tMk0 (C : Addr) (sp : Sp) : L2.St → Hp → XK → Prop := fun σ H Q => ∀ a, H a = none → sp [.ref a] (upd H a (exo a C none)) (fun v H2 => v = .non ∧ H2 a = some (exo a C none) ∧ Q (.ref C) none (del H2 a)) (fun _ _ _ => False)
theorem pmk0 {CXt : CXT} {x : Str} {C fI : Addr} {fd : FuncData} {ps : List Str} {sp : Sp} {p pos : Pos} (T : OexC X.K C) (iC : PySem.W.findIn X.K (.ref C) "__init__" = some (some (.ref fI))) (tI : PySem.W.typeIn X.K (.ref fI) = some (.type "function"))
    (F1 : FnOk X.prog X.w X.K X.mg X.base CXt k fI fd ps sp) (hr : Room (k + 1) X.A) (hb : Binds X.K fd ps []) (hx : Passes CXt X (fun _ _ _ => False)) (hg : Gl X x) (hm : X.mg x = some (.ref C)) (hdb : (x == ("__debug__" : Str)) = false := by decide) :
    PMk X (.Call (.Name x p) [] [] pos) (tMk0 C sp) := by
  intro pins s σ H Q I h
  obtain ⟨nm, qn, N, bs, bm, sn, sub, ab, col, dd, k0, k1, k2, k3, k5, isC, isVE⟩ := T.cls
  refine wpAny_Call_Name_kw (ld_glob I hg hm ?_ hdb)
  refine PySem.W.callWith_K0 I.kIn T.kC ?_
  show wpAny _ _ (call (.ref C) []) _ _ _
  obtain ⟨u1, gs, dr, tk, q⟩ := s
  have le1 : u1.objs.size ≤ u1.objs.size + 1 := Nat.le_succ _
  have fr1 : H (u1.objs.size + 1) = none := I.hok.fresh le1
  have want := h (u1.objs.size + 1) fr1
  have kp : ∀ b o, u1.get? b = some o → ((u1.push (PySem.W.kdv_tup [])).push (PySem.HandSPX.excO C u1.objs.size)).get? b = some o := fun b o e => Heap.get?_push_of_some _ (Heap.get?_push_of_some _ e)
  have stands : ((u1.push (PySem.W.kdv_tup [])).push (PySem.HandSPX.excO C u1.objs.size)).get? (u1.objs.size + 1) = some (PySem.HandSPX.excO C u1.objs.size) := by heap_get
  have I2 : Inv X pins σ (upd H (u1.objs.size + 1) (exo (u1.objs.size + 1) C none)) ⟨(u1.push (PySem.W.kdv_tup [])).push (PySem.HandSPX.excO C u1.objs.size), gs, dr, tk, q⟩ :=
    I.laid (t' := tk) (a := u1.objs.size + 1) (o := exo (u1.objs.size + 1) C none) (h' := (u1.push (PySem.W.kdv_tup [])).push (PySem.HandSPX.excO C u1.objs.size)) kp le1 (exo_ok stands)
  have one : Vals [V.ref (u1.objs.size + 1)] [Value.ref (u1.objs.size + 1)] := .cons rfl .nil
  have len1 : [Value.ref (u1.objs.size + 1)].length = ps.length := by
    have e := F1.len _ _ _ _ want
    simpa using e
  have bnd := hb _ [Value.ref (u1.objs.size + 1)] I2.kIn (by rw [List.append_nil]; exact len1)
  rw [List.append_nil] at bnd
  refine wpAny_call (PySem.HandSPX.call_own F.excBase_ValueError (fun Z => PySem.HandSPX.refsVE_contains Z bm isVE) (I.kIn _ _ isC) (PySem.W.looks_findIn I.kIn iC) (fun self => PySem.W.bind_fn I.kIn self tI) (Nat.zero_le _)
    (codeAny_mono (F1.run _ X.stack _ _ ⟨[Value.ref (u1.objs.size + 1)], []⟩ [Value.ref (u1.objs.size + 1)] _ _ (fun _ _ _ => False) (hr.make C [] []) (I2.env0.make C [] []) bnd one want) fun r s' hq' => ?_))
  cases r with
  | error er => exact hx pins σ _ _ er s' I2 hq'
  | ok fl =>
    cases fl with
    | ret u =>
      obtain ⟨v, H2, os2, bare2, un2, hok2, rv, ev, en, q2⟩ := hq'
      subst ev
      obtain ⟨u3, gs', dr', tk', qq⟩ := s'
      obtain ⟨t0, G, J, kG, gone, there⟩ := end_bare (dr' := dr') (tk' := tk') I le1 kp un2 hok2 os2 bare2 en
      exact ⟨rv, _, _, _, ⟨G, gs', dr', tk', qq⟩, _, .ref C, none, rfl, J, kG, gone, there, ⟨rfl, rfl⟩, rfl, rfl, del_same, rfl, bare2, raises_own T.exC T.tyC, q2⟩
    | next => exact False.elim hq'
    | brk => exact False.elim hq'
    | cont => exact False.elim hq'
/-- what __init__(self): pass keeps -/
def spI0 : Sp := fun vs H Q _ => vs.length = 1 ∧ Q .non H
theorem ok_init0 {P : Program} {w : World} {K : PySem.W.Frag} {mg : Str → Option Value} {base : Heap} {qual : Str} {st : Stmt} {f : Addr} {fd : FuncData} {pp : Pos} (F : Fun K "__init__" qual st f fd) (S : FnScope ["self"] ["self"] (defScope st)) (hb : defBody st = [.Pass pp]) :
    FnOk P w K mg base (L2.CX P w) 1 f fd ["self"] spI0 := by
  refine F.okX S (fun vs H Q E h => h.1) fun cdv A outer s H vs Q E hr h => ?_
  rw [hb]
  exact ⟨_, pss_one ps_pass, h.2⟩
/-- what __init__(self, f): self.f = f keeps -/
def spI1 (C : Addr) (f : Str) : Sp := fun vs H Q _ => vs.length = 2 ∧ ∃ a y, vs = [.ref a, y] ∧ H a = some (exo a C none) ∧ ∀ dx, H dx = none → dx ≠ a → Q .non (upd (upd H dx (exd dx [(f, y)])) a (exo a C (some dx)))
theorem ok_init1 {P : Program} {w : World} {K : PySem.W.Frag} {mg : Str → Option Value} {base : Heap} {qual : Str} {st : Stmt} {f C : Addr} {fd : FuncData} {n : Str} {p1 p2 p3 p4 : Pos} (T : OexC K C) (hno : PySem.W.findIn K (.ref C) n = some none) (F : Fun K "__init__" qual st f fd) (S : FnScope ["self", n] ["self", n] (defScope st))
    (hb : defBody st = [.Assign [.Attribute (.Name "self" p1) n p2] (.Name n p3) p4]) (l1 : (defScope st).names.lookup ("self" : Str) = some NameKind.local) (l2 : (defScope st).names.lookup n = some NameKind.local) (hd : (n == ("__debug__" : Str)) = false := by decide) (hcd : (n == ("__classdict__" : Str)) = false := by decide) :
    FnOk P w K mg base (L2.CX P w) 1 f fd ["self", n] (spI1 C n) := by
  refine F.okX S (fun vs H Q E h => h.1) fun cdv A outer s H vs Q E hr h => ?_
  rw [hb]
  refine ⟨_, pss_one (ps_ost (pe_var (i := 0) rfl (.inl l1)) (pe_var (i := 1) rfl (.inl l2) hd hcd)), ?_⟩
  obtain ⟨_, a, y, rfl, ha, q⟩ := h
  exact ⟨y, rfl, .ref a, rfl, a, C, rfl, T, hno, .inl ⟨ha, fun dx h1 h2 => q dx h1 h2⟩⟩

/-! ### raise -/
def sRaise0 (c : Str) : En → Store → Res := fun env S => .er c [] env S
def sRaise1 (c n : Str) (f : En → Store → Out Val) : En → Store → Res := fun env S => (f env S).toS env fun x S1 => .er c [(n, x)] env S1
theorem ss_raise0 {c : Str} {C fI : Addr} {fd : FuncData} {kc : Nat} {p pos pos2 : Pos} (cc : Cc X Y W kc) (h2 : 2 ≤ kc) (hc : Y.er c = some (.ref C)) (T : OexC X.K C) (iC : PySem.W.findIn X.K (.ref C) "__init__" = some (some (.ref fI))) (tI : PySem.W.typeIn X.K (.ref fI) = some (.type "function"))
    (F1 : FnOk X.prog X.w X.K X.mg X.base (L2.CX X.prog X.w) 1 fI fd ["self"] spI0) (hb : Binds X.K fd ["self"] []) (hg : Gl X c) (hm : X.mg c = some (.ref C)) (hdb : (c == ("__debug__" : Str)) = false := by decide) :
    SS X Y W (.Raise (some (.Call (.Name c p) [] [] pos)) none pos2) (sRaise0 c) := by
  refine PS.imp (ps_raise cc.calm cc.tk (pmk0 T iC tI F1 (cc.room.mono h2) hb passL hg hm hdb)) fun D σ H h => ?_
  obtain ⟨ρ, env, S, he, hs, h⟩ := h
  intro a ha
  refine ⟨rfl, rfl, upd_same, ?_⟩
  have e1 : Ext H (del (upd H a (exo a C none)) a) := fun b o f e => by
    have : b ≠ a := ne_of_none e ha
    rw [del_ne this, upd_ne this]; exact e
  have e2 : del (upd H a (exo a C none)) a = H := by
    funext b
    by_cases hb : b = a
    · rw [hb, del_same, ha]
    · rw [del_ne hb, upd_ne hb]
  rw [e2]
  exact h _ none σ ρ H (Pre.refl _) (Ext.refl _) he hs ⟨hc, .inl rfl⟩
theorem ss_raise1 {c n : Str} {C fI : Addr} {fd : FuncData} {kc : Nat} {p pos pos2 : Pos} {e : Expr} {f : En → Store → Out Val} (cc : Cc X Y W kc) (h2 : 2 ≤ kc) (hc : Y.er c = some (.ref C)) (T : OexC X.K C) (iC : PySem.W.findIn X.K (.ref C) "__init__" = some (some (.ref fI))) (tI : PySem.W.typeIn X.K (.ref fI) = some (.type "function"))
    (F1 : FnOk X.prog X.w X.K X.mg X.base (L2.CX X.prog X.w) 1 fI fd ["self", n] (spI1 C n)) (hb : Binds X.K fd ["self", n] []) (hg : Gl X c) (hm : X.mg c = some (.ref C)) (he : SE X Y W e f) (hdb : (c == ("__debug__" : Str)) = false := by decide)
    (hs : starEach [e] X.env = (false, eval e X.env) :: starEach [] X.env := by rfl) :
    SS X Y W (.Raise (some (.Call (.Name c p) [e] [] pos)) none pos2) (sRaise1 c n f) := by
  refine PS.imp (ps_raise cc.calm cc.tk (pmk_oex (dvs := []) T iC tI F1 (cc.room.mono h2) hb .nil passL hg hm (pa_cons he pa_nil hs) hdb hs rfl)) fun D σ H h => ?_
  refine tS.go (k := fun env x S1 => .er c [(n, x)] env S1) h fun ρ env v x H1 S1 he hs rx hp => ?_
  refine ⟨by show 1 ≤ 1000; decide, fun a ha => ⟨rfl, a, v, rfl, upd_same, fun dx hd hne => ?_⟩⟩
  have hd1 : H1 dx = none := by rw [upd_ne hne] at hd; exact hd
  refine ⟨rfl, dx, _, upd_same, by rw [upd_ne hne, upd_same], hd1, ?_⟩
  have e2 : upd (del (upd (upd (upd H1 a (exo a C none)) dx (exd dx [(n, v)])) a (exo a C (some dx))) a) dx (.xd [(n, v)]) = upd H1 dx (.xd [(n, v)]) := by
    funext b
    by_cases h1 : b = dx
    · subst h1; rw [upd_same, upd_same]
    · rw [upd_ne h1, upd_ne h1]
      by_cases h2 : b = a
      · subst h2; rw [del_same, ha]
      · rw [del_ne h2, upd_ne h2, upd_ne h1, upd_ne h2]
  rw [e2]
  have en := Ext.new (o := .xd [(n, v)]) hd1
  exact hp _ (some dx) σ ρ _ (Pre.refl _) en (he.up (Pre.refl _) en) (hs.other hd1) ⟨hc, .inr ⟨dx, [(n, v)], rfl, upd_same, .cons ⟨rfl, rx.up (Pre.refl _) en⟩ .nil⟩⟩
end
end Mp

set_option Elab.async false
set_option linter.all false
set_option maxRecDepth 100000
set_option maxHeartbeats 1000000
/-! try, except. -/
namespace Mp
open PySem PySem.Spec PyProof.Rows L2

/-! ### one clause with a name -/
/-- what a suite comes to, slot i let go of -/
def Res.let (i : Nat) : Res → Res
  | .nx e S => .nx (e.set i none) S
  | .rt v S => .rt v S
  | .bk e S => .bk (e.set i none) S
  | .ct e S => .ct (e.set i none) S
  | _ => .bad
def sTryAs (m : Str → Bool) (i : Nat) (gb : En → Store → Res) (g : Str → List (Str × Val) → En → Store → Res) : En → Store → Res := fun env S => match gb env S with
  | .er c fs e S1 => if m c = true then (if i < e.length then (g c fs (e.set i none) S1).let i else .bad) else .er c fs e S1
  | r => r
/-- the suites: no calls, no raising -/
structure Cs (X : Cx) : Prop where
  nd : X.N.Nodup
  un : X.A.units + 200 < cLine
theorem Cs.u0 {X : Cx} (c : Cs X) : X.A.units < cLine := by have := c.un; omega
theorem Cs.u1 {X : Cx} (c : Cs X) : X.A.units + 1 < cLine := by have := c.un; omega
theorem Cs.u64 {X : Cx} (c : Cs X) : X.A.units + 64 < cLine := by have := c.un; omega
theorem Cs.u65 {X : Cx} (c : Cs X) : X.A.units + 65 < cLine := by have := c.un; omega
theorem Cc.un {X : Cx} {Y : Sy} {W : WX} {k : Nat} (c : Cc X Y W k) : X.A.units + 200 < cLine := by have := c.room.un; omega
theorem ERep.unset {K : PySem.W.Frag} {Y : Sy} {ρ : List Addr} {H : Hp} {σ : L2.St} {env : En} (h : ERep K Y ρ H σ env) (i : Nat) (Y' : Sy) (hy : Y'.xi = none) : ERep K Y' ρ H (σ.set i none) (env.set i none) := by
  refine ⟨by simp [h.len], fun j y q => ?_, fun n a cv d fs q => by rw [hy] at q; cases q⟩
  by_cases hj : j = i
  · subst hj
    by_cases hl : j < env.length
    · rw [List.getElem?_set_self hl] at q; cases q
    · rw [List.getElem?_eq_none (by simpa using hl)] at q; cases q
  · rw [List.getElem?_set_ne (Ne.symm hj)] at q ⊢
    exact h.at_ j y q
theorem Sim.y {K : PySem.W.Frag} {Y Y' : Sy} {ρ : List Addr} {H : Hp} {S : Store} (s : Sim K Y ρ H S) (h : Y'.cl = Y.cl) : Sim K Y' ρ H S :=
  ⟨s.len, s.nd, fun i a o h1 h2 => by
    have := s.ob i a o h1 h2
    cases o <;> first | exact this | (unfold ObRep at this ⊢; rw [h]; exact this)⟩
section
variable {X : Cx} {Y : Sy} {W : WX} {kc : Nat} {x n : Str} {hv : Value} {i : Nat} {body suite : List Stmt} {b₀ : Stmt} {np pos pos' : Pos} {m : Str → Bool} {gb : En → Store → Res} {g : Str → List (Str × Val) → En → Store → Res}
def tsAs (K : PySem.W.Frag) (Y : Sy) (m : Str → Bool) (i : Nat) (g : Str → List (Str × Val) → En → Store → Res) : Addr → Value → Option Addr → TS := fun a cls d D σ H =>
  ∃ c fs, Y.er c = some cls ∧ m c = true ∧ tS K { Y with xi := some (i, a, cls, d, fs) } W0 (g c fs) D σ H
theorem ss_try_as (c : Cc X Y W kc) (hi : X.N[i]? = some n) (hln : X.env.kindOf n = some .local) (hc : Names X x hv) (hm : ∀ q cls, Y.er q = some cls → PySem.W.exmOne X.K cls hv = some (m q))
    (hb : ∀ pn xe W', Cc (X.tr pn xe) Y W' kc → SSs (X.tr pn xe) Y W' body gb)
    (hsu : ∀ (a : Addr) (oe : Obj) (q : Str) (cls : Value) (d : Option Addr) (pn : List (Addr × Obj)) (fs : List (Str × Val)), Y.er q = some cls → m q = true → Zc cls d oe → (∃ vs, oe.data = .fields vs) → Cs (X.suite a ((a, oe) :: pn)) →
      SSs (X.suite a ((a, oe) :: pn)) { Y with xi := some (i, a, cls, d, fs) } W0 (b₀ :: suite) (g q fs))
    (hs : X.stack = X.env :: X.outer := by rfl) (hf : X.env.frame = some X.env.locals := by rfl) :
    SS X Y W (.Try body [.ExceptHandler (some (.Name x np)) (some n) (b₀ :: suite) pos'] [] [] pos) (sTryAs m i gb g) := by
  refine PS.imp (ps_try_as (tb := fun W' => tS X.K Y W' gb) (ts := tsAs X.K Y m i g) hs hf c.nd hi hln hc c.tk (fun W' pn xe tk po => hb pn xe W' ⟨c.calm, c.nd, c.xi, po, tk, c.room⟩) fun a oe cls d pn hz hd => ?_) fun D σ H h => ?_
  · refine ⟨fun pins s σ H D I hh => ?_⟩
    obtain ⟨q, fs, e1, e2, hh⟩ := hh
    exact (hsu a oe q cls d pn fs e1 e2 hz hd ⟨c.nd, c.un⟩).run pins s σ H D I hh
  · obtain ⟨ρ, env, S, he, hs, h⟩ := h
    refine ⟨ρ, env, S, he, hs, ?_⟩
    unfold sTryAs at h
    generalize hgr : gb env S = r at h
    cases r with
    | nx e1 S1 => exact h
    | rt v S1 => exact h
    | bk e1 S1 => exact h
    | ct e1 S1 => exact h
    | bad => exact h
    | er q fs e1 S1 =>
      intro cls d σ1 ρ1 H1 p1 x1 he1 hs1 her
      refine ⟨m q, hm q cls her.1, fun hq a ha => ?_, fun hq => ?_⟩
      · simp only [hq, if_true] at h
        by_cases hl : i < e1.length
        · rw [if_pos hl] at h
          refine ⟨q, fs, her.1, hq, ρ1, e1.set i none, S1, ⟨?_, fun j y z => ?_, fun n' a' cv' d' fs' z => ?_⟩, hs1.y rfl, ?_⟩
          · simp [he1.len]
          · by_cases hj : j = i
            · subst hj
              rw [List.getElem?_set_self hl] at z; cases z
            · rw [List.getElem?_set_ne (Ne.symm hj)] at z ⊢
              exact he1.at_ j y z
          · cases z
            exact ⟨List.getElem?_set_self (by rw [he1.len]; exact hl), her.2⟩
          · generalize g q fs (e1.set i none) S1 = r2 at h
            have hup := PostS.up p1 x1 h
            cases r2 with
            | nx e2 S2 => exact fun σ2 ρ2 H2 p2 x2 he2 hs2 => hup (σ2.set i none) ρ2 H2 p2 x2 (he2.unset i Y c.xi) (hs2.y rfl)
            | rt v S2 => exact fun v2 ρ2 H2 p2 x2 hs2 r2 => hup v2 ρ2 H2 p2 x2 (hs2.y rfl) r2
            | bk e2 S2 => exact fun σ2 ρ2 H2 p2 x2 he2 hs2 => hup (σ2.set i none) ρ2 H2 p2 x2 (he2.unset i Y c.xi) (hs2.y rfl)
            | ct e2 S2 => exact fun σ2 ρ2 H2 p2 x2 he2 hs2 => hup (σ2.set i none) ρ2 H2 p2 x2 (he2.unset i Y c.xi) (hs2.y rfl)
            | er c2 fs2 e2 S2 => exact h.elim
            | bad => exact h.elim
        · rw [if_neg hl] at h; exact h.elim
      · simp only [hq] at h
        exact h cls d σ1 ρ1 H1 p1 x1 he1 hs1 her
/-- error.f in the suite -/
def eXf (fs : List (Str × Val)) (f : Str) : En → Store → Out Val := fun _ S => match fs.lookup f with
  | some v => .ok v S
  | none => .bad
theorem RepK.xlook {κ : Type} [BEq κ] [LawfulBEq κ] {K : PySem.W.Frag} {ρ : List Addr} {H : Hp} {f : κ} {y : Val} : ∀ {gs : List (κ × V)} {fs : List (κ × Val)}, RepK K ρ H gs fs → fs.lookup f = some y → ∃ v, gs.lookup f = some v ∧ Rep K ρ H v y
  | _, _, .nil, h => by cases h
  | (a, v) :: gs, (b, z) :: fs, .cons h r, e => by
    obtain ⟨h1, h2⟩ := h
    obtain rfl : a = b := h1
    simp only [List.lookup] at e ⊢
    cases hq : (f == a) with
    | true => rw [hq] at e; cases e; exact ⟨v, rfl, h2⟩
    | false => rw [hq] at e; exact RepK.xlook r e
theorem se_xf {a C : Addr} {oe : Obj} {d : Option Addr} {pn : List (Addr × Obj)} {p pos : Pos} {f : Str} {fs : List (Str × Val)} (T : XfC X.K C) (hno : PySem.W.findIn X.K (.ref C) f = some none) (hz : Zc (.ref C) d oe) (hf : ∃ vs, oe.data = .fields vs)
    (hN : X.N[i]? = some n) (hv : X.env.scope.names.lookup n = some .local) (hd : (n == ("__debug__" : Str)) = false := by decide) (hcd : (n == ("__classdict__" : Str)) = false := by decide) :
    SE (X.suite a ((a, oe) :: pn)) { Y with xi := some (i, a, .ref C, d, fs) } W (.Attribute (.Name n p) f pos) (eXf fs f) := by
  refine PE.imp (pe_xf (X := X) (te := tVar i) T hno hz hf (pe_var (i := i) hN (.inl hv) hd hcd)) fun σ H Q h => ?_
  obtain ⟨ρ, env, S, he, hs, h⟩ := h
  obtain ⟨h1, h2⟩ := he.xi i a (.ref C) d fs rfl
  refine ⟨.ref a, h1, rfl, rfl, ?_⟩
  unfold eXf at h
  split at h
  · rename_i y hy
    rcases h2 with rfl | ⟨dd, gs, rfl, e1, r1⟩
    · cases hy
    · obtain ⟨v, l1, r2⟩ := r1.xlook hy
      exact ⟨dd, gs, v, rfl, e1, l1, h v ρ H (Pre.refl _) (Ext.refl _) hs r2⟩
  · exact h.elim
end

/-! ### several clauses without names -/
abbrev Hd := (Str → Bool) × (En → Store → Res)
def tryHd (c : Str) (fs : List (Str × Val)) (e : En) (S : Store) : List Hd → Res
  | [] => .er c fs e S
  | (m, g) :: r => if m c = true then (match g e S with
    | .er _ _ _ _ => .bad
    | u => u) else tryHd c fs e S r
def sTry (gb : En → Store → Res) (l : List Hd) : En → Store → Res := fun env S => match gb env S with
  | .er c fs e S1 => tryHd c fs e S1 l
  | r => r
/-- the clauses hold what l says -/
inductive Hds (X : Cx) (Y : Sy) : List ExceptHandler → List (Value × (Addr → Value → Option Addr → TS)) → List Hd → Prop
  | nil : Hds X Y [] [] []
  | cons {x : Str} {hv : Value} {m : Str → Bool} {g : En → Store → Res} {b₀ : Stmt} {suite : List Stmt} {np pos' : Pos} {hds : List ExceptHandler} {l' : List (Value × (Addr → Value → Option Addr → TS))} {l : List Hd} (hc : Names X x hv)
      (hm : ∀ q cls, Y.er q = some cls → PySem.W.exmOne X.K cls hv = some (m q)) (hsu : ∀ (a : Addr) (pn : List (Addr × Obj)), Cs (X.suite a pn) → SSs (X.suite a pn) Y W0 (b₀ :: suite) g) (r : Hds X Y hds l' l) :
      Hds X Y (.ExceptHandler (some (.Name x np)) none (b₀ :: suite) pos' :: hds) ((hv, fun _ _ _ => tS X.K Y W0 g) :: l') ((m, g) :: l)
theorem Hds.ok {X : Cx} {Y : Sy} (cs : ∀ a pn, Cs (X.suite a pn)) {hds : List ExceptHandler} {l' : List (Value × (Addr → Value → Option Addr → TS))} {l : List Hd} (h : Hds X Y hds l' l) : HdsOk X hds l' := by
  induction h with
  | nil => exact .nil
  | cons hc hm hsu r ih => exact .cons hc (fun a oe cls d pn _ _ => hsu a ((a, oe) :: pn) (cs _ _)) ih
theorem Hds.post {X : Cx} {Y : Sy} {W : WX} {D : Ends} {c : Str} {fs : List (Str × Val)} {e : En} {S : Store} {cls : Value} {d : Option Addr} {σ : L2.St} {ρ : List Addr} {H : Hp} (he : ERep X.K Y ρ H σ e) (hs : Sim X.K Y ρ H S) (her : ErrRep X.K Y ρ H cls d c fs)
    {hds : List ExceptHandler} {l' : List (Value × (Addr → Value → Option Addr → TS))} {l : List Hd} (h : Hds X Y hds l' l) (hp : PostS X.K Y W ρ H D (tryHd c fs e S l)) : wMany X.K W D l' cls d σ H := by
  induction h with
  | nil => exact hp cls d σ ρ H (Pre.refl _) (Ext.refl _) he hs her
  | @cons x hv m g b₀ suite np pos' hds l' l hc hm hsu r ih =>
    refine ⟨m c, hm c cls her.1, fun hq a ha => ?_, fun hq => ?_⟩
    · simp only [tryHd, hq, if_true] at hp
      refine ⟨ρ, e, S, he, hs, ?_⟩
      generalize g e S = u at hp
      cases u with
      | er a b c d => exact hp.elim
      | _ => exact hp
    · simp only [tryHd, hq] at hp
      exact ih hp
theorem ss_try {X : Cx} {Y : Sy} {W : WX} {kc : Nat} {body : List Stmt} {pos : Pos} {gb : En → Store → Res} {h₀ : ExceptHandler} {hds : List ExceptHandler} {l' : List (Value × (Addr → Value → Option Addr → TS))} {l : List Hd} (c : Cc X Y W kc)
    (hb : ∀ pn xe W', Cc (X.tr pn xe) Y W' kc → SSs (X.tr pn xe) Y W' body gb) (hh : Hds X Y (h₀ :: hds) l' l)
    (hs : X.stack = X.env :: X.outer := by rfl) (hf : X.env.frame = some X.env.locals := by rfl) : SS X Y W (.Try body (h₀ :: hds) [] [] pos) (sTry gb l) := by
  refine PS.imp (ps_try_many (tb := fun W' => tS X.K Y W' gb) hs hf c.tk (fun W' pn xe tk po => hb pn xe W' ⟨c.calm, c.nd, c.xi, po, tk, c.room⟩) (hh.ok fun a pn => ⟨c.nd, c.un⟩)) fun D σ H h => ?_
  obtain ⟨ρ, env, S, he, hs, h⟩ := h
  refine ⟨ρ, env, S, he, hs, ?_⟩
  unfold sTry at h
  generalize hgr : gb env S = r at h
  cases r with
  | nx e1 S1 => exact h
  | rt v S1 => exact h
  | bk e1 S1 => exact h
  | ct e1 S1 => exact h
  | bad => exact h
  | er q fs e1 S1 => exact fun cls d σ1 ρ1 H1 p1 x1 he1 hs1 her => hh.post he1 hs1 her (PostS.up p1 x1 h)
end Mp

set_option Elab.async false
set_option linter.all false
set_option maxRecDepth 100000
set_option maxHeartbeats 1000000
/-! Own classes: fields, making, isinstance, an own ==. -/
namespace Mp
open PySem PySem.Spec PyProof.Rows L2

/-- what the text says of a class -/
structure Kl (K : PySem.W.Frag) (C : Addr) : Prop where
  cls : Cls K C
  ca : PySem.W.findIn K (.ref C) "__class__" = some (some (.builtin "object.__class__"))
  gt : PySem.W.specialIn K (.builtin "object.__class__") "__get__" = some (some (.builtin "getset_descriptor.__get__"))
  tk : PySem.W.takesIn K (.builtin "object.__class__") = some true
  mo : PySem.W.mroIn K C (.type "object") = some true
/-- the classes that stand around -/
def Kls (K : PySem.W.Frag) (Y : Sy) : Prop := ∀ c C, Y.cl c = some C → Kl K C
def NoF (K : PySem.W.Frag) (Y : Sy) (cs : List Str) (f : Str) : Prop := ∀ c C, c ∈ cs → Y.cl c = some C → NoAttr K C f

/-! ### fields -/
def putS (f : Str) (v : Val) : List (Str × Val) → List (Str × Val)
  | [] => [(f, v)]
  | (g, x) :: r => if g = f then (g, v) :: r else (g, x) :: putS f v r
theorem RepK.putS {K : PySem.W.Frag} {ρ : List Addr} {H : Hp} {f : Str} {v : V} {x : Val} (h : Rep K ρ H v x) : ∀ {gs : List (Str × V)} {fs : List (Str × Val)}, RepK K ρ H gs fs → RepK K ρ H (putF f v gs) (Mp.putS f x fs)
  | _, _, .nil => .cons ⟨rfl, h⟩ .nil
  | (a, u) :: gs, (b, z) :: fs, .cons q r => by
    obtain ⟨q1, q2⟩ := q
    obtain rfl : a = b := q1
    unfold putF Mp.putS
    by_cases e : a = f
    · rw [if_pos e, if_pos e]; exact .cons ⟨rfl, h⟩ r
    · rw [if_neg e, if_neg e]; exact .cons ⟨rfl, q2⟩ (RepK.putS h r)
def insOf (S : Store) : Val → Option (Str × List (Str × Val))
  | .ref i => match S[i]? with
    | some (.ins c fs) => some (c, fs)
    | _ => none
  | _ => none
theorem insOf_rep {K : PySem.W.Frag} {Y : Sy} {ρ : List Addr} {H : Hp} {S : Store} {v : V} {x : Val} {c : Str} {fs : List (Str × Val)} (hs : Sim K Y ρ H S) (r : Rep K ρ H v x) (h : insOf S x = some (c, fs)) :
    ∃ i a C dx gs, x = .ref i ∧ S[i]? = some (.ins c fs) ∧ v = .ref a ∧ ρ[i]? = some a ∧ Y.cl c = some C ∧ H a = some (.ins C dx gs) ∧ RepK K ρ H gs fs := by
  cases r <;> try (simp [insOf] at h; done)
  rename_i a i hi
  simp only [insOf] at h
  split at h
  · rename_i c' fs' e
    cases h
    obtain ⟨C, dx, gs, h1, h2, h3⟩ := (hs.ob i a _ hi e : ObRep K Y ρ H a (.ins c fs))
    exact ⟨i, a, C, dx, gs, rfl, e, rfl, hi, h1, h2, h3⟩
  · cases h
def eFld (cs : List Str) (f : Str) (g : En → Store → Out Val) : En → Store → Out Val := fun env S => (g env S).bind fun x S1 => match insOf S1 x with
  | some (c, fs) => if c ∈ cs then (match fs.lookup f with
    | some v => .ok v S1
    | none => .bad) else .bad
  | none => .bad
section
variable {X : Cx} {Y : Sy} {W : WX} {e o : Expr} {f : Str} {pos pos' : Pos} {g go : En → Store → Out Val} {cs : List Str}
theorem se_fld (hK : Kls X.K Y) (hn : NoF X.K Y cs f) (he : SE X Y W e g) (hb : attributeBase e f X.env (eval e X.env) = eval e X.env := by rfl) : SE X Y W (.Attribute e f pos) (eFld cs f g) := by
  refine PE.imp (pe_fld he hb) fun σ H Q h => ?_
  refine tG.bind (k := fun _ x S1 => match insOf S1 x with | some (c, fs) => if c ∈ cs then (match fs.lookup f with | some v => Out.ok v S1 | none => Out.bad) else Out.bad | none => Out.bad) h fun ρ env v x H1 S1 he hs rx hp => ?_
  split at hp
  · rename_i c fs e1
    split at hp
    · rename_i hc
      split at hp
      · rename_i y ey
        obtain ⟨i, a, C, dx, gs, rfl, e2, rfl, hi, hC, ea, rk⟩ := insOf_rep hs rx e1
        obtain ⟨u, l, ru⟩ := rk.xlook ey
        exact ⟨a, C, dx, gs, u, rfl, ea, (hK c C hC).cls, hn c C hc hC, l, hp u ρ H1 (Pre.refl _) (Ext.refl _) hs ru⟩
      · exact hp.elim
    · exact hp.elim
  · exact hp.elim
/-- o.f = value -/
def kFld (cs : List Str) (f : Str) (y : Val) (env : En) (x : Val) (S2 : Store) : Res := match x with
  | .ref i => (match S2[i]? with
    | some (.ins c fs) => if c ∈ cs ∧ fs.length < 1000 then .nx env (S2.set i (.ins c (putS f y fs))) else .bad
    | _ => .bad)
  | _ => .bad
def sFldS (cs : List Str) (f : Str) (gv go : En → Store → Out Val) : En → Store → Res := fun env S => (gv env S).toS env fun y S1 => (go env S1).toS env (kFld cs f y env)
theorem ss_fld {gv : En → Store → Out Val} {value : Expr} (hK : Kls X.K Y) (hn : NoF X.K Y cs f) (ho : SE X Y W o go) (hv : SE X Y W value gv) (hs : swapsWith value (some (.Attribute o f pos')) pos.line X.env = pure false := by rfl) :
    SS X Y W (.Assign [.Attribute o f pos'] value pos) (sFldS cs f gv go) := by
  refine PS.imp (ps_fld ho hv hs) fun D σ H h => ?_
  refine tS.go (k := fun env y S1 => (go env S1).toS env (kFld cs f y env)) h fun ρ env v y H1 S1 he1 hs1 ry hp => ?_
  refine ⟨ρ, env, S1, he1, hs1, ?_⟩
  generalize go env S1 = oo at hp
  cases oo with
  | bad => exact hp
  | err c fs S2 => exact fun cls d ρ2 H2 p2 e2 s2 r2 => hp cls d σ ρ2 H2 p2 e2 (he1.up p2 e2) s2 r2
  | ok x S2 =>
    intro w ρ2 H2 p2 e2 s2 rx
    simp only [Out.toS, kFld] at hp
    cases rx <;> try (exact hp.elim)
    rename_i a i hi
    dsimp only at hp
    split at hp
    · rename_i c fs e4
      split at hp
      · rename_i hc
        obtain ⟨C, dx, gs, h1, h2, h3⟩ := (s2.ob i a _ hi e4 : ObRep X.K Y ρ2 H2 a (.ins c fs))
        refine ⟨a, C, dx, gs, rfl, h2, (hK c C h1).cls, hn c C hc.1 h1, by rw [h3.length]; exact hc.2, ?_⟩
        obtain ⟨e5, s5⟩ := s2.put (u := .ins C dx (putF f v gs)) (o := .ins c (putS f y fs)) hi ⟨C, dx, _, h1, upd_same, ((RepK.putS (ry.up p2 e2) h3).up (Pre.refl _) (Ext.mut h2 fun z => z))⟩
        exact hp σ ρ2 _ p2 (e2.trans e5) (he1.up p2 (e2.trans e5)) s5
      · exact hp.elim
    · exact hp.elim
end

/-! ### C(..) -/
section
variable {X : Cx} {Y : Sy} {W : WX} {kc k : Nat} {C f : Addr} {fd : FuncData} {ps : List Str} {c x : Str} {g : Fn} {n : Nat} {e : Expr} {es : List Expr} {ga : En → Store → Out (List Val)} {p pos : Pos}
theorem made_run {CXt : CXT} {E : L2.St → XK} {sp : Sp} {pins : List (Addr × Obj)} {σ : L2.St} {J : Hp} {s0 : Shared} {Q : VK} {us : List Value} {vs : List V} (mk : Mk X.K C f) (fo : FnOk X.prog X.w X.K X.mg X.base CXt k f fd ps sp) (rm : Room (k + 1) X.A) (bi : Binds X.K fd ps [])
    (pa : PassesAt CXt X σ (E σ)) (iv : Inv X pins σ J s0) (rv : Vals vs us)
    (want : ∀ a dx, J a = none → J dx = none → dx ≠ a → sp (.ref a :: vs) (upd (upd J dx (.own a)) a (.ins C dx [])) (fun v J2 => v = .non ∧ Q (.ref a) J2) (E σ)) :
    wpAny (model X.prog X.w) X.A (call (.ref C) us) (EP X pins σ Q) X.xe s0 := by
  let n := s0.heap.objs.size
  have wq := want (n + 1) n (iv.hok.fresh (Nat.le_succ _)) (iv.hok.fresh (Nat.le_refl _)) (Nat.ne_of_lt (Nat.lt_succ_self _))
  have iv2 := Inv.made (C := C) iv
  have rv2 : Vals (V.ref (n + 1) :: vs) (Value.ref (n + 1) :: us) := .cons rfl rv
  have ln : (Value.ref (n + 1) :: us).length = ps.length := by rw [← rv2.length]; exact fo.len _ _ _ _ wq
  have bd := bi _ (Value.ref (n + 1) :: us) iv2.kIn (by rw [List.append_nil]; exact ln)
  rw [List.append_nil] at bd
  have run := fo.run _ X.stack _ _ ⟨Value.ref (n + 1) :: us, []⟩ (Value.ref (n + 1) :: us) _ _ (E σ) (rm.make C us []) (iv2.env0.make C us []) bd rv2 wq
  refine wpAny_call (make_map (f := f) iv.kIn mk.makes mk.init (beq_iff_eq.mp mk.fn) (codeAny_mono run fun out s2 ho => ?_))
  rcases out with er | fl
  · exact pa pins _ _ er s2 iv2 ho
  · cases fl <;> first | exact ho.elim | skip
    obtain ⟨v, J2, iv3, rx, ez, q3⟩ := iv2.after ho
    subst ez
    exact ⟨rx, ⟨V.ref (n + 1), J2, iv3, rfl, q3⟩⟩
def kMake (n : Nat) : Val → Store → Out Val := fun r S2 => match r with
  | .non => .ok (.ref n) S2
  | _ => .bad
def fMake (c : Str) (g : Fn) : Fn := fun xs S1 => (g (.ref S1.length :: xs) (S1 ++ [.ins c []])).bind (kMake S1.length)
theorem se_make (cc : Cc X Y W kc) (mk : Mk X.K C f) (fo : FnOk X.prog X.w X.K X.mg X.base (L2.CX X.prog X.w) k f fd ps (spOf X.K Y n g)) (har : Arity n g) (hk : k + 1 ≤ kc) (hc : Y.cl c = some C) (hg : Gl X x) (hm : X.mg x = some (.ref C)) (hb : Binds X.K fd ps []) (ha : SA X Y W (e :: es) ga)
    (hdb : (x == ("__debug__" : Str)) = false := by decide) (he : starEach (e :: es) X.env = (false, eval e X.env) :: starEach es X.env := by rfl) (hpl : (backTo pos (starEach es X.env)).any (·.1) = false := by rfl) :
    SE X Y W (.Call (.Name x p) (e :: es) [] pos) (eCall (fMake c g) ga) := by
  refine ⟨fun pins s σ H Q I h => ?_⟩
  refine wpAny_Call_Name_kw (ld_glob I hg hm ?_ hdb)
  let M : List V → Hp → Prop := fun vs J => ∀ a dx, J a = none → J dx = none → dx ≠ a → spOf X.K Y n g (.ref a :: vs) (upd (upd J dx (.own a)) a (.ins C dx [])) (fun v J2 => v = .non ∧ Q (.ref a) J2) (WE W σ)
  have h2 : tG X.K Y W (RL X.K) ga σ H M := by
    refine tG.bind (k := fun _ => fMake c g) h fun ρ env vs xs H1 S1 he hs rx hp => ?_
    intro a dx fa fd ne
    have fa2 : upd H1 dx (.own a) a = none := by rw [upd_ne (Ne.symm ne)]; exact fa
    have e1 : Ext H1 (upd H1 dx (.own a)) := Ext.new fd
    have s1 := hs.other (o := .own a) fd
    have s2 : Sim X.K Y (ρ ++ [a]) (upd (upd H1 dx (.own a)) a (.ins C dx [])) (S1 ++ [.ins c []]) := s1.new fa2 ⟨C, dx, [], hc, upd_same, .nil⟩
    have e2 : Ext H1 (upd (upd H1 dx (.own a)) a (.ins C dx [])) := e1.trans (Ext.new fa2)
    have rs : Reps X.K (ρ ++ [a]) (upd (upd H1 dx (.own a)) a (.ins C dx [])) (.ref a :: vs) (.ref S1.length :: xs) := .cons (rep_new hs.len.symm) (rx.up (Pre.snoc _ _) e2)
    unfold fMake at hp
    refine ⟨?_, ρ ++ [a], _, _, rs, s2, ?_⟩
    · by_cases hl : (Val.ref S1.length :: xs).length = n
      · rw [rs.length]; exact hl
      · rw [har _ _ hl] at hp
        exact hp.elim
    · generalize g (.ref S1.length :: xs) (S1 ++ [.ins c []]) = oo at hp
      cases oo with
      | bad => exact hp
      | err c2 fs S2 => exact Post.up (R := RV X.K) (o := .err c2 fs S2) (Pre.snoc _ _) e2 hp
      | ok r S2 =>
        intro v ρ2 H2 p2 x2 s3 r3
        cases r3 <;> try (exact hp.elim)
        exact ⟨rfl, hp _ ρ2 H2 ((Pre.snoc _ _).trans p2) (e2.trans x2) s3 (.ref (p2 _ _ (by rw [← hs.len]; simp)))⟩
  refine PySem.W.callWith_K (h₀ := X.base) I.ok.mod.kin mk.kp (thn (ha.run pos pins s σ H _ I h2) fun us s1 ⟨vs, H1, I1, r, q⟩ => ⟨I1.kIn, ?_⟩) he hpl
  exact made_run (E := WE W) mk fo (cc.room.mono hk) hb (passAt cc.tk σ) I1 r q
end

/-! ### isinstance(x, C) -/
/-- the classes by name, as isinstance tells them apart: cs, the built-in ones -/
structure IsO (K : PySem.W.Frag) (Y : Sy) (C : Addr) (m : Str → Bool) : Prop where
  ty : ∀ t ∈ tyNames, PySem.W.kitOne K (.type t) (.ref C) = some false
  own : ∀ q D, Y.cl q = some D → PySem.W.kitOne K (.ref D) (.ref C) = some (m q)
def kIsO (m : Str → Bool) : Val → Store → Out Val := fun x S1 => match insOf S1 x with
  | some (c, _) => .ok (.bl (m c)) S1
  | none => match tyOf S1 x with
    | some t => if t ∈ tyNames then .ok (.bl false) S1 else .bad
    | none => .bad
def eIsO (m : Str → Bool) (f : En → Store → Out Val) : En → Store → Out Val := fun env S => (f env S).bind (kIsO m)
theorem pe_glob {X : Cx} {cn : Str} {C : Addr} {p : Pos} (hg : Gl X cn) (hm : X.mg cn = some (.ref C)) (hdb : (cn == ("__debug__" : Str)) = false := by decide) : PE X (.Name cn p) (tC (.ref C)) := ⟨fun pins s σ H Q I h => ld_glob I hg hm ⟨.ref C, H, I, rfl, h⟩ hdb⟩
theorem se_isO {X : Cx} {Y : Sy} {W : WX} {m : Str → Bool} {C : Addr} {cn : Str} {p p2 pos : Pos} {e : Expr} {f : En → Store → Out Val} (hK : Kls X.K Y) (hI : IsO X.K Y C m) (hg : Gl X "isinstance") (hm : X.mg "isinstance" = none) (hg2 : Gl X cn) (hm2 : X.mg cn = some (.ref C)) (ha : SE X Y W e f)
    (hdb : (cn == ("__debug__" : Str)) = false := by decide)
    (he : starEach [e, .Name cn p2] X.env = (false, eval e X.env) :: starEach [.Name cn p2] X.env := by rfl) (hpl : (backTo pos (starEach [.Name cn p2] X.env)).any (·.1) = false := by rfl) (h2 : starEach [.Name cn p2] X.env = (false, eval (.Name cn p2) X.env) :: starEach [] X.env := by rfl) :
    SE X Y W (.Call (.Name "isinstance" p) [e, .Name cn p2] [] pos) (eIsO m f) := by
  refine PE.imp (pe_callB (call_isi (X := X)) hg hm (by decide +kernel) (pa_cons ha (pa_cons (pe_glob hg2 hm2 hdb) pa_nil h2) he) (he := he) (hpl := hpl)) fun σ H Q h => ?_
  refine tG.bind (k := fun _ => kIsO m) h fun ρ env v x H1 S1 he hs rx hp => ?_
  unfold kIsO at hp
  split at hp
  · rename_i c fs e1
    obtain ⟨i, a, D, dx, gs, rfl, e2, rfl, hi, hC, ea, rk⟩ := insOf_rep hs rx e1
    have kl := hK c D hC
    exact ⟨.ref a, .ref C, .ref D, .ref C, m c, rfl, .own C, .base (.ins ea kl.cls kl.ca kl.gt kl.tk kl.mo), hI.own c D hC, hp _ ρ H1 (Pre.refl _) (Ext.refl _) hs (.bl _)⟩
  · split at hp
    · rename_i t et
      split at hp
      · rename_i ht
        exact ⟨v, .ref C, .type t, .ref C, false, rfl, .own C, tyOf_rep hs rx et, hI.ty t ht, hp _ ρ H1 (Pre.refl _) (Ext.refl _) hs (.bl _)⟩
      · exact hp.elim
    · exact hp.elim
end Mp

set_option Elab.async false
set_option linter.all false
set_option maxRecDepth 100000
set_option maxHeartbeats 1000000
/-! An own ==. -/
namespace Mp
open PySem PySem.Spec PyProof.Rows L2

structure EqO (K : PySem.W.Frag) (Y : Sy) (C f : Addr) : Prop where
  at_ : PySem.W.findIn K (.ref C) "__eq__" = some (some (.ref f))
  fn : PySem.W.isFn K (.ref f) = true
  ty : ∀ t ∈ tyNames, PySem.W.notFirst K C (.type t) = true
  own : ∀ q D, Y.cl q = some D → PySem.W.notFirst K C (.ref D) = true
def rEqO (K : PySem.W.Frag) (C : Addr) (sp : Sp) : R2 := fun x y H Q => ∃ a dx fs t, x = .ref a ∧ H a = some (.ins C dx fs) ∧ TyX K H y t ∧ PySem.W.notFirst K C t = true ∧ sp [x, y] H Q E0
theorem op_eqO {X : Cx} {Y : Sy} {C f : Addr} {fd : FuncData} {ps : List Str} {k : Nat} {sp : Sp} (eo : EqO X.K Y C f) (fo : FnOk X.prog X.w X.K X.mg X.base (L2.CX X.prog X.w) k f fd ps sp) (rm : Room k X.A) (bi : Binds X.K fd ps []) : OpR X (compareOp .Eq) (rEqO X.K C sp) := by
  intro pins s0 σ J x y u v Q iv rx ry hq
  obtain ⟨a, dx, fs, t, rfl, ea, ty, nf, want⟩ := hq
  cases rx
  obtain ⟨mA, ob, _⟩ := ins_get iv.hok ea
  obtain ⟨od, lk, _⟩ := ob.look
  obtain ⟨m, fr⟩ := iv.fr
  obtain ⟨P, kx, hp, _⟩ := kit_of iv ry ty
  have ll := fo.len _ _ _ _ want
  have rv : Vals [V.ref a, y] [Value.ref a, v] := .cons rfl (.cons ry .nil)
  have bd := bi s0 [Value.ref a, v] iv.kIn (by simpa using ll)
  rw [List.append_nil] at bd
  show wpAny (model X.prog X.w) X.A (richCompare .Eq (Value.ref a) v) (EP X pins σ Q) X.xe s0
  refine PySem.W.cmp_K (op := .Eq) (tb := t) rm.units0 fr iv.ok.mod.kin lk (kx.ty _ _ iv.kIn hp) nf eo.at_ eo.fn ?_
  refine wpAny_call (codeAny_mono (fo.run X.A X.stack s0 J ⟨[.ref a, v], []⟩ [.ref a, v] _ _ E0 rm iv.env0 bd rv want) fun out s2 ho => ?_)
  rcases out with er | fl
  · exact passL pins σ J s0 er s2 iv ho
  · cases fl <;> first | exact ho.elim | skip
    rename_i w
    obtain ⟨z, J2, iv2, rz, qz⟩ := iv.after ho
    have back : EP X pins σ Q w s2 := ⟨z, J2, iv2, rz, qz⟩
    cases w <;> first | exact back | skip
    exfalso
    cases z <;> first | (cases rz; done) | (obtain ⟨_, hh⟩ := rz; cases hh)
def ownEq (g : Fn) (x y : Val) (S : Store) : Out Val := match g [x, y] S with
  | .ok (.bl b) S1 => .ok (.bl b) S1
  | _ => .bad
/-- == where the left may be an instance of cn -/
def vEqO (cn : Str) (g : Fn) : BOp := fun x y S => match insOf S x with
  | some (c, _) => if c = cn then (match insOf S y with
    | some _ => ownEq g x y S
    | none => match tyOf S y with
      | some t => if t ∈ tyNames then ownEq g x y S else .bad
      | none => .bad) else .bad
  | none => vEq x y S
theorem ownEq_post {K : PySem.W.Frag} {Y : Sy} {g : Fn} {n : Nat} (har : Arity n g) {x y : Val} {S : Store} {v w : V} {ρ : List Addr} {H : Hp} {W' : Value → Option Addr → Hp → Prop} {Q : VK} (hs : Sim K Y ρ H S) (rx : Rep K ρ H v x) (ry : Rep K ρ H w y) (h : Post K Y W' ρ H (RV K) Q (ownEq g x y S)) : spOf K Y n g [v, w] H Q E0 := by
  unfold ownEq at h
  refine ⟨?_, ρ, [x, y], S, .cons rx (.cons ry .nil), hs, ?_⟩
  · by_cases hl : ([x, y] : List Val).length = n
    · exact hl
    · rw [har _ _ hl] at h; exact h.elim
  · split at h
    · rename_i b S1 e1
      rw [e1]; exact h
    · exact h.elim
theorem vEqO_ok {X : Cx} {Y : Sy} {C f : Addr} {cn : Str} {g : Fn} {n : Nat} (hK : Kls X.K Y) (har : Arity n g) (eo : EqO X.K Y C f) (hc : Y.cl cn = some C) : OpS X Y (rOr (rEqO X.K C (spOf X.K Y n g)) (rEqD X.K)) (vEqO cn g) := by
  intro W' ρ H S v w x y Q hs rx ry h
  unfold vEqO at h
  split at h
  · rename_i c fs e1
    split at h
    · rename_i hcn
      subst hcn
      obtain ⟨i, a, D, dx, gs, rfl, e2, rfl, hi, hC, ea, rk⟩ := insOf_rep hs rx e1
      rw [hc] at hC
      obtain rfl : C = D := Option.some.inj hC
      split at h
      · rename_i p ep
        obtain ⟨c2, fs2⟩ := p
        obtain ⟨i2, a2, D2, dx2, gs2, rfl, e22, rfl, hi2, hC2, ea2, rk2⟩ := insOf_rep hs ry ep
        have kl := hK c2 D2 hC2
        exact .inl ⟨a, dx, gs, .ref D2, rfl, ea, .base (.ins ea2 kl.cls kl.ca kl.gt kl.tk kl.mo), eo.own c2 D2 hC2, ownEq_post har hs rx ry h⟩
      · split at h
        · rename_i t et
          split at h
          · rename_i ht
            exact .inl ⟨a, dx, gs, .type t, rfl, ea, tyOf_rep hs ry et, eo.ty t ht, ownEq_post har hs rx ry h⟩
          · exact h.elim
        · exact h.elim
    · exact h.elim
  · exact .inr (vEq_ok W' ρ H S v w x y Q hs rx ry h)
section
variable {X : Cx} {Y : Sy} {W : WX} {C f : Addr} {cn : Str} {g : Fn} {n k kc : Nat} {fd : FuncData} {ps : List Str} {a b : Expr} {fa fb : En → Store → Out Val} {pos : Pos}
theorem se_eqO (cc : Cc X Y W kc) (hK : Kls X.K Y) (eo : EqO X.K Y C f) (hc : Y.cl cn = some C) (fo : FnOk X.prog X.w X.K X.mg X.base (L2.CX X.prog X.w) k f fd ps (spOf X.K Y n g)) (har : Arity n g) (hk : k ≤ kc) (bi : Binds X.K fd ps []) (ha : SE X Y W a fa) (hb : SE X Y W b fb) : SE X Y W (.Compare a [.Eq] [b] pos) (eB2 (vEqO cn g) fa fb) :=
  se_cmp (OpR.or2 (op_eqO eo fo (cc.room.mono hk) bi) (op_eqD cc.u64)) (vEqO_ok hK har eo hc) ha hb (nomark _)
theorem st_eqO (cc : Cc X Y W kc) (hK : Kls X.K Y) (eo : EqO X.K Y C f) (hc : Y.cl cn = some C) (fo : FnOk X.prog X.w X.K X.mg X.base (L2.CX X.prog X.w) k f fd ps (spOf X.K Y n g)) (har : Arity n g) (hk : k ≤ kc) (bi : Binds X.K fd ps []) (ha : SE X Y W a fa) (hb : SE X Y W b fb) : ST X Y W (.Compare a [.Eq] [b] pos) (bV (eB2 (vEqO cn g) fa fb)) :=
  st_cmp (OpR.or2 (op_eqO eo fo (cc.room.mono hk) bi) (op_eqD cc.u64)) (vEqO_ok hK har eo hc) ha hb (nomark _)
end
end Mp

set_option Elab.async false
set_option linter.all false
set_option maxRecDepth 100000
set_option maxHeartbeats 1000000
/-! enumerate over tuples and lists. -/
namespace Mp
open PySem PySem.Spec PyProof.Rows L2

theorem enum_new1 {v : Value} {o : Obj} {G : Heap → Prop} (B : Begins v o G) :
    Meets (Builtin.«enumerate.__new__» ⟨[.type "enumerate", v], []⟩) (fun _ R s => G s.heap ∧
      R (.ok (.ret (.ref (s.heap.push o).objs.size))) { s with heap := (s.heap.push o).push { cls := .type "enumerate", data := .fields #[.none, .bool false, .ref s.heap.objs.size, rawInt 0, .none, .none] } }) := by
  refine .of_wp fun prog w A R s h => ?_
  obtain ⟨u, gs, dr, tk, os⟩ := s
  obtain ⟨g1, h⟩ := h
  have sub := sub_enumerate
  have it1 : ∀ {A' : Around} {E : Value → Shared → Prop} {Q : Value → Shared → Prop}, Q (.ref u.objs.size) ⟨u.push o, gs, dr, tk, os⟩ → wpAny (model prog w) A' (pyIter v) Q E ⟨u, gs, dr, tk, os⟩ :=
    fun q => B.iter prog w _ _ ⟨u, gs, dr, tk, os⟩ _ g1 q
  wp_walk using it1
  refine wpAny_stack_any fun st => wpAny_pure ?_
  split
  · rename_i c _ _ _ _ _
    cases (c == Value.type "enumerate") <;> (wp_walk using it1; exact ⟨_, rfl, h⟩)
  · wp_walk using it1
    exact ⟨_, rfl, h⟩
theorem enum_call1 {prog : Program} {w : World} {A : Around} {E : Value → Shared → Prop} {s : Shared} {v : Value} {o : Obj} {G : Heap → Prop} {Q : Value → Shared → Prop} (B : Begins v o G) (g1 : G s.heap)
    (h : ∀ h', IsEnum h' (s.heap.objs.size + 1) s.heap.objs.size 0 .none → h'.get? s.heap.objs.size = some o → (∀ b o, s.heap.get? b = some o → h'.get? b = some o) → Q (.ref (s.heap.objs.size + 1)) { s with heap := h' }) :
    wpAny (model prog w) A (call (.type "enumerate") [v]) Q E s := by
  refine callType_new F.called_enumerate (by decide) (F.typeCall_enumerate_1 _) (F.newCall_enumerate_1 _) (fun obj => F.args_object_init_2 obj _) F.entry_enumerate_new (enum_new1 B) ⟨g1, ?_⟩
  have sz : (s.heap.push o).objs.size = s.heap.objs.size + 1 := Heap.size_push ..
  show _ ∧ _
  rw [sz]
  have en := Heap.get?_push_size (s.heap.push o) (o := { cls := .type "enumerate", data := .fields #[.none, .bool false, .ref s.heap.objs.size, rawInt 0, .none, .none] }) rfl
  rw [sz] at en
  exact ⟨⟨_, en, rfl⟩, h _ en (Heap.get?_push_of_some _ (Heap.get?_push_size _ B.free)) fun b o x => Heap.get?_push_of_some _ (Heap.get?_push_of_some _ x)⟩

/-- the tuple at a, each item in a new pair with its place -/
def ItE (K : PySem.W.Frag) (a : Addr) : It where
  go := fun i H => ∃ (xs : List V) (x : V), SqT K H a xs ∧ xs[i]? = some x
  yld := fun i H v H' => ∃ T x, v = .ref T ∧ H T = none ∧ H' = upd H T (.tup [.int (i : Nat), x]) ∧ ∀ xs, SqT K H a xs → xs[i]? = some x
  stop := fun i H => ∃ xs : List V, SqT K H a xs ∧ xs.length ≤ i
theorem turnE {P : Program} {w : World} {K : PySem.W.Frag} {elts : List Expr} {kk : Nat} {tpos : Pos} (a e it : Addr) :
    Turn P w K (.Tuple elts kk tpos) (ItE K a) [e, it] e (fun i h => (∃ old, IsEnum h e it ((i : Nat) : Int) old) ∧ h.IsTupleIter it a i ∧ e ≠ it) where
  mem := List.mem_cons_self
  obj := by
    rintro i h ⟨⟨old, he⟩, ⟨o, ho, hc, hd⟩, _⟩ b hb
    rcases List.mem_cons.mp hb with rfl | hb
    · exact ⟨_, he, fun v q => nomatch q⟩
    · obtain rfl := List.mem_singleton.mp hb
      exact ⟨o, ho, fun v q => by rw [hd] at q; cases q⟩
  keep := by
    rintro i h h' ⟨⟨old, he⟩, hi, hne⟩ k
    exact ⟨⟨old, k e (by simp) _ he⟩, hi.at fun o q => k it (by simp) o q, hne⟩
  item := by
    rintro X rfl rfl rfl hc i pins s σ H E I hf ⟨⟨old, he⟩, hit, hne⟩ ⟨xs, x, hq, hx⟩
    obtain ⟨its, rv, p, hz⟩ := I.tuple hq
    obtain ⟨u, hu, ru⟩ := rv.get hx
    have pt : s.heap.IsTuple a its.toArray := p
    have hit0 := hit
    have nae : e ≠ a := by
      rintro rfl
      obtain ⟨o, ho, hc', _⟩ := pt
      rw [he] at ho; cases ho; injection hc' with z; exact absurd z (by decide)
    have nai : a ≠ it := by
      rintro rfl
      obtain ⟨o, ho, hc', _⟩ := pt
      obtain ⟨o2, ho2, hc2, _⟩ := hit0
      rw [ho2] at ho; cases ho; rw [hc2] at hc'; injection hc' with z; exact absurd z (by decide)
    have hel : e < s.heap.objs.size := Heap.lt_size he
    have hil : it < s.heap.objs.size := by obtain ⟨_, q, _⟩ := hit; exact Heap.lt_size q
    have hil2 : i < its.toArray.size := by
      have := (List.getElem?_eq_some_iff.mp hu).1
      simpa using this
    refine wpAny_pyNext_enum_itemD (Draws.tuple (A := X.A.in1) (I.ok.hd hc) it a nai its.toArray) he ⟨hit, pt⟩ hil2 hne (by simp [hne, nae]) fun y h' tk hy ho st' hT hsz hk => ?_
    obtain rfl : y = u := by
      rw [show its.toArray[i]? = its[i]? from by simp] at hy
      rw [hu] at hy
      exact (Option.some.inj hy).symm
    refine ⟨_, rfl, wpAny_letOwnedTupleGo_enum (s := { s with heap := h', toks := tk + 1 }) ho fun h2 he2 sb => ?_⟩
    have at2 : h2.get? s.heap.objs.size = some { cls := .type "tuple", data := .seq #[.int i tk, y] } := (sb.2 _ (Nat.ne_of_gt hel)).trans hT
    have new : ObjOk X.prog X.w (upd H s.heap.objs.size (.tup [.int (i : Nat), x])) h2 s.heap.objs.size (.tup [.int (i : Nat), x]) :=
      ⟨by show 2 ≤ sizeLine; decide, [.int i tk, y], .cons ⟨_, rfl⟩ (.cons ru .nil), ⟨_, at2, rfl, _, rfl⟩⟩
    have I1 : Inv X pins σ (upd H s.heap.objs.size (.tup [.int (i : Nat), x])) { s with heap := h2, toks := tk + 1 } :=
      I.turnedNew (t' := tk + 1) (ch := [e, it]) (fun b ob hb q => (sb.2 b (fun z => hb (by simp [z]))).trans (hk b ob (fun z => hb (by simp [z])) (fun z => hb (by simp [z])) q)) hf (Nat.le_refl _) new
    refine ⟨.ref s.heap.objs.size, _, I1, rfl, ⟨_, x, rfl, I.hok.fresh (Nat.le_refl _), rfl, fun ys hy => by rw [I.tuple_inj hy hq]; exact hx⟩, ⟨⟨y, ?_⟩, st'.1.at fun o q => (sb.2 it (Ne.symm hne)).trans q, hne⟩, fun b hb => ?_⟩
    · rw [show ((i + 1 : Nat) : Int) = (i : Int) + 1 from by omega]; exact he2
    · have hb' : b < s.heap.objs.size := by
        rcases List.mem_cons.mp hb with rfl | z
        · exact hel
        · rw [List.mem_singleton.mp z]; exact hil
      rw [upd_ne (Nat.ne_of_lt hb')]
      exact (hf b hb).1
  done := by
    rintro X rfl rfl rfl hc i pins s σ H E I hf ⟨⟨old, he⟩, hit, hne⟩ ⟨xs, hq, hx⟩
    obtain ⟨its, rv, p, hz⟩ := I.tuple hq
    have pt : s.heap.IsTuple a its.toArray := p
    have hit0 := hit
    have nai : a ≠ it := by
      rintro rfl
      obtain ⟨o, ho, hc', _⟩ := pt
      obtain ⟨o2, ho2, hc2, _⟩ := hit0
      rw [ho2] at ho; cases ho; rw [hc2] at hc'; injection hc' with z; exact absurd z (by decide)
    obtain ⟨f0, f1, f2, f3, f4, f5⟩ := hf it (by simp)
    have hl := rv.length
    have D : Draws X.prog X.w X.A.in1 it [it, a] i (fun _ _ => False) (fun j h => j = i ∧ h.IsTupleIter it a i ∧ h.IsTuple a its.toArray) :=
      { live := fun j h st => let ⟨o, ho, _⟩ := st.2.1; ⟨o, ho⟩
        frame := fun j h h' st k => ⟨st.1, st.2.1.at fun o q => k it (by simp) o q, st.2.2.at fun o q => k a (by simp) o q⟩
        item := fun j s Q E lt st _ => absurd st.1 (Nat.ne_of_lt lt)
        done := fun s Q E st hE => wpAny_nextOf_tuple_end (I.ok.hd hc) st.2.1 st.2.2 (by simp; omega) hE }
    exact wpAny_pyNext_enum_endD D he ⟨rfl, hit, pt⟩ fun h' eb => ⟨rfl, I.turned (t' := s.toks) (fun b o hb q => eb b o hb q) f0 f1 f3 f4 f5⟩
  self := by
    rintro A i s Q E ⟨⟨_, he⟩, _⟩ h
    exact wpAny_pyIter_enum he h
def iEn (K : PySem.W.Frag) (ta : TA) : TI := fun σ H R => ta σ H fun vs H1 => ∃ a, vs = [.ref a] ∧ (((∃ xs, SqL K H1 a xs) ∧ R (Ite K a) H1) ∨ ((∃ xs, SqT K H1 a xs) ∧ R (ItE K a) H1))
theorem pi_en {X : Cx} {e : Expr} {ta : TA} {p pos tpos : Pos} {elts : List Expr} {kk : Nat} (hg : Gl X "enumerate") (hm : X.mg "enumerate" = none) (ha : PA X [e] ta) (hs : starEach [e] X.env = [(false, eval e X.env)] := by rfl) :
    PI X (.Tuple elts kk tpos) (.Call (.Name "enumerate" p) [e] [] pos) (iEn X.K ta) := by
  refine ⟨fun pins s σ H R I h => Call_ (ld_blt I hg hm boot_enumerate (PyProof.Rows.callWith_type1 (thn (ha.run pos pins s σ H _ I h) fun us s1 ⟨vs, H1, I1, r1, q1⟩ => ?_) hs rfl))⟩
  obtain ⟨a, rfl, q⟩ := q1
  obtain ⟨u, rfl, r⟩ : ∃ u, us = [u] ∧ RelV (.ref a) u := by cases r1 with | cons r rr => cases rr; exact ⟨_, rfl, r⟩
  obtain rfl : u = Value.ref a := r
  have fre : ∀ b ∈ [s1.heap.objs.size + 1, s1.heap.objs.size], FpOk X pins H1 b := fun b hb => by
    have hle : s1.heap.objs.size ≤ b := by
      rcases List.mem_cons.mp hb with rfl | z
      · exact Nat.le_succ _
      · rw [List.mem_singleton.mp z]; exact Nat.le_refl _
    exact I1.fpOk hle (I1.hok.fresh hle)
  rcases q with ⟨⟨xs, hq⟩, q⟩ | ⟨⟨xs, hq⟩, q⟩
  · obtain ⟨its, rv, p', hz⟩ := I1.list hq
    exact enum_call1 (begins_list a its.toArray) p'.isList fun h' he hit hk => wpAny_pyIter_enum he
      ⟨s1.heap.objs.size + 1, [s1.heap.objs.size + 1, s1.heap.objs.size], _, _, H1, rfl, I1.kept (t' := s1.toks) hk, turn_enum a (s1.heap.objs.size + 1) s1.heap.objs.size, ⟨⟨.none, he⟩, ⟨_, hit, rfl, rfl⟩, Nat.succ_ne_self _⟩, fre, q⟩
  · obtain ⟨its, rv, p', hz⟩ := I1.tuple hq
    exact enum_call1 (begins_tuple a its.toArray) (show s1.heap.IsTuple a its.toArray from p') fun h' he hit hk => wpAny_pyIter_enum he
      ⟨s1.heap.objs.size + 1, [s1.heap.objs.size + 1, s1.heap.objs.size], _, _, H1, rfl, I1.kept (t' := s1.toks) hk, turnE a (s1.heap.objs.size + 1) s1.heap.objs.size, ⟨⟨.none, he⟩, ⟨_, hit, rfl, rfl⟩, Nat.succ_ne_self _⟩, fre, q⟩
def enumL (xs : List Val) : List Val := xs.mapIdx fun i x => .tup [.int (i : Nat), x]
theorem enumL_length (xs : List Val) : (enumL xs).length = xs.length := by simp [enumL]
def enumOf (p : Itm) : Itm := (enumL p.1, p.2)
def iEnS (fa : En → Store → Out (List Val)) : En → Store → Out Itm := fun env S => (fa env S).bind fun xs S1 => match xs with
  | [x] => (match walkOf S1 x with
    | some p => .ok (enumOf p) S1
    | none => .bad)
  | _ => .bad
section
variable {K : PySem.W.Frag} {Y : Sy} {ρ : List Addr} {H : Hp}
theorem enum_step {ρ' : List Addr} {H1 : Hp} {S : Store} {i : Nat} {T : Addr} {x : V} {xs : List Val} {vs : List V} (s : Sim K Y ρ' H1 S) (r : Reps K ρ' H1 vs xs) (hT : H1 T = none) (hx : vs[i]? = some x) :
    ∃ z, (enumL xs)[i]? = some z ∧ Ext H1 (upd H1 T (.tup [.int (i : Nat), x])) ∧ Sim K Y ρ' (upd H1 T (.tup [.int (i : Nat), x])) S ∧ Rep K ρ' (upd H1 T (.tup [.int (i : Nat), x])) (.ref T) z := by
  obtain ⟨y, ey, ry⟩ := r.getV hx
  have en := Ext.new (o := .tup [.int (i : Nat), x]) hT
  exact ⟨.tup [.int (i : Nat), y], by simp [enumL, ey], en, s.other hT, .tup upd_same (.cons (.int _) (.cons (ry.up (Pre.refl _) en) .nil))⟩
theorem JRep.enT {a : Addr} {vs : List V} {xs : List Val} (e : H a = some (.tup vs)) (r : Reps K ρ H vs xs) : JRep K Y ρ H (ItE K a) (enumL xs, fun _ => True) := by
  have key : ∀ ρ' H', Pre ρ ρ' → Ext H H' → SqT K H' a vs ∧ Reps K ρ' H' vs xs := fun ρ' H' p q => ⟨SqT.of (q _ _ trivial e), r.up p q⟩
  refine ⟨fun i ρ' H' S p q s _ hi => ?_, fun i ρ' H' S p q s _ hi => ?_, fun i ρ' H' S v H2 p q s _ hi hy => ?_⟩
  · obtain ⟨h1, h2⟩ := key ρ' H' p q
    have hl : i < vs.length := by rw [h2.length]; simpa [enumL] using hi
    exact ⟨vs, vs[i], h1, List.getElem?_eq_getElem hl⟩
  · obtain ⟨h1, h2⟩ := key ρ' H' p q
    exact ⟨vs, h1, by rw [h2.length]; simpa [enumL] using hi⟩
  · obtain ⟨h1, h2⟩ := key ρ' H' p q
    obtain ⟨T, x, rfl, hT, rfl, hv⟩ := hy
    exact enum_step s h2 hT (hv vs h1)
theorem JRep.enF {a : Addr} {vs : List V} {xs : List Val} (e : Fzl K H a vs) (r : Reps K ρ H vs xs) : JRep K Y ρ H (Ite K a) (enumL xs, fun _ => True) := by
  have key : ∀ ρ' H', Pre ρ ρ' → Ext H H' → SqL K H' a vs ∧ Reps K ρ' H' vs xs := fun ρ' H' p q => ⟨(e.up q).sq, r.up p q⟩
  refine ⟨fun i ρ' H' S p q s _ hi => ?_, fun i ρ' H' S p q s _ hi => ?_, fun i ρ' H' S v H2 p q s _ hi hy => ?_⟩
  · obtain ⟨h1, h2⟩ := key ρ' H' p q
    have hl : i < vs.length := by rw [h2.length]; simpa [enumL] using hi
    exact ⟨vs, vs[i], h1, List.getElem?_eq_getElem hl⟩
  · obtain ⟨h1, h2⟩ := key ρ' H' p q
    exact ⟨vs, h1, by rw [h2.length]; simpa [enumL] using hi⟩
  · obtain ⟨h1, h2⟩ := key ρ' H' p q
    obtain ⟨T, x, rfl, hT, rfl, hv⟩ := hy
    exact enum_step s h2 hT (hv vs h1)
theorem JRep.enL {a : Addr} {n : Nat} {xs : List Val} (hn : ρ[n]? = some a) : JRep K Y ρ H (Ite K a) (enumL xs, fun S => S[n]? = some (.lst xs)) := by
  have key : ∀ ρ' H' S, Pre ρ ρ' → Sim K Y ρ' H' S → S[n]? = some (.lst xs) → ∃ vs, SqL K H' a vs ∧ Reps K ρ' H' vs xs := fun ρ' H' S p s c => by
    obtain ⟨vs, e, r⟩ := s.lst (p _ _ hn) c
    exact ⟨vs, SqL.of e, r⟩
  refine ⟨fun i ρ' H' S p q s c hi => ?_, fun i ρ' H' S p q s c hi => ?_, fun i ρ' H' S v H2 p q s c hi hy => ?_⟩
  · obtain ⟨vs, h1, h2⟩ := key ρ' H' S p s c
    have hl : i < vs.length := by rw [h2.length]; simpa [enumL] using hi
    exact ⟨vs, vs[i], h1, List.getElem?_eq_getElem hl⟩
  · obtain ⟨vs, h1, h2⟩ := key ρ' H' S p s c
    exact ⟨vs, h1, by rw [h2.length]; simpa [enumL] using hi⟩
  · obtain ⟨vs, h1, h2⟩ := key ρ' H' S p s c
    obtain ⟨T, x, rfl, hT, rfl, hv⟩ := hy
    exact enum_step s h2 hT (hv vs h1)
end
theorem enumOf_rep {K : PySem.W.Frag} {Y : Sy} {ρ : List Addr} {H : Hp} {S : Store} {v : V} {x : Val} {p : Itm} (hs : Sim K Y ρ H S) (r : Rep K ρ H v x) (h : walkOf S x = some p) :
    ∃ a, v = .ref a ∧ (((∃ vs, SqL K H a vs) ∧ JRep K Y ρ H (Ite K a) (enumOf p)) ∨ ((∃ vs, SqT K H a vs) ∧ JRep K Y ρ H (ItE K a) (enumOf p))) := by
  cases r <;> try (simp [walkOf] at h; done)
  case tup a vs xs e r => cases h; exact ⟨a, rfl, .inr ⟨⟨vs, SqT.of e⟩, JRep.enT e r⟩⟩
  case frz a vs xs e r => cases h; exact ⟨a, rfl, .inl ⟨⟨vs, e.sq⟩, JRep.enF e r⟩⟩
  case ref a i hi =>
    simp only [walkOf] at h
    split at h
    · rename_i xs e
      cases h
      obtain ⟨vs, e2, r2⟩ := hs.lst hi e
      exact ⟨a, rfl, .inl ⟨⟨vs, SqL.of e2⟩, JRep.enL hi⟩⟩
    · cases h
theorem si_enum {X : Cx} {Y : Sy} {W : WX} {e : Expr} {fa : En → Store → Out (List Val)} {p pos tpos : Pos} {elts : List Expr} {kk : Nat} (hg : Gl X "enumerate") (hm : X.mg "enumerate" = none) (ha : SA X Y W [e] fa) (hs : starEach [e] X.env = [(false, eval e X.env)] := by rfl) :
    SI X Y W (.Tuple elts kk tpos) (.Call (.Name "enumerate" p) [e] [] pos) (iEnS fa) := by
  refine PI.imp (pi_en hg hm ha hs) fun σ H R h => ?_
  refine tG.bind (k := fun _ xs S1 => match xs with | [x] => (match walkOf S1 x with | some p => Out.ok (enumOf p) S1 | none => Out.bad) | _ => Out.bad) h fun ρ env vs xs H1 S1 he hs rx hp => ?_
  split at hp
  · rename_i x
    obtain ⟨v, rfl, r⟩ := reps1 rx
    split at hp
    · rename_i p ep
      obtain ⟨a, rfl, hh⟩ := enumOf_rep hs r ep
      refine ⟨a, rfl, ?_⟩
      rcases hh with ⟨h1, h2⟩ | ⟨h1, h2⟩
      · exact .inl ⟨h1, hp _ ρ H1 (Pre.refl _) (Ext.refl _) hs h2⟩
      · exact .inr ⟨h1, hp _ ρ H1 (Pre.refl _) (Ext.refl _) hs h2⟩
    · exact hp.elim
  · exact hp.elim
end Mp

set_option Elab.async false
set_option linter.all false
set_option maxRecDepth 100000
set_option maxHeartbeats 1000000
/-! Dict comprehensions (any keys), list(d.keys()), len(set(ints)). -/
namespace Mp
open PySem PySem.Spec PyProof.Rows L2

/-- a pair comes into the new dict -/
theorem dput_set {X : Cx} {pins : List (Addr × Obj)} {σ : L2.St} {J J2 : Hp} {s0 : Shared} {E : Value → Shared → Prop} {D : Addr} {y z : V} {u r : Value} {Q : Unit → Shared → Prop} (hu : X.A.units + 1 < cLine) (iv : Inv X pins σ J s0) (g : DPut J D y z J2)
    (ry : RelV y u) (rz : RelV z r) (h : ∀ s', Inv X pins σ J2 s' → Q () s') : wpAny (model X.prog X.w) X.A (dictSet D u r) Q E s0 := by
  rcases g with ⟨kvs, k, e, rfl, l, rfl⟩ | ⟨kvs, k, b, e, rfl, eb, l, rfl⟩
  · exact d_dictSet iv e l ry rz h
  · obtain rfl : u = Value.ref b := ry
    obtain ⟨z0, lo, xs, kt, dd⟩ := dt_of iv.hok e
    have len : xs.length ≤ sizeLine := by rw [← Paired.length kt]; exact z0
    have len2 : (putK kvs k z).length ≤ sizeLine := by have := length_putK kvs k z; omega
    refine wpAny_dictSet_heap (hsz := len) (show X.A.units < cLine by omega) (key_of iv.hok eb) dd fun h2 dd2 sb => h _ ?_
    obtain ⟨q, es, ep, at_, x1, x2, x3, _, x5⟩ := dd2
    refine d_write iv (by rw [e]; exact True.intro) sb ⟨q, at_⟩ ⟨len2, lo, _, (kt.put k eb rz).keeps fun c ys ec => ?_, q, es, ep, at_, x1, x2, x3, x5⟩
    rw [upd_ne (ne_of ec e fun z => nomatch z)]
    exact ec
/-- a new dict -/
inductive NewD : HO → Prop
  | k : NewD (.dK [])
  | t : NewD (.dT [])
def tDm (emp : HO) (wi : TI) (g : TG) (tt : TT) (tk tv : TE) (vs : List Nat) : TE := fun σ H Q => wi σ H fun J H1 => ∀ D, H1 D = none → ∃ U : Nat → Nat → Hp → Prop, (∃ m, U 0 m (upd H1 D emp)) ∧ ∀ i m H, U i m H →
  (J.stop i H ∧ Q (.ref D) H) ∨ (J.go i H ∧ ∃ Z : Hp → Prop, (∀ H', Z H' → ∃ m', m' < m ∧ U (i + 1) m' H') ∧ ∀ x H', J.yld i H x H' → g x (wipe σ vs) H' fun σ2 H2 => wipe σ2 vs = wipe σ vs ∧ tt σ2 H2 fun b H3 =>
    if b = true then tk σ2 H3 fun y H4 => tv σ2 H4 fun z H5 => ∃ H6, DPut H5 D y z H6 ∧ Z H6 else Z H3)
theorem pe_dm {X : Cx} {emp : HO} {kx vx tg iter : Expr} {ifs : List Expr} {scope : Scope} {own : List (Str × Nat)} {pos : Pos} {wi : TI} {g : TG} {tt : TT} {tk tv : TE} (hemp : NewD emp) (hu : X.A.units + 1 < cLine) (hc : X.calm = true) (nd : X.N.Nodup) (wk : PI X tg iter wi) (ok : BlkOk X.N X.env.scope scope own)
    (pg : ∀ (s : Shared) (H : Hp) (C : Addr) (cl : List (Str × Addr)) (fp : List Addr), PG (X.blk s H scope (compEnvC scope cl C X.env) fp) tg g) (pt : ∀ (s : Shared) (H : Hp) (C : Addr) (cl : List (Str × Addr)) (fp : List Addr), PTs (X.blk s H scope (compEnvC scope cl C X.env) fp) ifs tt)
    (pk : ∀ (s : Shared) (H : Hp) (C : Addr) (cl : List (Str × Addr)) (fp : List Addr), PE (X.blk s H scope (compEnvC scope cl C X.env) fp) kx tk)
    (pv : ∀ (s : Shared) (H : Hp) (C : Addr) (cl : List (Str × Addr)) (fp : List Addr), PE (X.blk s H scope (compEnvC scope cl C X.env) fp) vx tv) (hs : ∀ x, foldedSetIterable iter X.env x = pure x := by intro _; rfl) :
    PE X (.DictComp kx vx [⟨tg, iter, ifs, 0⟩] scope pos) (tDm emp wi g tt tk tv (own.map (·.2))) := by
  refine ⟨fun pins s σ H Q iv h => ?_⟩
  rw [arm_eval_DictComp]
  have fr : ∀ y ∈ scope.names, y.2 = .free → ∃ c, X.env.cells.lookup y.1 = some c := fun y hy e => (ok.free y hy e).elim (fun k => iv.ok.has _ (.inl k)) fun k => iv.ok.has _ (.inr k)
  refine wpAny_comprehension_free rfl hs (closure_ok fr) ok.kind (fun y hy e => by rw [ok.uniq y hy, e]) (thn (wk.run pins s σ H _ iv h) fun xv t1 hx => thn hx fun itv t2 h2 => ?_)
  obtain ⟨it, fp, tn, J, J2, rfl, iv2, tr, at0, f2, q⟩ := h2
  refine wpAny_newObj_type (newEnv_comp ?_)
  generalize hD : t2.heap.objs.size = D
  have freeD : J2 D = none := iv2.hok.fresh (Nat.le_of_eq hD)
  obtain ⟨U, ⟨m0, u0⟩, turn⟩ := q D freeD
  have okD : ∀ J', ObjOk X.prog X.w J' (t2.heap.push { cls := .type "dict", data := .dict #[] }) D emp := fun J' => by
    rw [← hD]
    cases hemp
    · exact dk_empty t2.heap iv2.big
    · exact dt_empty t2.heap iv2.big
  generalize ht3 : ({ t2 with heap := t2.heap.push { cls := .type "dict", data := .dict #[] } } : Shared) = t3
  have hp3 : t3.heap = t2.heap.push { cls := .type "dict", data := .dict #[] } := by rw [← ht3]
  have iv3 : Inv X pins σ (upd J2 D emp) t3 := by
    rw [← ht3]
    exact iv2.laid (t' := t2.toks) (fun b o e => Heap.get?_push_of_some _ e) (Nat.le_of_eq hD) (okD _)
  have below : ∀ b ∈ fp, b < t2.heap.objs.size := fun b hb => let ⟨o, e, _⟩ := tr.obj _ _ at0 b hb; Heap.lt_size e
  have f3 : ∀ b ∈ fp, FpOk X pins (upd J2 D emp) b ∧ b < t3.heap.objs.size := fun b hb => by
    have lt := below b hb
    refine ⟨⟨?_, (f2 b hb).2⟩, by rw [hp3, Heap.size_push]; exact Nat.lt_succ_of_lt lt⟩
    rw [upd_ne (by rw [← hD]; exact Nat.ne_of_lt lt)]
    exact (f2 b hb).1
  have at3 : tn 0 t3.heap := tr.keep _ _ _ at0 fun b _ o e => by rw [hp3]; exact Heap.get?_push_of_some _ e
  have iv4 := block_start iv3 ok nd f3
  let cl := cellsFrom (t3.heap.objs.size + 1) scope.names (cloFrom X.env.cells scope.names [])
  have bg := pg t3 (upd J2 D emp) t3.heap.objs.size cl fp
  have bt := pt t3 (upd J2 D emp) t3.heap.objs.size cl fp
  have bk := pk t3 (upd J2 D emp) t3.heap.objs.size cl fp
  have bv := pv t3 (upd J2 D emp) t3.heap.objs.size cl fp
  let RR : Addr → Result → Shared → Prop := fun C => compPost (model X.prog X.w) X.A X.xe none (EP X pins σ Q) (.ref D) C
  show codeAny _ _ (.compStart (.DictComp kx vx [⟨tg, iter, ifs, 0⟩] scope pos) 0 (.ref it) (.ref D) (compEnvC scope cl t3.heap.objs.size X.env)) (RR t3.heap.objs.size) { t3 with heap := pushCells (t3.heap.push { cls := .type "dict", data := .dict #[] }) scope.names }
  have nofp : ∀ b ∈ fp, (upd J2 D emp) b = none := fun b hb => (f3 b hb).1.1
  change Inv (X.blk t3 (upd J2 D emp) scope (compEnvC scope cl t3.heap.objs.size X.env) fp) [] _ _ _ at iv4
  generalize hce : compEnvC scope cl t3.heap.objs.size X.env = ce at iv4 bg bt bk bv ⊢
  have cL : ce.locals = t3.heap.objs.size := by subst hce; rfl
  generalize hJ3 : upd J2 D emp = J3 at iv3 iv4 bg bt bk bv u0 nofp f3
  generalize ht4 : ({ t3 with heap := pushCells (t3.heap.push { cls := .type "dict", data := .dict #[] }) scope.names } : Shared) = t4 at iv4 ⊢
  have at4 : tn 0 t4.heap := tr.keep _ _ _ at3 fun b _ o e => by rw [← ht4]; exact pushCells_keeps _ _ _ _ (Heap.get?_push_of_some _ e)
  have fps : ∀ {σ' : L2.St} {J' : Hp} {t' : Shared}, Inv (X.blk t3 J3 scope ce fp) [] σ' J' t' → (∀ b ∈ fp, J' b = none) → ∀ b ∈ fp, FpOk (X.blk t3 J3 scope ce fp) [] J' b := fun {σ' J' t'} iv' hn b hb =>
    ⟨hn b hb, (iv'.ok.exf b hb).1, iv'.ok.exfs b hb, .inl hb, fun x c e => (iv'.ok.exf b hb).2 x c e, fun p hp => absurd (show p ∈ ([] : List (Addr × Obj)) ++ [] from hp) (by simp)⟩
  let wv := wipe σ (own.map (·.2))
  let INV : Nat → Shared → Prop := fun n t' => ∃ i J', Inv (X.blk t3 J3 scope ce fp) [] wv J' t' ∧ tn i t'.heap ∧ (∀ b ∈ fp, J' b = none) ∧ U i n J'
  have loop : codeAny (model X.prog X.w) X.A (.compLoop (.DictComp kx vx [⟨tg, iter, ifs, 0⟩] scope pos) 0 (.ref it) (.ref D) ce) (RR t3.heap.objs.size) t4 := by
    refine compLoop_anyD INV ?_ m0 ⟨0, J3, iv4, at4, nofp, u0⟩
    rintro n t5 ⟨i, J5, iv5, at5, n5, u5⟩
    rcases turn i n J5 u5 with ⟨stop, qq⟩ | ⟨go, Z, hZ, step⟩
    · refine thnF (tr.done (X.blk t3 J3 scope ce fp) rfl rfl rfl hc i [] t5 _ J5 (fun _ _ => False) iv5 (fps iv5 n5) at5 stop) fun r t6 ⟨hr, iv6⟩ => ?_
      subst hr
      have iv7 : Inv X pins σ J5 t6 := iv3.call' (ch := fp) iv6.os iv6.base iv6.hok iv6.bare fun b hb => ⟨(f3 b hb).1.2.2.2.1, (f3 b hb).1.2.1, (f3 b hb).1.2.2.2.2.1, (f3 b hb).1.2.2.2.2.2⟩
      have nC : J5 t3.heap.objs.size = none := by rw [← cL]; exact iv6.free
      obtain ⟨m, hn, _⟩ := iv6.loc
      have hn2 : t6.heap.Ns ce.locals m := hn
      rw [cL] at hn2
      obtain ⟨z0, z1, z2, z3, z4, z5⟩ := iv3.fpOk (Nat.le_refl _) nC
      exact ⟨m, hn2, fun h'' sb => ⟨.ref D, J5, iv7.turned (t' := t6.toks) (fun b o hb e => (sb.2 b hb).trans e) z0 z1 z3 z4 z5, rfl, qq⟩⟩
    · refine thnF (tr.item (X.blk t3 J3 scope ce fp) rfl rfl rfl hc i [] t5 _ J5 (fun _ _ => False) iv5 (fps iv5 n5) at5 go) fun r t6 ⟨u, hr, h6⟩ => ?_
      subst hr
      refine thnF h6 fun _ t7 ⟨x, J7, iv7, r7, y7, at7, n7⟩ => ?_
      refine thnF (bg.run _ t7 _ J7 x u _ (iv7.pinned (fps iv7 n7) (tr.obj _ _ at7)) r7 (step x J7 y7)) fun _ t8 ⟨σ8, J8, iv8, hw8, q8⟩ => ?_
      refine thnF (bt.run _ t8 σ8 J8 _ iv8 q8) fun b t9 ⟨J9, iv9, q9⟩ => ?_
      have fin : ∀ {t' : Shared} {J' : Hp}, Inv (X.blk t3 J3 scope ce fp) ([] ++ pinsAt fp t7.heap) σ8 J' t' → Z J' → ∃ m, m < n ∧ INV m t' := fun {t' J'} iv' nx => by
        obtain ⟨m', hm, u'⟩ := hZ J' nx
        have pin' : ∀ b ∈ fp, ∀ o, t7.heap.get? b = some o → t'.heap.get? b = some o ∧ J' b = none := fun b hb o e =>
          let z := iv'.pin (b, o) (List.mem_append_right _ (List.mem_append_right _ (mem_pinsAt hb e)))
          ⟨z.1, z.2.1⟩
        refine ⟨m', hm, i + 1, J', (iv'.unpinned (pins := [])).weak (by show (wipe σ (own.map (·.2))).length = _; rw [← hw8, wipe_length]) (fun j v e => (wipe_some (vs := own.map (·.2)) (by rw [hw8]; exact e)).1), tr.keep _ _ _ at7 fun b hb o e => (pin' b hb o e).1, fun b hb => ?_, u'⟩
        obtain ⟨o, e, _⟩ := tr.obj _ _ at7 b hb
        exact (pin' b hb o e).2
      cases b with
      | false =>
        simp only [Bool.false_eq_true, if_false] at q9 ⊢
        exact fin iv9 q9
      | true =>
        simp only [if_true] at q9 ⊢
        refine thnF (bk.run _ t9 σ8 J9 _ iv9 q9) fun z t10 ⟨yk, J10, iv10, r10, q10⟩ => ?_
        refine thnF (bv.run _ t10 σ8 J10 _ iv10 q10) fun z2 t11 ⟨yv, J11, iv11, r11, J12, hp12, nx⟩ => ?_
        exact dput_set (X := X.blk t3 J3 scope ce fp) hu iv11 hp12 r10 r11 fun t12 iv12 => fin iv12 nx
  exact codeAny_compStart_dict loop (tr.self X.A 0 _ _ _ at4 loop)
def isD (S : Store) (n : Nat) : Bool := match S[n]? with
  | some (.dk _) => true
  | some (.dt _) => true
  | _ => false
open Classical in
noncomputable def dcX (ck : Store → Prop) (t : Tgt) (tst : En → Store → Out Bool) (ek ev : En → Store → Out Val) (n : Nat) (env : En) : List Val → Store → Out Val
  | [], S => if ck S then .ok (.ref n) S else .bad
  | x :: r, S => if ck S then (match t x env with
    | none => .bad
    | some e => (tst e S).tie fun b S1 => if b = true then (ek e S1).tie fun k S2 => (ev e S2).tie fun y S3 => if isD S3 n = true then (match putIx (.ref n) k y S3 with
        | some S4 => dcX ck t tst ek ev n env r S4
        | none => .bad) else .bad
      else dcX ck t tst ek ev n env r S1) else .bad
def emO : Bool → Ob
  | true => .dt []
  | false => .dk []
def emH : Bool → HO
  | true => .dT []
  | false => .dK []
noncomputable def eDc (tp : Bool) (fi : En → Store → Out Itm) (t : Tgt) (tst : En → Store → Out Bool) (ek ev : En → Store → Out Val) (vs : List Nat) : En → Store → Out Val := fun env S =>
  (fi env S).bind fun p S1 => dcX p.2 t tst ek ev S1.length (wipeE env vs) p.1 (S1 ++ [emO tp])
theorem emRep {K : PySem.W.Frag} {Y : Sy} {ρ : List Addr} {H : Hp} {a : Addr} (tp : Bool) : ObRep K Y ρ (upd H a (emH tp)) a (emO tp) := by
  cases tp
  · exact ⟨[], upd_same, .nil⟩
  · exact ⟨[], upd_same, .nil⟩
theorem putIx_dict {K : PySem.W.Frag} {Y : Sy} {ρ : List Addr} {H : Hp} {S S' : Store} {a : Addr} {i v : V} {n : Nat} {j y : Val} {Q : Hp → Prop} (hs : Sim K Y ρ H S) (hn : ρ[n]? = some a) (hd : isD S n = true) (ri : Rep K ρ H i j) (rv : Rep K ρ H v y) (h : putIx (.ref n) j y S = some S')
    (q : ∀ H', Ext H H' → Sim K Y ρ H' S' → Q H') : ∃ H', DPut H a i v H' ∧ Q H' := by
  rcases putIx_ok hs (.ref hn) ri rv h q with hl | ⟨b, H', e, g, q'⟩
  · exfalso
    obtain ⟨b, ws, m, z, e, _, ew, _⟩ := hl
    cases e
    unfold isD at hd
    split at hd
    · rename_i kvs ex
      obtain ⟨w2, e2, _⟩ := hs.dk hn ex
      rw [e2] at ew; cases ew
    · rename_i kvs ex
      obtain ⟨w2, e2, _⟩ := hs.dt hn ex
      rw [e2] at ew; cases ew
    · cases hd
  · cases e
    exact ⟨H', g, q'⟩
section
variable {X : Cx} {Y : Sy} {W : WX} {k : Nat}
theorem tDm_of {tp : Bool} {fi : En → Store → Out Itm} {t : Tgt} {tst : En → Store → Out Bool} {ek ev : En → Store → Out Val} {vs L : List Nat} {σ : L2.St} {H : Hp} {Q : VK} (hx : Y.xi = none) (hL : ∀ i ∈ L, i ∈ vs)
    (h : tG X.K Y W (RV X.K) (eDc tp fi t tst ek ev vs) σ H Q) : tDm (emH tp) (tG X.K Y W (RJ X.K Y) fi) (tTg X.K Y L t) (tG X.K Y W0 RB tst) (tG X.K Y W0 (RV X.K) ek) (tG X.K Y W0 (RV X.K) ev) vs σ H Q := by
  refine tG.bind (k := fun env (p : Itm) S1 => dcX p.2 t tst ek ev S1.length (wipeE env vs) p.1 (S1 ++ [emO tp])) h fun ρ0 env J p H1 S0 he0 hs0 rj hp0 => ?_
  intro D hD
  have hs1 : Sim X.K Y (ρ0 ++ [D]) (upd H1 D (emH tp)) (S0 ++ [emO tp]) := hs0.new hD (emRep tp)
  have hDn : (ρ0 ++ [D])[S0.length]? = some D := by rw [← hs0.len]; simp
  refine ⟨fun i m H' => ∃ ρ S, m = p.1.length - i ∧ i ≤ p.1.length ∧ Pre (ρ0 ++ [D]) ρ ∧ Ext (upd H1 D (emH tp)) H' ∧ Sim X.K Y ρ H' S ∧ Post X.K Y (fun cls d H' => W cls d σ H') ρ H' (RV X.K) Q (dcX p.2 t tst ek ev S0.length (wipeE env vs) (p.1.drop i) S),
    ⟨_, ρ0 ++ [D], _, rfl, Nat.zero_le _, Pre.refl _, Ext.refl _, hs1, Post.up (Pre.snoc _ _) (Ext.new hD) hp0⟩, fun i m H2 hw => ?_⟩
  obtain ⟨ρ, S, rfl, hi, pr, ex, hs, hp⟩ := hw
  have pr0 : Pre ρ0 ρ := (Pre.snoc _ _).trans pr
  have ex0 : Ext H1 H2 := (Ext.new hD).trans ex
  by_cases hlt : i < p.1.length
  · have ed : p.1.drop i = p.1[i] :: p.1.drop (i + 1) := List.drop_eq_getElem_cons hlt
    rw [ed] at hp
    simp only [dcX] at hp
    split at hp
    · rename_i hck
      refine .inr ⟨rj.go i ρ H2 S pr0 ex0 hs hck hlt, fun H' => ∃ ρ S, Pre (ρ0 ++ [D]) ρ ∧ Ext (upd H1 D (emH tp)) H' ∧ Sim X.K Y ρ H' S ∧ Post X.K Y (fun cls d H' => W cls d σ H') ρ H' (RV X.K) Q (dcX p.2 t tst ek ev S0.length (wipeE env vs) (p.1.drop (i + 1)) S), fun H' hn => ?_, fun v H' hy => ?_⟩
      · obtain ⟨ρ', S', a1, a2, a3, a4⟩ := hn
        exact ⟨p.1.length - (i + 1), by omega, ρ', S', rfl, by omega, a1, a2, a3, a4⟩
      · obtain ⟨x, ex1, ex2, hs2, rx⟩ := rj.yl i ρ H2 S v H' pr0 ex0 hs hck hlt hy
        have exx : p.1[i] = x := by
          rw [List.getElem?_eq_getElem hlt] at ex1
          exact Option.some.inj ex1
        rw [exx] at hp
        split at hp
        · exact hp.elim
        · rename_i e1 te
          have he' : ERep X.K Y ρ H' (L2.wipe σ vs) (wipeE env vs) := ((he0.up pr0 (ex0.trans ex2)).wipe hx vs)
          refine ⟨ρ, wipeE env vs, x, e1, he', rx, te, fun σ2 he2 sb => ⟨wipe_same sb hL, ?_⟩⟩
          refine ⟨ρ, e1, S, he2, hs2, ?_⟩
          have exD : Ext (upd H1 D (emH tp)) H' := ex.trans ex2
          generalize hgt : tst e1 S = ot at hp
          cases ot with
          | bad => exact hp.elim
          | err c fs S1 => exact hp.elim
          | ok b S1 =>
            intro b' ρ3 H3 p3 q3 s3 rb
            obtain rfl : b' = b := rb
            simp only [Out.tie] at hp
            cases b' with
            | false => exact iteF ⟨ρ3, S1, pr.trans p3, exD.trans q3, s3, Post.up p3 (ex2.trans q3) hp⟩
            | true =>
              refine iteT ?_
              rw [if_pos rfl] at hp
              refine ⟨ρ3, e1, S1, he2.up p3 q3, s3, ?_⟩
              generalize hgk : ek e1 S1 = okk at hp
              cases okk with
              | bad => exact hp.elim
              | err c fs S2 => exact hp.elim
              | ok kk S2 =>
                intro vk ρ4 H4 p4 q4 s4 r4
                refine ⟨ρ4, e1, S2, (he2.up p3 q3).up p4 q4, s4, ?_⟩
                dsimp only at hp
                generalize hge : ev e1 S2 = oe at hp
                cases oe with
                | bad => exact hp.elim
                | err c fs S3 => exact hp.elim
                | ok y S3 =>
                  intro v5 ρ5 H5 p5 q5 s5 r5
                  dsimp only at hp
                  split at hp
                  · rename_i hd
                    split at hp
                    · rename_i S4 e4
                      have hDi : ρ5[S0.length]? = some D := p5 _ _ (p4 _ _ (p3 _ _ (pr _ _ hDn)))
                      refine putIx_dict (Q := fun H' => ∃ ρ S, Pre (ρ0 ++ [D]) ρ ∧ Ext (upd H1 D (emH tp)) H' ∧ Sim X.K Y ρ H' S ∧ Post X.K Y (fun cls d H' => W cls d σ H') ρ H' (RV X.K) Q (dcX p.2 t tst ek ev S0.length (wipeE env vs) (p.1.drop (i + 1)) S)) s5 hDi hd (r4.up p5 q5) r5 e4 fun H6 e6 s6 => ?_
                      exact ⟨ρ5, S4, pr.trans (p3.trans (p4.trans p5)), exD.trans ((q3.trans (q4.trans q5)).trans e6), s6, Post.up (p3.trans (p4.trans p5)) ((ex2.trans (q3.trans (q4.trans q5))).trans e6) hp⟩
                    · exact hp.elim
                  · exact hp.elim
    · exact hp.elim
  · have ed : p.1.drop i = [] := List.drop_eq_nil_of_le (by omega)
    rw [ed] at hp
    simp only [dcX] at hp
    split at hp
    · rename_i hck
      exact .inl ⟨rj.st i ρ H2 S pr0 ex0 hs hck (by omega), hp _ ρ H2 (Pre.refl _) (Ext.refl _) hs (.ref (pr _ _ hDn))⟩
    · exact hp.elim
theorem emH_new (tp : Bool) : NewD (emH tp) := by
  cases tp
  · exact .k
  · exact .t
theorem se_dc (tp : Bool) {kx vx tg iter : Expr} {ifs : List Expr} {scope : Scope} {own : List (Str × Nat)} {pos : Pos} {fi : En → Store → Out Itm} {t : Tgt} {tst : En → Store → Out Bool} {ek ev : En → Store → Out Val} {L : List Nat} (c : Cc X Y W k) (hi : SI X Y W tg iter fi) (ok : BlkOk X.N X.env.scope scope own) (hL : ∀ i ∈ L, i ∈ own.map (·.2))
    (hg : ∀ (s : Shared) (H : Hp) (C : Addr) (cl : List (Str × Addr)) (fp : List Addr), Cc (X.blk s H scope (compEnvC scope cl C X.env) fp) Y W0 k → SG (X.blk s H scope (compEnvC scope cl C X.env) fp) Y tg L t)
    (ht : ∀ (s : Shared) (H : Hp) (C : Addr) (cl : List (Str × Addr)) (fp : List Addr), Cc (X.blk s H scope (compEnvC scope cl C X.env) fp) Y W0 k → SPt (X.blk s H scope (compEnvC scope cl C X.env) fp) Y ifs tst)
    (hk : ∀ (s : Shared) (H : Hp) (C : Addr) (cl : List (Str × Addr)) (fp : List Addr), Cc (X.blk s H scope (compEnvC scope cl C X.env) fp) Y W0 k → SE (X.blk s H scope (compEnvC scope cl C X.env) fp) Y W0 kx ek)
    (hv : ∀ (s : Shared) (H : Hp) (C : Addr) (cl : List (Str × Addr)) (fp : List Addr), Cc (X.blk s H scope (compEnvC scope cl C X.env) fp) Y W0 k → SE (X.blk s H scope (compEnvC scope cl C X.env) fp) Y W0 vx ev)
    (hs : ∀ x, foldedSetIterable iter X.env x = pure x := by intro _; rfl) : SE X Y W (.DictComp kx vx [⟨tg, iter, ifs, 0⟩] scope pos) (eDc tp fi t tst ek ev (own.map (·.2))) :=
  PE.imp (pe_dm (g := tTg X.K Y L t) (tt := tG X.K Y W0 RB tst) (tk := tG X.K Y W0 (RV X.K) ek) (tv := tG X.K Y W0 (RV X.K) ev) (emH_new tp) c.u1 c.calm c.nd hi ok (fun s H C cl fp => hg s H C cl fp (c.blk ..)) (fun s H C cl fp => ht s H C cl fp (c.blk ..)) (fun s H C cl fp => hk s H C cl fp (c.blk ..)) (fun s H C cl fp => hv s H C cl fp (c.blk ..)) hs) fun _ _ _ h => tDm_of c.xi hL h
end
end Mp

set_option Elab.async false
set_option linter.all false
set_option maxRecDepth 100000
set_option maxHeartbeats 1000000
/-! list(range(..)), tuple(range(..)), list(d.keys()), len(set(ints)). -/
namespace Mp
open PySem PySem.Spec PyProof.Rows L2

/-! ### list(range(..)), tuple(range(..)) -/
def kR1 (tp : Bool) (xs : List Val) (S : Store) : Out Val := match xs with
  | [.int j] => if -LIM ≤ j ∧ j ≤ LIM then (if tp then .ok (.tup (upL 0 j.toNat)) S else .ok (.ref S.length) (S ++ [.lst (upL 0 j.toNat)])) else .bad
  | _ => .bad
def kR2 (tp : Bool) (xs : List Val) (S : Store) : Out Val := match xs with
  | [.int i, .int j] => if (-LIM ≤ i ∧ i ≤ LIM) ∧ -LIM ≤ j ∧ j ≤ LIM then (if tp then .ok (.tup (upL i (j - i).toNat)) S else .ok (.ref S.length) (S ++ [.lst (upL i (j - i).toNat)])) else .bad
  | _ => .bad
theorem reps_rg {K : PySem.W.Frag} {ρ : List Addr} {H : Hp} (a b : Int) : Reps K ρ H (rgV a b) (upL a (b - a).toNat) := by
  unfold rgV upL
  generalize (b - a).toNat = n
  induction (List.range n) with
  | nil => exact .nil
  | cons x r ih => exact .cons (.int _) ih
theorem rgOk {a b : Int} (h : (-LIM ≤ a ∧ a ≤ LIM) ∧ -LIM ≤ b ∧ b ≤ LIM) : RgOk a b := by
  have : (LIM : Int) = 100000 := rfl
  exact ⟨by omega, by omega, by omega, by omega, by omega⟩
theorem rg_end {K : PySem.W.Frag} {Y : Sy} {W' : Value → Option Addr → Hp → Prop} {ρ : List Addr} {H : Hp} {S : Store} {Q : VK} {tp : Bool} {a b : Int} (hs : Sim K Y ρ H S)
    (hp : Post K Y W' ρ H (RV K) Q (if tp then .ok (.tup (upL a (b - a).toNat)) S else .ok (.ref S.length) (S ++ [.lst (upL a (b - a).toNat)]))) : ∀ q, H q = none → Q (.ref q) (upd H q (if tp then .tup (rgV a b) else .lst (rgV a b))) := by
  intro q hq
  cases tp with
  | true => exact hp _ ρ _ (Pre.refl _) (Ext.new hq) (hs.other hq) (.tup upd_same (reps_rg a b))
  | false => exact hp _ (ρ ++ [q]) _ (Pre.snoc _ _) (Ext.new hq) (hs.new hq ⟨_, upd_same, reps_rg a b⟩) (rep_new hs.len.symm)
section
variable {X : Cx} {Y : Sy} {W : WX} {k : Nat} {a b e : Expr} {fa : En → Store → Out (List Val)} {f g : En → Store → Out Val} {p p2 q pos : Pos}
def eR1 (tp : Bool) (f : En → Store → Out Val) : En → Store → Out Val := fun env S => (f env S).bind fun x S1 => kR1 tp [x] S1
def eR2 (tp : Bool) (f g : En → Store → Out Val) : En → Store → Out Val := fun env S => (f env S).bind fun x S1 => (g env S1).bind fun y S2 => kR2 tp [x, y] S2
theorem se_r1L (c : Cc X Y W k) (hg : Gl X "list") (hm : X.mg "list" = none) (hg2 : Gl X "range") (hm2 : X.mg "range" = none) (ha : SE X Y W a f) (na : starEach [a] X.env = (false, eval a X.env) :: starEach [] X.env := by rfl)
    (nr : starEach [.Call (.Name "range" p2) [a] [] q] X.env = (false, eval (.Call (.Name "range" p2) [a] [] q) X.env) :: starEach [] X.env := by rfl) :
    SE X Y W (.Call (.Name "list" p) [.Call (.Name "range" p2) [a] [] q] [] pos) (eR1 false f) := by
  refine PE.imp (pe_listRg c.calm hg hm (prg_1 hg2 hm2 ha na) nr) fun σ H Q h => ?_
  refine tG.bind (k := fun _ x S1 => kR1 false [x] S1) h fun ρ env v x H1 S1 he hs rx hp => ?_
  unfold kR1 at hp
  split at hp
  · rename_i j ej
    cases ej
    cases rx
    split at hp
    · rename_i hj
      have h0 : (-LIM : Int) ≤ 0 ∧ (0 : Int) ≤ LIM := ⟨by decide, by decide⟩
      have hq := rg_end (tp := false) (a := 0) (b := j) hs (by simpa using hp)
      exact ⟨j, rfl, rgOk ⟨h0, hj⟩, hq⟩
    · exact hp.elim
  · exact hp.elim
theorem se_r1T (c : Cc X Y W k) (hg : Gl X "tuple") (hm : X.mg "tuple" = none) (hg2 : Gl X "range") (hm2 : X.mg "range" = none) (ha : SE X Y W a f) (na : starEach [a] X.env = (false, eval a X.env) :: starEach [] X.env := by rfl)
    (nr : starEach [.Call (.Name "range" p2) [a] [] q] X.env = (false, eval (.Call (.Name "range" p2) [a] [] q) X.env) :: starEach [] X.env := by rfl) :
    SE X Y W (.Call (.Name "tuple" p) [.Call (.Name "range" p2) [a] [] q] [] pos) (eR1 true f) := by
  refine PE.imp (pe_tupRg c.calm hg hm (prg_1 hg2 hm2 ha na) nr) fun σ H Q h => ?_
  refine tG.bind (k := fun _ x S1 => kR1 true [x] S1) h fun ρ env v x H1 S1 he hs rx hp => ?_
  unfold kR1 at hp
  split at hp
  · rename_i j ej
    cases ej
    cases rx
    split at hp
    · rename_i hj
      have h0 : (-LIM : Int) ≤ 0 ∧ (0 : Int) ≤ LIM := ⟨by decide, by decide⟩
      have hq := rg_end (tp := true) (a := 0) (b := j) hs (by simpa using hp)
      exact ⟨j, rfl, rgOk ⟨h0, hj⟩, hq⟩
    · exact hp.elim
  · exact hp.elim
end

/-! ### list(d.keys()) -/
section
variable {prog : Program} {w : World} {A : Around} {E : Value → Shared → Prop} {s : Shared} {d v : Addr} {o : Obj} {es : Array DictEntry} {ep : Nat}
theorem keysCall (lo : (d == sysModules) = false) : MeetsIn prog w (Builtin.«dict.keys» ⟨[.ref d], []⟩) (fun _ R s => s.TypeIs (.ref d) "dict" ∧
    R (.ok (.ret (.ref s.heap.objs.size))) { s with heap := s.heap.push { cls := .type "dict_keys", data := .fields #[.ref d] } }) := by
  refine .of_wp fun A R s ⟨ty, h⟩ => ?_
  refine wpAny_bind ?_
  unfold Builtin.Dict.noArgs
  refine wpAny_bind (wpAny_notOrdered_dict ty ?_)
  show wpAny _ _ (pure d) _ _ s
  refine wpAny_pure (show wpAny _ _ (Builtin.Dict.showsAll d >>= _) _ _ s from ?_)
  unfold Builtin.Dict.showsAll
  rw [if_neg (by rw [lo]; exact Bool.false_ne_true)]
  exact wpAny_bind (wpAny_pure (wpAny_bind (wpAny_newObj_type (wpAny_pure ⟨_, rfl, h⟩))))
theorem keysIter {Q : Value → Shared → Prop} (hv : PySem.W.KdlKeysView s.heap v d) (ho : s.heap.get? d = some o) (hx : o.ExactDict) (hd : o.data = .dict es ep)
    (hQ : Q (.ref s.heap.objs.size) { s with heap := s.heap.push { cls := .type "dict_keyiterator", data := .fields #[.ref d, .int 0 0, .int es.size 0, .int ep 0] } }) : wpAny (model prog w) A (pyIter (.ref v)) Q E s := by
  obtain ⟨ov, at_, cl, dv⟩ := id hv
  refine wpAny_pyIter_slot hv.typeIs PySem.W.kdl_slot_keys_iter (wpAny_call_entry PySem.W.kdl_slot_keys_iter hv.typeIs PySem.W.kdl_entry_keys_iter ?_ (PySem.W.kdl_args_keys_iter _))
  unfold Builtin.«dict_keys.__iter__»
  refine wpAny_bind (wpAny_pure (wpAny_bind ?_))
  unfold Builtin.Dict_items.dictOf
  refine wpAny_bind (wpAny_field at_ dv (x := .ref d) rfl (wpAny_pure (wpAny_bind ?_)))
  unfold Builtin.Dict_items.newIterator
  refine wpAny_bind (wpAny_dictEntries ho hd (wpAny_bind (wpAny_dictEpoch ho hd ?_)))
  have plain : Builtin.Dict_items.ownsTuple "dict_keyiterator" = false := by decide
  simp only [plain, Bool.false_eq_true, if_false]
  exact wpAny_newObj_type (wpAny_pure ⟨_, rfl, "dict_keyiterator", _, ⟨_, Heap.get?_push_size _ rfl, rfl⟩, PySem.F.slot_dict_keyiterator_next.lookup, hQ⟩)
theorem keysSrc (hx : o.ExactDict) (hd : o.data = .dict es ep) :
    PySem.W.KdlSrc prog w "dict_keys" v d es.size (fun i u => ∃ en : DictEntry, es[i]? = some en ∧ u = en.key) (fun h => PySem.W.KdlKeysView h v d ∧ h.get? d = some o) where
  type := fun _ z => z.1.typeIs
  there := fun _ z => ⟨let ⟨_, e, _⟩ := z.1; Heap.lt_size e, Heap.lt_size z.2⟩
  keep := fun _ _ z k => ⟨let ⟨o2, e, x⟩ := z.1; ⟨o2, k v (.inl rfl) o2 e, x⟩, k d (.inr rfl) _ z.2⟩
  notList := by decide
  notTuple := by decide
  hint := fun _ _ _ _ z q => PySem.W.kdl_hint_keys z.1.typeIs q
  iter := fun _ s hh z => ⟨_, _, fun _ _ q => keysIter z.1 z.2 hx hd q, walks_raw hh _ d (Nat.ne_of_lt (Heap.lt_size z.2)) hd, ⟨⟨_, Heap.get?_push_size _ rfl, rfl, rfl⟩, Heap.get?_push_of_some _ z.2⟩⟩
end
def tLKeys (td : TE) : TE := fun σ H Q => td σ H fun x H1 => ∃ d kvs, x = V.ref d ∧ H1 d = some (.dT kvs) ∧ ∀ p bs, H1 p = none → IsKeys H1 kvs bs → Q (.ref p) (upd H1 p (.lst (bs.map V.ref)))
theorem pe_lkeys {X : Cx} {e : Expr} {te : TE} {p apos cpos pos : Pos} (hc : X.calm = true) (hg : Gl X "list") (hm : X.mg "list" = none) (he : PE X e te) (hbase : attributeBase e "keys" X.env (eval e X.env) = eval e X.env := by rfl) (hline : (apos.endLine == cpos.line) = true := by rfl)
    (na : starEach [.Call (.Attribute e "keys" apos) [] [] cpos] X.env = (false, eval (.Call (.Attribute e "keys" apos) [] [] cpos) X.env) :: starEach [] X.env := by rfl) :
    PE X (.Call (.Name "list" p) [.Call (.Attribute e "keys" apos) [] [] cpos] [] pos) (tLKeys te) := by
  refine ⟨fun pins s σ H Q I h => ?_⟩
  refine Call_ (ld_blt I hg hm boot_list (PyProof.Rows.callWith_type1 (args_cons ?_ na) na rfl))
  refine wpAny_Call_method (T := "dict") (id := "dict.keys") hbase rfl hline F.plainAttrs_dict F.slot_dict_keys F.type_dict_keys (thn (he.run pins s σ H _ I h) fun u s1 ⟨x, H1, I1, rx, d, kvs, ex, hd, q⟩ => ?_)
  subst ex
  obtain rfl : u = Value.ref d := rx
  obtain ⟨z, lo, ks, pr, o, es, ep, ho, hx, hdt, ents, nn⟩ := dt_of I1.hok hd
  have ty : s1.TypeIs (.ref d) "dict" := ⟨o, ho, hx.1⟩
  refine ⟨ty, fun a ea => by cases ea; exact ⟨o, ho, hx.2.1⟩, ?_⟩
  have I2 : Inv X pins σ H1 { s1 with heap := s1.heap.push { cls := .type "dict_keys", data := .fields #[.ref d] } } := I1.kept (t' := s1.toks) fun b ob q => Heap.get?_push_of_some _ q
  show wpAny _ _ (callWith cpos (.builtin "dict.keys") [.ref d] [] []) _ X.xe s1
  refine method_meetsIn F.slot_dict_keys F.entry_dict_keys rfl (PySem.evalArgs_none ⟨rfl, ty, F.args_dict_keys_1 _, _, keysCall lo, ty, ?_⟩)
  refine args_nil ?_
  have l1 : es.size = ks.length := size_of_entries ents
  have l2 : kvs.length = ks.length := Paired.length pr
  refine PySem.W.kdl_call (keysSrc hx hdt) (I2.ok.hd hc) ⟨⟨_, Heap.get?_push_size _ rfl, rfl, rfl⟩, Heap.get?_push_of_some _ ho⟩ (by omega) fun h' tk acc c' kp e2 it => ?_
  have ea : acc.toList = (ks.map fun x => x.2.1).map Value.ref := by
    have hl : acc.toList.length = ks.length := by rw [Array.length_toList, it.1]; exact l1
    refine List.ext_getElem? fun j => ?_
    rw [List.map_map, List.getElem?_map]
    cases hb : ks[j]? with
    | none =>
      have := List.getElem?_eq_none_iff.mp hb
      rw [List.getElem?_eq_none (by omega)]; rfl
    | some b =>
      have hj : j < acc.toList.length := by rw [hl]; exact (List.getElem?_eq_some_iff.mp hb).1
      obtain ⟨en, hen, hv⟩ := it.2 j acc.toList[j] (by rw [← Array.getElem?_toList]; exact List.getElem?_eq_getElem hj)
      have qe := entry_at ents j
      rw [hen, hb] at qe
      rw [List.getElem?_eq_getElem hj, hv, show en = entryOfKey (tupleKind (mixKind X.prog X.w)) b from Option.some.inj qe]
      rfl
  have rv : Vals ((ks.map fun x => x.2.1).map V.ref) acc.toList := by rw [ea]; exact vals_refs _
  exact ⟨.ref _, _, I2.laid (t' := tk) (o := .lst ((ks.map fun x => x.2.1).map V.ref)) kp (Nat.le_refl _) ⟨by rw [List.length_map, List.length_map]; omega, acc.toList, c', rv, by rw [Array.toArray_toList]; exact e2⟩, rfl, q _ _ (I2.hok.fresh (Nat.le_refl _)) (isKeys_of pr)⟩
/-- a key as data -/
def kVal : Key → Val
  | .inl i => .int i
  | .inr x => .str x
def keysL (kvs : List (List Key × Val)) : List Val := kvs.map fun kv => .tup (kv.1.map kVal)
theorem reps_key {K : PySem.W.Frag} {ρ : List Addr} {H : Hp} : ∀ ks : List Key, Reps K ρ H (ks.map kV) (ks.map kVal)
  | [] => .nil
  | .inl i :: r => .cons (.int i) (reps_key r)
  | .inr x :: r => .cons (.str x) (reps_key r)
theorem reps_keys {K : PySem.W.Frag} {ρ : List Addr} {H : Hp} : ∀ {ws : List (List Key × V)} {kvs : List (List Key × Val)} {bs : List Addr}, RepK K ρ H ws kvs → IsKeys H ws bs → Reps K ρ H (bs.map V.ref) (keysL kvs)
  | _, _, _, .nil, .nil => .nil
  | (a, _) :: _, (b, _) :: _, _ :: _, .cons h r, .cons h2 r2 => by
    obtain ⟨h1, _⟩ := h
    obtain rfl : a = b := h1
    exact .cons (.tup h2 (reps_key _)) (reps_keys r r2)
def eLKeys (f : En → Store → Out Val) : En → Store → Out Val := fun env S => (f env S).bind fun x S1 => match x with
  | .ref n => (match S1[n]? with
    | some (.dt kvs) => .ok (.ref S1.length) (S1 ++ [.lst (keysL kvs)])
    | _ => .bad)
  | _ => .bad
theorem se_lkeys {X : Cx} {Y : Sy} {W : WX} {k : Nat} {e : Expr} {f : En → Store → Out Val} {p apos cpos pos : Pos} (c : Cc X Y W k) (hg : Gl X "list") (hm : X.mg "list" = none) (he : SE X Y W e f) (hbase : attributeBase e "keys" X.env (eval e X.env) = eval e X.env := by rfl) (hline : (apos.endLine == cpos.line) = true := by rfl)
    (na : starEach [.Call (.Attribute e "keys" apos) [] [] cpos] X.env = (false, eval (.Call (.Attribute e "keys" apos) [] [] cpos) X.env) :: starEach [] X.env := by rfl) :
    SE X Y W (.Call (.Name "list" p) [.Call (.Attribute e "keys" apos) [] [] cpos] [] pos) (eLKeys f) := by
  refine PE.imp (pe_lkeys c.calm hg hm he hbase hline na) fun σ H Q h => ?_
  refine tG.bind (k := fun _ x S1 => match x with | .ref n => (match S1[n]? with | some (.dt kvs) => Out.ok (Val.ref S1.length) (S1 ++ [.lst (keysL kvs)]) | _ => Out.bad) | _ => Out.bad) h fun ρ env v x H1 S1 he hs rx hp => ?_
  cases rx <;> try (exact hp.elim)
  rename_i a n hn
  dsimp only at hp
  split at hp
  · rename_i kvs ek
    obtain ⟨ws, e2, r2⟩ := hs.dt hn ek
    refine ⟨a, ws, rfl, e2, fun q bs hq ik => ?_⟩
    have en := Ext.new (o := .lst (bs.map V.ref)) hq
    exact hp _ (ρ ++ [q]) _ (Pre.snoc _ _) en (hs.new hq ⟨_, upd_same, (reps_keys r2 ik).up (Pre.snoc _ _) en⟩) (rep_new hs.len.symm)
  · exact hp.elim

/-! ### len(set(xs)) of ints -/
def dedup (ns : List Int) : List Int := ns.foldl PyProof.Rows.step_dedup []
theorem firstMet_all (ns : List Int) : PyProof.Rows.firstMet (fun i => ns.getD i 0) ns.length = dedup ns := by
  unfold PyProof.Rows.firstMet dedup
  congr 1
  refine List.ext_getElem? fun i => ?_
  rw [List.getElem?_map]
  by_cases hi : i < ns.length
  · rw [List.getElem?_range hi, List.getElem?_eq_getElem hi]
    simp [hi]
  · rw [List.getElem?_eq_none (by simpa using hi), List.getElem?_eq_none (by simpa using hi)]; rfl
def tLSet (K : PySem.W.Frag) (ta : TE) : TE := fun σ H Q => ta σ H fun x H1 => ∃ (l : Addr) (ns : List Int), x = .ref l ∧ SqL K H1 l (ns.map V.int) ∧ ns.length ≤ 4000 ∧ Q (.int ((dedup ns).length : Nat)) H1
theorem pe_lset {X : Cx} {a : Expr} {ta : TE} {p p2 q pos : Pos} (hg : Gl X "len") (hm : X.mg "len" = none) (hg2 : Gl X "set") (hm2 : X.mg "set" = none) (ha : PE X a ta) (hc : X.calm = true)
    (na : starEach [a] X.env = (false, eval a X.env) :: starEach [] X.env := by rfl) : PE X (.Call (.Name "len" p) [.Call (.Name "set" p2) [a] [] q] [] pos) (tLSet X.K ta) := by
  refine ⟨fun pins s σ H Q I h => ?_⟩
  refine Call_ (ld_blt I hg hm boot_len (PyProof.Rows.callWith_builtin1 (PyProof.Rows.args_cons ?_ rfl) rfl rfl))
  refine Call_ (ld_blt I hg2 hm2 boot_set (PyProof.Rows.callWith_type1 (PyProof.Rows.args_cons (thn (ha.run pins s σ H _ I h) fun v s1 ⟨x, H1, I1, r1, q1⟩ => PyProof.Rows.args_nil ?_) na) na rfl))
  obtain ⟨l, ns, rfl, hq, hl, q1⟩ := q1
  obtain rfl : v = Value.ref l := r1
  obtain ⟨its, r, pl, hz⟩ := I1.list hq
  have sz : its.toArray.size = ns.length := by rw [List.size_toArray, ← r.length, List.length_map]
  refine call_set_list (I1.ok.hd hc) pl.isList (by simpa using RZ.intsAre_vals r) (by rw [sz]; unfold scanBound; omega) fun h' tk st kp => PyProof.Rows.args_nil ?_
  rw [sz, firstMet_all] at st
  obtain ⟨o, es, ep, t, ho, hex, hd, _, _, _, hf, hn⟩ := st
  have I2 : Inv X pins σ H1 { s1 with heap := h', toks := tk } := I1.kept fun b o e => kp b o (Heap.lt_size e) e
  have bound : (dedup ns).length ≤ ns.length := by rw [← firstMet_all]; exact PyProof.Rows.firstMet_length_le _ _
  exact call_len_set ho hex hd hf (by rw [hn] <;> omega) ⟨.int (dedup ns).length, H1, I2.tok _, ⟨_, by rw [hn]⟩, q1⟩
def eLSet (f : En → Store → Out Val) : En → Store → Out Val := fun env S => (f env S).bind fun x S1 => match getL S1 x with
  | some xs => (match intsOf xs with
    | some ns => if ns.length ≤ 4000 then .ok (.int ((dedup ns).length : Nat)) S1 else .bad
    | none => .bad)
  | none => .bad
theorem se_lset {X : Cx} {Y : Sy} {W : WX} {k : Nat} {a : Expr} {f : En → Store → Out Val} {p p2 q pos : Pos} (c : Cc X Y W k) (hg : Gl X "len") (hm : X.mg "len" = none) (hg2 : Gl X "set") (hm2 : X.mg "set" = none) (ha : SE X Y W a f)
    (na : starEach [a] X.env = (false, eval a X.env) :: starEach [] X.env := by rfl) : SE X Y W (.Call (.Name "len" p) [.Call (.Name "set" p2) [a] [] q] [] pos) (eLSet f) := by
  refine PE.imp (pe_lset hg hm hg2 hm2 ha c.calm na) fun σ H Q h => ?_
  refine tG.bind (k := fun _ x S1 => match getL S1 x with | some xs => (match intsOf xs with | some ns => if ns.length ≤ 4000 then Out.ok (Val.int ((dedup ns).length : Nat)) S1 else Out.bad | none => Out.bad) | none => Out.bad) h fun ρ env v x H1 S1 he hs rx hp => ?_
  split at hp
  · rename_i xs e1
    split at hp
    · rename_i ns e2
      split at hp
      · rename_i hl
        obtain ⟨l, vs, rfl, hq, r⟩ := getL_rep hs rx e1
        have e3 := intsOf_rep r e2
        subst e3
        exact ⟨l, ns, rfl, hq, hl, hp _ ρ H1 (Pre.refl _) (Ext.refl _) hs (.int _)⟩
      · exact hp.elim
    · exact hp.elim
  · exact hp.elim
end Mp

set_option Elab.async false
set_option linter.all false
set_option maxRecDepth 100000
set_option maxHeartbeats 1000000
/-! Defs and classes by name, the facts of the top. -/
namespace Mp
open PySem PySem.Spec PyProof.Rows L2

/-! ### by name -/
/-- the def x of n parameters does what g says, in k calls' room -/
structure FnAt (P : Program) (w : World) (K : PySem.W.Frag) (mg : Str → Option Value) (base : Heap) (Y : Sy) (k n : Nat) (x : Str) (g : Fn) : Prop where
  ex : ∃ f fd ps, FnOk P w K mg base (L2.CX P w) k f fd ps (spOf K Y n g) ∧ mg x = some (.ref f) ∧ PySem.W.keepIn K (.ref f) = true ∧ Binds K fd ps []
  ar : Arity n g
/-- the class c, made by n arguments besides self -/
structure MkAt (P : Program) (w : World) (K : PySem.W.Frag) (mg : Str → Option Value) (base : Heap) (Y : Sy) (k n : Nat) (c : Str) (g : Fn) : Prop where
  ex : ∃ C f fd ps, Y.cl c = some C ∧ mg c = some (.ref C) ∧ Mk K C f ∧ FnOk P w K mg base (L2.CX P w) k f fd ps (spOf K Y n g) ∧ Binds K fd ps []
  ar : Arity n g
/-- the class c's own == -/
structure EqAt (P : Program) (w : World) (K : PySem.W.Frag) (mg : Str → Option Value) (base : Heap) (Y : Sy) (k : Nat) (c : Str) (g : Fn) : Prop where
  ex : ∃ C f fd ps, Y.cl c = some C ∧ EqO K Y C f ∧ FnOk P w K mg base (L2.CX P w) k f fd ps (spOf K Y 2 g) ∧ Binds K fd ps []
  ar : Arity 2 g
/-- the error c, without a field | with the field n -/
structure Er0At (P : Program) (w : World) (K : PySem.W.Frag) (mg : Str → Option Value) (base : Heap) (Y : Sy) (c : Str) : Prop where
  ex : ∃ C fI fd, Y.er c = some (.ref C) ∧ mg c = some (.ref C) ∧ OexC K C ∧ PySem.W.findIn K (.ref C) "__init__" = some (some (.ref fI)) ∧ PySem.W.typeIn K (.ref fI) = some (.type "function") ∧ FnOk P w K mg base (L2.CX P w) 1 fI fd ["self"] spI0 ∧ Binds K fd ["self"] []
structure Er1At (P : Program) (w : World) (K : PySem.W.Frag) (mg : Str → Option Value) (base : Heap) (Y : Sy) (c n : Str) : Prop where
  ex : ∃ C fI fd, Y.er c = some (.ref C) ∧ mg c = some (.ref C) ∧ OexC K C ∧ PySem.W.findIn K (.ref C) "__init__" = some (some (.ref fI)) ∧ PySem.W.typeIn K (.ref fI) = some (.type "function") ∧ FnOk P w K mg base (L2.CX P w) 1 fI fd ["self", n] (spI1 C n) ∧ Binds K fd ["self", n] []
/-- except c: m tells which errors go there -/
structure HdAt (K : PySem.W.Frag) (mg : Str → Option Value) (Y : Sy) (c : Str) (m : Str → Bool) : Prop where
  ex : ∃ hv, ((c == ("__debug__" : Str)) = false ∧ (mg c = some hv ∨ (mg c = none ∧ bootBuiltins c = some hv ∧ c ≠ "__name__"))) ∧ ∀ q cls, Y.er q = some cls → PySem.W.exmOne K cls hv = some (m q)
/-- isinstance(.., c) -/
structure IsAt (K : PySem.W.Frag) (mg : Str → Option Value) (Y : Sy) (c : Str) (m : Str → Bool) : Prop where
  ex : ∃ C, mg c = some (.ref C) ∧ IsO K Y C m
section
variable {X : Cx} {Y : Sy} {W : WX} {k kc n : Nat} {x c : Str} {g : Fn} {e : Expr} {es : List Expr} {ga : En → Store → Out (List Val)} {p pos pos2 : Pos} {a b : Expr} {fa fb : En → Store → Out Val}
theorem sx_call (cc : Cc X Y W kc) (F : FnAt X.prog X.w X.K X.mg X.base Y k n x g) (hk : k ≤ kc) (hg : Gl X x) (ha : SA X Y W (e :: es) ga)
    (hdb : (x == ("__debug__" : Str)) = false := by decide) (he : starEach (e :: es) X.env = (false, eval e X.env) :: starEach es X.env := by rfl) (hpl : (backTo pos (starEach es X.env)).any (·.1) = false := by rfl) : SE X Y W (.Call (.Name x p) (e :: es) [] pos) (eCall g ga) := by
  obtain ⟨f, fd, ps, h1, h2, h3, h4⟩ := F.ex
  exact se_call cc h1 F.ar hk hg h2 h3 h4 ha hdb he hpl
theorem sx_make (cc : Cc X Y W kc) (F : MkAt X.prog X.w X.K X.mg X.base Y k n c g) (hk : k + 1 ≤ kc) (hg : Gl X c) (ha : SA X Y W (e :: es) ga)
    (hdb : (c == ("__debug__" : Str)) = false := by decide) (he : starEach (e :: es) X.env = (false, eval e X.env) :: starEach es X.env := by rfl) (hpl : (backTo pos (starEach es X.env)).any (·.1) = false := by rfl) : SE X Y W (.Call (.Name c p) (e :: es) [] pos) (eCall (fMake c g) ga) := by
  obtain ⟨C, f, fd, ps, h1, h2, h3, h4, h5⟩ := F.ex
  exact se_make cc h3 h4 F.ar hk h1 hg h2 h5 ha hdb he hpl
theorem sx_eqO (cc : Cc X Y W kc) (hK : Kls X.K Y) (F : EqAt X.prog X.w X.K X.mg X.base Y k c g) (hk : k ≤ kc) (ha : SE X Y W a fa) (hb : SE X Y W b fb) : SE X Y W (.Compare a [.Eq] [b] pos) (eB2 (vEqO c g) fa fb) := by
  obtain ⟨C, f, fd, ps, h1, h2, h3, h4⟩ := F.ex
  exact se_eqO cc hK h2 h1 h3 F.ar hk h4 ha hb
theorem tx_eqO (cc : Cc X Y W kc) (hK : Kls X.K Y) (F : EqAt X.prog X.w X.K X.mg X.base Y k c g) (hk : k ≤ kc) (ha : SE X Y W a fa) (hb : SE X Y W b fb) : ST X Y W (.Compare a [.Eq] [b] pos) (bV (eB2 (vEqO c g) fa fb)) := by
  obtain ⟨C, f, fd, ps, h1, h2, h3, h4⟩ := F.ex
  exact st_eqO cc hK h2 h1 h3 F.ar hk h4 ha hb
theorem sx_raise0 (cc : Cc X Y W kc) (F : Er0At X.prog X.w X.K X.mg X.base Y c) (h2 : 2 ≤ kc) (hg : Gl X c) (hdb : (c == ("__debug__" : Str)) = false := by decide) : SS X Y W (.Raise (some (.Call (.Name c p) [] [] pos)) none pos2) (sRaise0 c) := by
  obtain ⟨C, fI, fd, z1, z2, z3, z4, z5, z6, z7⟩ := F.ex
  exact ss_raise0 cc h2 z1 z3 z4 z5 z6 z7 hg z2 hdb
theorem sx_raise1 {f : En → Store → Out Val} {m : Str} (cc : Cc X Y W kc) (F : Er1At X.prog X.w X.K X.mg X.base Y c m) (h2 : 2 ≤ kc) (hg : Gl X c) (he : SE X Y W e f) (hdb : (c == ("__debug__" : Str)) = false := by decide) (hs : starEach [e] X.env = (false, eval e X.env) :: starEach [] X.env := by rfl) :
    SS X Y W (.Raise (some (.Call (.Name c p) [e] [] pos)) none pos2) (sRaise1 c m f) := by
  obtain ⟨C, fI, fd, z1, z2, z3, z4, z5, z6, z7⟩ := F.ex
  exact ss_raise1 cc h2 z1 z3 z4 z5 z6 z7 hg z2 he hdb hs
theorem sx_isO {m : Str → Bool} {f : En → Store → Out Val} {p2 : Pos} (hK : Kls X.K Y) (F : IsAt X.K X.mg Y c m) (hg : Gl X "isinstance") (hm : X.mg "isinstance" = none) (hg2 : Gl X c) (ha : SE X Y W e f) (hdb : (c == ("__debug__" : Str)) = false := by decide)
    (he : starEach [e, .Name c p2] X.env = (false, eval e X.env) :: starEach [.Name c p2] X.env := by rfl) (hpl : (backTo pos (starEach [.Name c p2] X.env)).any (·.1) = false := by rfl) (h2 : starEach [.Name c p2] X.env = (false, eval (.Name c p2) X.env) :: starEach [] X.env := by rfl) :
    SE X Y W (.Call (.Name "isinstance" p) [e, .Name c p2] [] pos) (eIsO m f) := by
  obtain ⟨C, h1, h3⟩ := F.ex
  exact se_isO hK h3 hg hm hg2 h1 ha hdb he hpl h2
/-- the clauses of a try, one by one -/
theorem hd_nil : ∃ l', Hds X Y [] l' [] := ⟨_, .nil⟩
theorem hd_cons {m : Str → Bool} {gs : En → Store → Res} {b₀ : Stmt} {suite : List Stmt} {np pos' : Pos} {hds : List ExceptHandler} {l : List Hd} (F : HdAt X.K X.mg Y c m) (hg : Gl X c) (hsu : ∀ (a : Addr) (pn : List (Addr × Obj)), Cs (X.suite a pn) → SSs (X.suite a pn) Y W0 (b₀ :: suite) gs)
    (r : ∃ l', Hds X Y hds l' l) : ∃ l', Hds X Y (.ExceptHandler (some (.Name c np)) none (b₀ :: suite) pos' :: hds) l' ((m, gs) :: l) := by
  obtain ⟨hv, ⟨h0, h1⟩, h2⟩ := F.ex
  obtain ⟨l', r⟩ := r
  exact ⟨_, .cons ⟨hg, h0, h1⟩ h2 hsu r⟩
theorem sx_try {body : List Stmt} {gb : En → Store → Res} {h₀ : ExceptHandler} {hds : List ExceptHandler} {l : List Hd} (cc : Cc X Y W kc) (hb : ∀ pn xe W', Cc (X.tr pn xe) Y W' kc → SSs (X.tr pn xe) Y W' body gb) (hh : ∃ l', Hds X Y (h₀ :: hds) l' l)
    (hs : X.stack = X.env :: X.outer := by rfl) (hf : X.env.frame = some X.env.locals := by rfl) : SS X Y W (.Try body (h₀ :: hds) [] [] pos) (sTry gb l) := by
  obtain ⟨l', hh⟩ := hh
  exact ss_try cc hb hh hs hf
theorem sx_tryAs {i : Nat} {nm : Str} {m : Str → Bool} {body suite : List Stmt} {b₀ : Stmt} {np pos' : Pos} {gb : En → Store → Res} {gs : Str → List (Str × Val) → En → Store → Res} (cc : Cc X Y W kc) (F : HdAt X.K X.mg Y c m) (hg : Gl X c) (hi : X.N[i]? = some nm) (hln : X.env.kindOf nm = some .local)
    (hb : ∀ pn xe W', Cc (X.tr pn xe) Y W' kc → SSs (X.tr pn xe) Y W' body gb)
    (hsu : ∀ (a : Addr) (oe : Obj) (q : Str) (cls : Value) (d : Option Addr) (pn : List (Addr × Obj)) (fs : List (Str × Val)), Y.er q = some cls → m q = true → Zc cls d oe → (∃ vs, oe.data = .fields vs) → Cs (X.suite a ((a, oe) :: pn)) →
      SSs (X.suite a ((a, oe) :: pn)) { Y with xi := some (i, a, cls, d, fs) } W0 (b₀ :: suite) (gs q fs))
    (hs : X.stack = X.env :: X.outer := by rfl) (hf : X.env.frame = some X.env.locals := by rfl) : SS X Y W (.Try body [.ExceptHandler (some (.Name c np)) (some nm) (b₀ :: suite) pos'] [] [] pos) (sTryAs m i gb gs) := by
  obtain ⟨hv, ⟨h0, h1⟩, h2⟩ := F.ex
  exact ss_try_as cc hi hln ⟨hg, h0, h1⟩ h2 hb hsu hs hf
/-- what an error's class must have for its field f to be read -/
structure XfAt (K : PySem.W.Frag) (Y : Sy) (c f : Str) : Prop where
  ex : ∃ C, Y.er c = some (.ref C) ∧ XfC K C ∧ PySem.W.findIn K (.ref C) f = some none
theorem sx_xf {i : Nat} {nm f : Str} {a : Addr} {oe : Obj} {cls : Value} {d : Option Addr} {pn : List (Addr × Obj)} {fs : List (Str × Val)} (F : XfAt X.K Y c f) (hq : Y.er c = some cls) (hz : Zc cls d oe) (hf : ∃ vs, oe.data = .fields vs)
    (hN : X.N[i]? = some nm) (hv : X.env.scope.names.lookup nm = some .local) (hd : (nm == ("__debug__" : Str)) = false := by decide) (hcd : (nm == ("__classdict__" : Str)) = false := by decide) :
    SE (X.suite a ((a, oe) :: pn)) { Y with xi := some (i, a, cls, d, fs) } W (.Attribute (.Name nm p) f pos) (eXf fs f) := by
  obtain ⟨C, h1, h2, h3⟩ := F.ex
  have e : cls = .ref C := Option.some.inj (hq.symm.trans h1)
  subst e
  exact se_xf h2 h3 hz hf hN hv hd hcd
end
/-- a def of the text -/
abbrev FunS (K : PySem.W.Frag) (x qual : Str) (st : Stmt) (f : Addr) (fd : FuncData) : Prop := FunD K x qual (defArgs st) (defBody st) (defScope st) [] [] f fd
theorem FunS.fun {K : PySem.W.Frag} {x qual : Str} {st : Stmt} {f : Addr} {fd : FuncData} (F : FunS K x qual st f fd) : Fun K x qual st f fd := by
  obtain ⟨oc, od, dV, kV, doc, pm, an, cdv, ct, osl, e, lk, hcd, hD, hK⟩ := F.ex
  rcases hD with ⟨_, rfl⟩ | ⟨z, _⟩
  · exact ⟨⟨oc, od, kV, doc, pm, an, cdv, ct, osl, e, lk, hcd⟩, F.kp⟩
  · exact absurd rfl z
/-- bindArgs of a def of these names -/
def BindsS (x qual : Str) (st : Stmt) (ps : List Str) : Prop := ∀ (kV doc pm : Value) (an : Option Addr) (cdv ct : Value) (us : List Value), us.length = ps.length → bindArgs (PySem.W.fnOf x qual (defArgs st) (defBody st) (defScope st) .none kV doc pm an cdv ct) ⟨us, []⟩ = pure (ps.zip us)
theorem FnAt.of {P : Program} {w : World} {K : PySem.W.Frag} {mg : Str → Option Value} {base : Heap} {Y : Sy} {x qual : Str} {st : Stmt} {f : Addr} {fd : FuncData} {N ps : List Str} {k : Nat} {g : En → Store → Res} (F : FunS K x qual st f fd) (hm : mg x = some (.ref f)) (S : FnScope N ps (defScope st)) (hb : BindsS x qual st ps) (hy : Y.xi = none)
    (h : ∀ cdv A outer s H E, Cc (cxOf (L2.CX P w) P w K mg base N qual (defScope st) f cdv A outer s H E) Y (fun cls d _ H' => E cls d H') k →
      SSs (cxOf (L2.CX P w) P w K mg base N qual (defScope st) f cdv A outer s H E) Y (fun cls d _ H' => E cls d H') (defBody st) g) : FnAt P w K mg base Y (k + 1) ps.length x (fnB N.length ps.length g) :=
  ⟨⟨f, fd, ps, fn_ok F.fun S hy h, hm, F.kp, F.fun.binds hb⟩, arity_fnB⟩
theorem MkAt.of {P : Program} {w : World} {K : PySem.W.Frag} {mg : Str → Option Value} {base : Heap} {Y : Sy} {c qual : Str} {st : Stmt} {C f : Addr} {fd : FuncData} {N ps : List Str} {k : Nat} {g : En → Store → Res} (F : FunS K "__init__" qual st f fd) (hm : mg c = some (.ref C)) (hc : Y.cl c = some C) (mk : Mk K C f) (S : FnScope N ps (defScope st)) (hb : BindsS "__init__" qual st ps) (hy : Y.xi = none)
    (h : ∀ cdv A outer s H E, Cc (cxOf (L2.CX P w) P w K mg base N qual (defScope st) f cdv A outer s H E) Y (fun cls d _ H' => E cls d H') k →
      SSs (cxOf (L2.CX P w) P w K mg base N qual (defScope st) f cdv A outer s H E) Y (fun cls d _ H' => E cls d H') (defBody st) g) : MkAt P w K mg base Y (k + 1) ps.length c (fnB N.length ps.length g) :=
  ⟨⟨C, f, fd, ps, hc, hm, mk, fn_ok F.fun S hy h, F.fun.binds hb⟩, arity_fnB⟩
theorem EqAt.of {P : Program} {w : World} {K : PySem.W.Frag} {mg : Str → Option Value} {base : Heap} {Y : Sy} {c qual : Str} {st : Stmt} {C f : Addr} {fd : FuncData} {N : List Str} {p1 p2 : Str} {k : Nat} {g : En → Store → Res} (F : FunS K "__eq__" qual st f fd) (hc : Y.cl c = some C) (eo : EqO K Y C f) (S : FnScope N [p1, p2] (defScope st)) (hb : BindsS "__eq__" qual st [p1, p2]) (hy : Y.xi = none)
    (h : ∀ cdv A outer s H E, Cc (cxOf (L2.CX P w) P w K mg base N qual (defScope st) f cdv A outer s H E) Y (fun cls d _ H' => E cls d H') k →
      SSs (cxOf (L2.CX P w) P w K mg base N qual (defScope st) f cdv A outer s H E) Y (fun cls d _ H' => E cls d H') (defBody st) g) : EqAt P w K mg base Y (k + 1) c (fnB N.length 2 g) :=
  ⟨⟨C, f, fd, [p1, p2], hc, eo, fn_ok F.fun S hy h, F.fun.binds hb⟩, arity_fnB⟩
end Mp

set_option Elab.async false
set_option linter.all false
set_option maxRecDepth 100000
set_option maxHeartbeats 1000000
/-! Small helps of the printed derivations. -/
namespace Mp
open PySem PySem.Spec PyProof.Rows L2
theorem Cc.u66 {X : Cx} {Y : Sy} {W : WX} {k : Nat} (c : Cc X Y W k) : X.A.units + 66 < cLine := by have := c.room.un; omega
theorem Cs.u66 {X : Cx} (c : Cs X) : X.A.units + 66 < cLine := by have := c.un; omega
def clsBody : Stmt → List Stmt
  | .ClassDef (body := b) .. => b
  | _ => []
section
variable {X : Cx} {Y : Sy} {W : WX} {x : Str} {pos : Pos}
theorem sx_con {i : Int} (hg : Gl X x) (hm : ∃ t, X.mg x = some (.int i t)) (hd : (x == ("__debug__" : Str)) = false := by decide) : SE X Y W (.Name x pos) (eC (.int i)) := by
  obtain ⟨t, hm⟩ := hm
  exact se_glob (v := .int i) hg hm ⟨t, rfl⟩ (fun _ _ => .int i) hd
theorem sx_conS {z : Str} (hg : Gl X x) (hm : ∃ t, X.mg x = some (.str z t)) (hd : (x == ("__debug__" : Str)) = false := by decide) : SE X Y W (.Name x pos) (eC (.str z)) := by
  obtain ⟨t, hm⟩ := hm
  exact se_glob (v := .str z) hg hm ⟨t, rfl⟩ (fun _ _ => .str z) hd
end
def blkB (N : List Str) (sc scope : Scope) (own : List (Str × Nat)) : Bool :=
  decide (∀ y ∈ scope.names, scope.names.lookup y.1 = some y.2) && (decide (∀ p ∈ own, N[p.2]? = some p.1) && (decide (∀ y ∈ scope.names, y.2 = .free → sc.names.lookup y.1 = some .cell ∨ sc.names.lookup y.1 = some .free) &&
    decide (∀ y ∈ scope.names, y.2 = .local ∨ y.2 = .cell → y.1 ∈ own.map (·.1) ∨ y.1 ∉ N)))
theorem blk_ok {N N' : List Str} {sc sc' scope : Scope} {own : List (Str × Nat)} (hN : N' = N) (hs : sc' = sc) (hk : scope.kind = .function) (h : blkB N sc scope own = true) : BlkOk N' sc' scope own := by
  subst hN; subst hs
  obtain ⟨h1, h⟩ := Bool.and_eq_true_iff.mp h
  obtain ⟨h2, h⟩ := Bool.and_eq_true_iff.mp h
  obtain ⟨h3, h4⟩ := Bool.and_eq_true_iff.mp h
  exact ⟨hk, of_decide_eq_true h1, of_decide_eq_true h2, of_decide_eq_true h3, of_decide_eq_true h4⟩
theorem FnAt.none {P : Program} {w : World} {K : PySem.W.Frag} {mg : Str → Option Value} {base : Heap} {Y : Sy} {x qual : Str} {st : Stmt} {f : Addr} {fd : FuncData} {ps : List Str} {k n : Nat} (F : FunS K x qual st f fd) (hm : mg x = some (.ref f)) (hb : BindsS x qual st ps) (hn : ps.length = n) : FnAt P w K mg base Y k n x fun _ _ => .bad :=
  ⟨⟨f, fd, ps, ⟨fun vs H Q E h => h.1.trans hn.symm, fun A outer s H args us vs Q E _ _ _ _ h => by obtain ⟨_, ρ, xs, S, _, _, h⟩ := h; exact h.elim⟩, hm, F.kp, F.fun.binds hb⟩, fun _ _ _ => rfl⟩
end Mp

set_option Elab.async false
set_option linter.all false
set_option maxRecDepth 100000
set_option maxHeartbeats 1000000
/-! What the top has written, as flags; the law's end. -/
namespace Mp
open PySem PySem.Spec PyProof.Rows L2
abbrev YYg (owns errs : List Str) (K : PySem.W.Frag) : Sy := { cl := fun c => if owns.contains c = true then some (He.ga K c) else none, er := fun c => if errs.contains c = true then some (.ref (He.ga K c)) else none }
theorem yy_cl {owns errs : List Str} {K : PySem.W.Frag} {c : Str} {C : Addr} (h : (YYg owns errs K).cl c = some C) : c ∈ owns ∧ C = He.ga K c := by
  simp only [YYg] at h
  split at h
  · rename_i q
    exact ⟨by simpa using q, (Option.some.inj h).symm⟩
  · cases h
theorem yy_er {owns errs : List Str} {K : PySem.W.Frag} {c : Str} {v : Value} (h : (YYg owns errs K).er c = some v) : c ∈ errs ∧ v = .ref (He.ga K c) := by
  simp only [YYg] at h
  split at h
  · rename_i q
    exact ⟨by simpa using q, (Option.some.inj h).symm⟩
  · cases h
theorem yy_cl_of {owns errs : List Str} {K : PySem.W.Frag} {c : Str} (h : owns.contains c = true) : (YYg owns errs K).cl c = some (He.ga K c) := if_pos h
theorem yy_er_of {owns errs : List Str} {K : PySem.W.Frag} {c : Str} (h : errs.contains c = true) : (YYg owns errs K).er c = some (.ref (He.ga K c)) := if_pos h
theorem both {a b : Bool} (h : (a && b) = true) : a = true ∧ b = true := Bool.and_eq_true_iff.mp h
/-! ### flags of the text -/
abbrev FB := PySem.W.Frag → Bool
def klB (c : Str) : FB := fun K => (He.Fa.cls c).ok K && (He.eqO (PySem.W.findIn K (.ref (He.ga K c)) "__class__") (some (some (.builtin "object.__class__"))) && (He.eqO (PySem.W.specialIn K (.builtin "object.__class__") "__get__") (some (some (.builtin "getset_descriptor.__get__"))) &&
  (decide (PySem.W.takesIn K (.builtin "object.__class__") = some true) && decide (PySem.W.mroIn K (He.ga K c) (.type "object") = some true))))
theorem kl_of {c : Str} {K : PySem.W.Frag} (h : klB c K = true) : Kl K (He.ga K c) := by
  obtain ⟨h1, h⟩ := both h
  obtain ⟨h2, h⟩ := both h
  obtain ⟨h3, h⟩ := both h
  obtain ⟨h4, h5⟩ := both h
  exact ⟨He.cls_ok h1, He.eqO_ok h2, He.eqO_ok h3, of_decide_eq_true h4, of_decide_eq_true h5⟩
def klsB (owns : List Str) : FB := fun K => owns.all fun c => klB c K
theorem kls_of {owns errs : List Str} {K : PySem.W.Frag} (h : klsB owns K = true) : Kls K (YYg owns errs K) := fun c C hc => by
  obtain ⟨h1, rfl⟩ := yy_cl hc
  exact kl_of (List.all_eq_true.mp h c h1)
def nofB (cs : List Str) (f : Str) : FB := fun K => cs.all fun c => (He.Fa.noat c f).ok K
theorem nof_of {owns errs cs : List Str} {f : Str} {K : PySem.W.Frag} (h : nofB cs f K = true) : NoF K (YYg owns errs K) cs f := fun c C hc hC => by
  obtain ⟨_, rfl⟩ := yy_cl hC
  exact He.noat_ok (List.all_eq_true.mp h c hc)
def isB (owns : List Str) (c : Str) : FB := fun K => (tyNames.all fun t => decide (PySem.W.kitOne K (.type t) (.ref (He.ga K c)) = some false)) && owns.all fun q => decide (PySem.W.kitOne K (.ref (He.ga K q)) (.ref (He.ga K c)) = some (q == c))
theorem is_of {owns errs : List Str} {c : Str} {K : PySem.W.Frag} {mg : Str → Option Value} (hm : mg c = some (.ref (He.ga K c))) (h : isB owns c K = true) : IsAt K mg (YYg owns errs K) c fun q => q == c := by
  obtain ⟨h1, h2⟩ := both h
  refine ⟨_, hm, fun t ht => of_decide_eq_true (List.all_eq_true.mp h1 t ht), fun q D hq => ?_⟩
  obtain ⟨h3, rfl⟩ := yy_cl hq
  exact of_decide_eq_true (List.all_eq_true.mp h2 q h3)
def eqB (owns : List Str) (c : Str) : FB := fun K => (He.Fa.meth c "__eq__").ok K && ((tyNames.all fun t => PySem.W.notFirst K (He.ga K c) (.type t)) && owns.all fun q => PySem.W.notFirst K (He.ga K c) (.ref (He.ga K q)))
theorem eq_of {owns errs : List Str} {c : Str} {K : PySem.W.Frag} (h : eqB owns c K = true) : EqO K (YYg owns errs K) (He.ga K c) (He.ma K (He.ga K c) "__eq__") := by
  obtain ⟨h1, h⟩ := both h
  obtain ⟨h2, h3⟩ := both h
  have m := He.meth_ok h1
  refine ⟨m.at_, m.fn, fun t ht => List.all_eq_true.mp h2 t ht, fun q D hq => ?_⟩
  obtain ⟨h4, rfl⟩ := yy_cl hq
  exact List.all_eq_true.mp h3 q h4
/-- an own error class with an __init__ of its own -/
def oexB (c : Str) : FB := fun K => (match K.lookup (He.ga K c) with
  | some ⟨.type "type", _, .cls cd, sl⟩ => (match cd.mro, sl.toList with
    | .ref C' :: bm, [_, _, _, _, some (.builtin n), _] => decide (C' = He.ga K c) && (decide (n = "ValueError.__new__") && (!cd.hasDel && (cd.hasDict && PySem.HandSPX.refsVE bm)))
    | _, _ => false)
  | _ => false) && (He.eqO (PySem.W.findIn K (.ref (He.ga K c)) "__setattr__") (some (some (.builtin "object.__setattr__"))) && (decide (PySem.W.subIn K (.ref (He.ga K c)) (.type "BaseException") = some true) && (decide (PySem.W.typeIn K (.ref (He.ga K c)) = some (.type "type")) && PySem.W.keepIn K (.ref (He.ga K c)))))
theorem oex_cls {c : Str} {K : PySem.W.Frag} (h : (match K.lookup (He.ga K c) with
    | some ⟨.type "type", _, .cls cd, sl⟩ => (match cd.mro, sl.toList with
      | .ref C' :: bm, [_, _, _, _, some (.builtin n), _] => decide (C' = He.ga K c) && (decide (n = "ValueError.__new__") && (!cd.hasDel && (cd.hasDict && PySem.HandSPX.refsVE bm)))
      | _, _ => false)
    | _ => false) = true) : ∃ nm q N bs bm sn sub ab col dd k0 k1 k2 k3 k5, K.lookup (He.ga K c) = some (excClassObj nm q (He.ga K c) N bs bm true sn sub ab col dd k0 k1 k2 k3 k5 "ValueError.__new__") ∧ PySem.HandSPX.refsVE bm = true := by
  split at h
  · rename_i dd cd sl ho
    split at h
    · rename_i C' bm k0 k1 k2 k3 n k5 hm hs
      obtain ⟨h1, h⟩ := both h
      obtain ⟨h2, h⟩ := both h
      obtain ⟨h3, h⟩ := both h
      obtain ⟨h4, h5⟩ := both h
      obtain ⟨nm, bs, mro, ns, qn, hd, sn, sub, ab, col, del⟩ := cd
      dsimp only at hm h3 h4
      have e1 := of_decide_eq_true h1
      have e2 := of_decide_eq_true h2
      have e3 : del = false := by simpa using h3
      subst hm e2 e3 h4
      have hsl : sl = #[k0, k1, k2, k3, some (.builtin "ValueError.__new__"), k5] := by
        obtain ⟨l⟩ := sl
        simp only at hs
        rw [hs]
      subst hsl
      rw [← e1] at ho ⊢
      exact ⟨nm, qn, ns, bs, bm, sn, sub, ab, col, dd, k0, k1, k2, k3, k5, ho, h5⟩
    · cases h
  · cases h
theorem oex_of {c : Str} {K : PySem.W.Frag} (h : oexB c K = true) : OexC K (He.ga K c) := by
  obtain ⟨h1, h⟩ := both h
  obtain ⟨h2, h⟩ := both h
  obtain ⟨h3, h⟩ := both h
  obtain ⟨h4, h5⟩ := both h
  exact ⟨oex_cls h1, He.eqO_ok h2, of_decide_eq_true h3, of_decide_eq_true h4, h5⟩
def erB (c : Str) : FB := fun K => oexB c K && (He.eqO (PySem.W.findIn K (.ref (He.ga K c)) "__init__") (some (some (.ref (He.ma K (He.ga K c) "__init__")))) && decide (PySem.W.typeIn K (.ref (He.ma K (He.ga K c) "__init__")) = some (.type "function")))
section
variable {P : Program} {w : World} {K : PySem.W.Frag} {mg : Str → Option Value} {base : Heap} {owns errs : List Str}
theorem er0_of {c qual : Str} {st : Stmt} {fd : FuncData} {pp : Pos} (hc : errs.contains c = true) (hm : mg c = some (.ref (He.ga K c))) (h : erB c K = true) (F : FunS K "__init__" qual st (He.ma K (He.ga K c) "__init__") fd) (S : FnScope ["self"] ["self"] (defScope st)) (hb : defBody st = [.Pass pp]) (bi : BindsS "__init__" qual st ["self"]) : Er0At P w K mg base (YYg owns errs K) c := by
  obtain ⟨h1, h⟩ := both h
  obtain ⟨h2, h3⟩ := both h
  exact ⟨_, _, fd, yy_er_of hc, hm, oex_of h1, He.eqO_ok h2, of_decide_eq_true h3, ok_init0 F.fun S hb, F.fun.binds bi⟩
theorem er1_of {c n qual : Str} {st : Stmt} {fd : FuncData} {p1 p2 p3 p4 : Pos} (hc : errs.contains c = true) (hm : mg c = some (.ref (He.ga K c))) (h : erB c K = true) (hno : (He.Fa.noat c n).ok K = true) (F : FunS K "__init__" qual st (He.ma K (He.ga K c) "__init__") fd) (S : FnScope ["self", n] ["self", n] (defScope st))
    (hb : defBody st = [.Assign [.Attribute (.Name "self" p1) n p2] (.Name n p3) p4]) (l1 : (defScope st).names.lookup ("self" : Str) = some NameKind.local) (l2 : (defScope st).names.lookup n = some NameKind.local) (bi : BindsS "__init__" qual st ["self", n]) (hd : (n == ("__debug__" : Str)) = false := by decide) (hcd : (n == ("__classdict__" : Str)) = false := by decide) : Er1At P w K mg base (YYg owns errs K) c n := by
  obtain ⟨h1, h⟩ := both h
  obtain ⟨h2, h3⟩ := both h
  exact ⟨_, _, fd, yy_er_of hc, hm, oex_of h1, He.eqO_ok h2, of_decide_eq_true h3, ok_init1 (oex_of h1) (He.noat_ok hno) F.fun S hb l1 l2 hd hcd, F.fun.binds bi⟩
end
def hdB (errs : List Str) (c : Str) (m : Str → Bool) : FB := fun K => errs.all fun q => decide (PySem.W.exmOne K (.ref (He.ga K q)) (.ref (He.ga K c)) = some (m q))
theorem hd_of {owns errs : List Str} {c : Str} {m : Str → Bool} {K : PySem.W.Frag} {mg : Str → Option Value} (hd : (c == ("__debug__" : Str)) = false) (hm : mg c = some (.ref (He.ga K c))) (h : hdB errs c m K = true) : HdAt K mg (YYg owns errs K) c m := by
  refine ⟨_, ⟨hd, .inl hm⟩, fun q cls hq => ?_⟩
  obtain ⟨h1, rfl⟩ := yy_er hq
  exact of_decide_eq_true (List.all_eq_true.mp h q h1)
def xfB (c f : Str) : FB := fun K => L2.xfB K (He.ga K c) && (He.Fa.noat c f).ok K
theorem xf_of {owns errs : List Str} {c f : Str} {K : PySem.W.Frag} (hc : errs.contains c = true) (h : xfB c f K = true) : XfAt K (YYg owns errs K) c f := by
  obtain ⟨h1, h2⟩ := both h
  exact ⟨_, yy_er_of hc, xfB_ok h1, He.noat_ok h2⟩
/-! ### the Hook -/
abbrev AlM : Type := He.AlD × Bool
def obsM (fa : List He.Fa) (fn : List He.DefD) (ex : List FB) (K : PySem.W.Frag) : AlM := (He.obsD fa fn K, ex.all fun b => b K)
def valM (fn : List He.DefD) : AlM := (He.valD fn, true)
def SaysM (fa : List He.Fa) (fn : List He.DefD) (ex : List FB) (K : PySem.W.Frag) : Prop := obsM fa fn ex K = valM fn
def obsMG (n : Nat) (fa : List He.Fa) (fn : List He.DefD) (ex : List FB) (g : Addr → Option Obj) : AlM := obsM fa fn ex (He.frG g (He.asD g n))
def hookM (n : Nat) (fa : List He.Fa) (fn : List He.DefD) (ex : List FB) : PySem.W.Hook where
  α := AlM
  obs := fun s => obsMG n fa fn ex s.heap.get?
  val := fun _ => valM fn
  says := fun _ h => ∃ K : PySem.W.Frag, K.In h ∧ SaysM fa fn ex K
  of := fun _ _ e => ⟨_, He.frG_in, e⟩
  keeps := fun _ _ _ ⟨K, inH, c⟩ k => ⟨K, PySem.W.Frag.In.keeps inH k, c⟩
theorem obsMG_eq {n : Nat} {fa : List He.Fa} {fn : List He.DefD} {ex : List FB} {g : Addr → Option Obj} {s : Shared} (h : ∀ a, g a = s.heap.get? a) : obsMG n fa fn ex g = (hookM n fa fn ex).obs s := by
  rw [show g = s.heap.get? from funext h] <;> rfl
section
variable {fa : List He.Fa} {fn : List He.DefD} {ex : List FB} {K : PySem.W.Frag}
theorem SaysM.d (c : SaysM fa fn ex K) : He.SaysD fa fn K := congrArg (fun z : AlM => z.1) c
theorem SaysM.x (c : SaysM fa fn ex K) (i : Nat) {b : FB} (h : ex[i]? = some b := by rfl) : b K = true :=
  List.all_eq_true.mp (show (ex.all fun b => b K) = true from congrArg (fun z : AlM => z.2) c) b (List.mem_of_getElem? h)
theorem SaysM.f (c : SaysM fa fn ex K) (i : Nat) {f : He.Fa} (h : fa[i]? = some f := by rfl) : f.ok K = true := c.d.fact i h
end
/-! ### the end -/
theorem only_rep {K : PySem.W.Frag} {H : Hp} {a : Addr} {ns : List Int} (ho : Only H) (h : SqL K H a (ns.map V.int)) : Fzl K H a (ns.map V.int) := by
  rcases h with (h | ⟨o, h⟩) | h
  · rcases ho a with e | ⟨o, xs, e⟩
    · rw [e] at h; cases h
    · rw [e] at h; cases h
  · exact .inl ⟨o, h⟩
  · exact .inr (.inr h)
theorem reps_ints {K : PySem.W.Frag} {ρ : List Addr} {H : Hp} : ∀ ns : List Int, Reps K ρ H (ns.map V.int) (ns.map Val.int)
  | [] => .nil
  | n :: r => .cons (.int n) (reps_ints r)
theorem walk_M {l : PySem.W.OpenLaw} {n k : Nat} {q : Program} {loose : List Str} {XP : (Str → Option Value) → Heap → Prop} {YP : World → Heap → Prop} {d : DefRec} {x : Str} {Y : PySem.W.Frag → Sy} {g : Fn}
    (hn : l.most = some n) (hn2 : n ≤ sizeLine) (hdf : d.params.defaults = []) (hr : Room k callerA)
    (F : ∀ (w : World) (mg : Str → Option Value) (fa : Addr) (h : Heap), YP w h → h.Ns mainGlobals mg → mg d.name = some (.ref fa) →
      ∃ (K : PySem.W.Frag) (fd : FuncData), K.In h ∧ (∀ (s : Shared) (u : Value), BindsTo s fd ⟨[u], []⟩ [(x, u)]) ∧ ∀ base : Heap, K.In base → base.Ns mainGlobals mg → FnOk l.prog w K mg base (L2.CX l.prog w) k fa fd [x] (spOf K (Y K) 1 g))
    (math : ∀ ns : List Int, ns.length ≤ n → ∃ S, g [.frz (ns.map Val.int)] [] = .ok (.bl true) S) : PySem.W.WalkO q loose XP YP l.row.toRowW d [] (fun f vs => PySem.call f vs) := by
  refine Att.attach_callB hn hdf fun w s0 s1 mg mb fa o pm cd doc a vs ns G Yh ho hd hcd hmg hobj hints hlen hbits hg => ?_
  obtain ⟨K, fd, inK, bd, ok⟩ := F w mg fa _ Yh G.T.g hmg
  refine law_call inK G.T.g G.T.b G.T.builtins G.T.nolimit hg hobj hints (Nat.le_trans hlen hn2) hr ok bd (fun H only sq => ?_) fun H e s' z => ?_
  · obtain ⟨S, em⟩ := math ns hlen
    refine ⟨rfl, [], [.frz (ns.map Val.int)], [], .cons (.frz (only_rep only sq) (reps_ints ns)) .nil, ⟨rfl, List.nodup_nil, fun i b u h _ => by simp at h⟩, ?_⟩
    rw [em]
    intro v ρ' H' _ _ _ r
    cases r
    rfl
  · obtain ⟨_, _, _, _, _, _, _, _, _, _, _, _, no⟩ := z
    exact no.elim
end Mp

set_option Elab.async false
set_option linter.all false
set_option maxRecDepth 100000
set_option maxHeartbeats 1000000
/-! What a meaning comes to: words about outcomes, one rule a combinator. -/
namespace Mp
open PySem PySem.Spec PyProof.Rows L2

abbrev XO := Str → List (Str × Val) → Store → Prop
abbrev noX : XO := fun _ _ _ => False
/-- a mark that what hangs behind is to stand as it is -/
abbrev KP {α : Type} (_ : α → Store → Prop) (_ : XO) : Type := Unit
abbrev KQ {α : Type} (_ : α → Prop) : Type := Unit
/-- the outcome is a value and a store of which P holds | an error of which E holds -/
def wO {α : Type} (o : Out α) (P : α → Store → Prop) (E : XO) (_ : KP P E := Unit.unit) : Prop := match o with
  | .ok x S => P x S
  | .err c fs S => E c fs S
  | .bad => False
/-- what an option holds -/
def wP {α : Type} (o : Option α) (Q : α → Prop) (_ : KQ Q := Unit.unit) : Prop := match o with
  | some x => Q x
  | none => False
structure RP where
  nx : En → Store → Prop
  rt : Val → Store → Prop
  bk : En → Store → Prop
  ct : En → Store → Prop
  er : Str → List (Str × Val) → En → Store → Prop
abbrev KR (_ : RP) : Type := Unit
def wR (r : Res) (P : RP) (_ : KR P := Unit.unit) : Prop := match r with
  | .nx e S => P.nx e S
  | .rt v S => P.rt v S
  | .bk e S => P.bk e S
  | .ct e S => P.ct e S
  | .er c fs e S => P.er c fs e S
  | .bad => False
@[simp] theorem wP_some {α : Type} {x : α} {Q : α → Prop} : wP (some x) Q = Q x := rfl
@[simp] theorem wP_none {α : Type} {Q : α → Prop} : wP none Q = False := rfl
theorem wP_of {α : Type} {o : Option α} {x : α} {Q : α → Prop} (e : o = some x) (h : Q x) : wP o Q := by rw [e]; exact h
theorem wP_ex {α : Type} {o : Option α} {Q : α → Prop} (h : wP o Q) : ∃ x, o = some x ∧ Q x := by
  cases o with
  | none => exact h.elim
  | some x => exact ⟨x, rfl, h⟩
def slot (env : En) (i : Nat) : Option Val := (env[i]?).bind id
@[simp] theorem slot_def {env : En} {i : Nat} : slot env i = (env[i]?).bind id := rfl
@[simp] def asB : Val → Option Bool
  | .bl b => some b
  | _ => none
@[simp] def asI : Val → Option Int
  | .int i => some i
  | _ => none
@[simp] def as1 : List Val → Option Val
  | [x] => some x
  | _ => none
@[simp] def as2 : List Val → Option (Val × Val)
  | [x, y] => some (x, y)
  | _ => none
@[simp] def asI1 : List Val → Option Int
  | [.int i] => some i
  | _ => none
@[simp] def asI2 : List Val → Option (Int × Int)
  | [.int i, .int j] => some (i, j)
  | _ => none
theorem wO.mono {α : Type} {o : Out α} {P P' : α → Store → Prop} {E E' : XO} (h : wO o P E) (hp : ∀ x S, P x S → P' x S) (he : ∀ c fs S, E c fs S → E' c fs S) : wO o P' E' := by
  cases o with
  | ok x S => exact hp x S h
  | err c fs S => exact he c fs S h
  | bad => exact h
theorem wO.imp {α : Type} {o : Out α} {P P' : α → Store → Prop} {E : XO} (h : wO o P noX) (hp : ∀ x S, P x S → P' x S) : wO o P' E := h.mono hp fun _ _ _ z => z.elim
theorem wO_of {α : Type} {o : Out α} {x : α} {S : Store} {P : α → Store → Prop} {E : XO} (e : o = .ok x S) (h : P x S) : wO o P E := by rw [e]; exact h
theorem wO_ok {α : Type} {o : Out α} {P : α → Store → Prop} (h : wO o P noX) : ∃ x S, o = .ok x S ∧ P x S := by
  cases o with
  | ok x S => exact ⟨x, S, rfl, h⟩
  | err c fs S => exact h.elim
  | bad => exact h.elim
theorem wR.mono {r : Res} {P P' : RP} (h : wR r P) (h1 : ∀ e S, P.nx e S → P'.nx e S) (h2 : ∀ v S, P.rt v S → P'.rt v S) (h3 : ∀ e S, P.bk e S → P'.bk e S) (h4 : ∀ e S, P.ct e S → P'.ct e S) (h5 : ∀ c fs e S, P.er c fs e S → P'.er c fs e S) : wR r P' := by
  cases r with
  | nx e S => exact h1 e S h
  | rt v S => exact h2 v S h
  | bk e S => exact h3 e S h
  | ct e S => exact h4 e S h
  | er c fs e S => exact h5 c fs e S h
  | bad => exact h
section
variable {α β : Type} {env : En} {S : Store} {E : XO} {P : α → Store → Prop} {Q : β → Store → Prop} {PV : Val → Store → Prop} {PB : Bool → Store → Prop} {PL : List Val → Store → Prop} {R : RP}
theorem wO_ext {o : Out α} {P P' : α → Store → Prop} (h : ∀ x S, P x S = P' x S) : wO o P E = wO o P' E := by
  obtain rfl : P = P' := by funext x S; exact h x S
  rfl
@[simp] theorem wO_okE {x : α} : wO (.ok x S) P E = P x S := rfl
@[simp] theorem wO_errE {c : Str} {fs : List (Str × Val)} : wO (α := α) (.err c fs S) P E = E c fs S := rfl
@[simp] theorem wO_badE : wO (α := α) .bad P E = False := rfl
@[simp] theorem wO_bind {o : Out α} {k : α → Store → Out β} : wO (o.bind k) Q E = wO o (fun x S1 => wO (k x S1) Q E) E := by cases o <;> rfl
@[simp] theorem wO_tie {o : Out α} {k : α → Store → Out β} : wO (o.tie k) Q E = wO o (fun x S1 => wO (k x S1) Q E) noX := by cases o <;> rfl
@[simp] theorem wR_toS {o : Out α} {k : α → Store → Res} : wR (o.toS env k) R = wO o (fun x S1 => wR (k x S1) R) (fun c fs S1 => R.er c fs env S1) := by cases o <;> rfl
@[simp] theorem wR_nx : wR (.nx env S) R = R.nx env S := rfl
@[simp] theorem wR_rt {v : Val} : wR (.rt v S) R = R.rt v S := rfl
@[simp] theorem wR_bk : wR (.bk env S) R = R.bk env S := rfl
@[simp] theorem wR_ct : wR (.ct env S) R = R.ct env S := rfl
@[simp] theorem wR_er {c : Str} {fs : List (Str × Val)} : wR (.er c fs env S) R = R.er c fs env S := rfl
@[simp] theorem wR_bad : wR .bad R = False := rfl
@[simp] theorem wO_eV {i : Nat} : wO (eV i env S) PV E = wP (slot env i) fun x => PV x S := by
  unfold eV slot
  cases h : env[i]? with
  | none => rfl
  | some o => cases o <;> rfl
@[simp] theorem wO_eC {x : Val} : wO (eC x env S) PV E = PV x S := rfl
@[simp] theorem wO_eB2 {op : BOp} {a b : En → Store → Out Val} : wO (eB2 op a b env S) PV E = wO (a env S) (fun x S1 => wO (b env S1) (fun y S2 => wO (op x y S2) PV E) E) E := wO_bind.trans (wO_ext fun _ _ => wO_bind)
@[simp] theorem wO_toB {v : Val} : wO (toB v S) PB E = wP (asB v) fun b => PB b S := by
  cases v <;> rfl
@[simp] theorem wO_bV {f : En → Store → Out Val} : wO (bV f env S) PB E = wO (f env S) (fun v S1 => wP (asB v) fun b => PB b S1) E := wO_bind.trans (wO_ext fun _ _ => wO_toB)
@[simp] theorem wO_bAnd {a b : En → Store → Out Bool} : wO (bAnd a b env S) PB E = wO (a env S) (fun x S1 => if x = true then wO (b env S1) PB E else PB false S1) E := by
  refine wO_bind.trans (wO_ext fun x S1 => ?_); cases x <;> rfl
@[simp] theorem wO_bOr {a b : En → Store → Out Bool} : wO (bOr a b env S) PB E = wO (a env S) (fun x S1 => if x = true then PB true S1 else wO (b env S1) PB E) E := by
  refine wO_bind.trans (wO_ext fun x S1 => ?_); cases x <;> rfl
@[simp] theorem wO_bNot {a : En → Store → Out Bool} : wO (bNot a env S) PB E = wO (a env S) (fun x S1 => PB (!x) S1) E := wO_bind
@[simp] theorem wO_eAnd {a b : En → Store → Out Val} : wO (eAnd a b env S) PV E = wO (a env S) (fun x S1 => wP (asB x) fun k => if k = true then wO (b env S1) PV E else PV (.bl false) S1) E := by
  refine wO_bind.trans (wO_ext fun x S1 => ?_); cases x <;> first | rfl | skip
  rename_i k; cases k <;> rfl
@[simp] theorem wO_eOr {a b : En → Store → Out Val} : wO (eOr a b env S) PV E = wO (a env S) (fun x S1 => wP (asB x) fun k => if k = true then PV (.bl true) S1 else wO (b env S1) PV E) E := by
  refine wO_bind.trans (wO_ext fun x S1 => ?_); cases x <;> first | rfl | skip
  rename_i k; cases k <;> rfl
@[simp] theorem wO_eNot {a : En → Store → Out Val} : wO (eNot a env S) PV E = wO (a env S) (fun x S1 => wP (asB x) fun k => PV (.bl (!k)) S1) E := by
  refine wO_bind.trans (wO_ext fun x S1 => ?_); cases x <;> rfl
@[simp] theorem wO_eIf {c : En → Store → Out Bool} {a b : En → Store → Out Val} : wO (eIf c a b env S) PV E = wO (c env S) (fun x S1 => if x = true then wO (a env S1) PV E else wO (b env S1) PV E) E := by
  refine wO_bind.trans (wO_ext fun x S1 => ?_); cases x <;> rfl
@[simp] theorem wO_aNil : wO (aNil env S) PL E = PL [] S := rfl
@[simp] theorem wO_aCons {f : En → Store → Out Val} {r : En → Store → Out (List Val)} : wO (aCons f r env S) PL E = wO (f env S) (fun x S1 => wO (r env S1) (fun xs S2 => PL (x :: xs) S2) E) E := wO_bind.trans (wO_ext fun _ _ => wO_bind)
@[simp] theorem wO_eTup {r : En → Store → Out (List Val)} : wO (eTup r env S) PV E = wO (r env S) (fun xs S1 => xs.length ≤ LIM ∧ PV (.tup xs) S1) E := by
  refine wO_bind.trans (wO_ext fun xs S1 => ?_); by_cases h : xs.length ≤ LIM <;> simp [h]
@[simp] theorem wO_eLst {r : En → Store → Out (List Val)} : wO (eLst r env S) PV E = wO (r env S) (fun xs S1 => xs.length ≤ LIM ∧ PV (.ref S1.length) (S1 ++ [.lst xs])) E := by
  refine wO_bind.trans (wO_ext fun xs S1 => ?_); by_cases h : xs.length ≤ LIM <;> simp [h]
@[simp] theorem wO_eDk : wO (eDk env S) PV E = PV (.ref S.length) (S ++ [.dk []]) := rfl
@[simp] theorem wO_eDt : wO (eDt env S) PV E = PV (.ref S.length) (S ++ [.dt []]) := rfl
@[simp] theorem wO_eNeg {a : En → Store → Out Val} : wO (eNeg a env S) PV E = wO (a env S) (fun x S1 => wP (asI x) fun i => PV (.int (-i)) S1) E := by
  refine wO_bind.trans (wO_ext fun x S1 => ?_); cases x <;> rfl
@[simp] theorem wO_eCall {g : Fn} {a : En → Store → Out (List Val)} : wO (eCall g a env S) PV E = wO (a env S) (fun xs S1 => wO (g xs S1) PV E) E := wO_bind
@[simp] theorem wO_eIsT {T : String} {f : En → Store → Out Val} : wO (eIsT T f env S) PV E = wO (f env S) (fun x S1 => wP (tyOf S1 x) fun t => t ∈ tyNames ∧ PV (.bl (subTy t T)) S1) E := by
  refine wO_bind.trans (wO_ext fun x S1 => ?_)
  split
  · rename_i t h; by_cases q : t ∈ tyNames <;> simp [h, q]
  · rename_i h; simp [h]
@[simp] theorem wO_pNo {PO : Option Int → Store → Prop} : wO (pNo env S) PO E = PO none S := rfl
@[simp] theorem wO_pSome {PO : Option Int → Store → Prop} {f : En → Store → Out Val} : wO (pSome f env S) PO E = wO (f env S) (fun x S1 => wP (asI x) fun i => PO (some i) S1) E := by
  refine wO_bind.trans (wO_ext fun x S1 => ?_); cases x <;> rfl
@[simp] theorem wO_eSl {f : En → Store → Out Val} {l h : En → Store → Out (Option Int)} : wO (eSl f l h env S) PV E = wO (f env S) (fun x S1 => wO (l env S1) (fun lo S2 => wO (h env S2) (fun hi S3 => wO (vSl x lo hi S3) PV E) E) E) E := wO_bind.trans (wO_ext fun _ _ => wO_bind.trans (wO_ext fun _ _ => wO_bind))
/-! ### statements -/
@[simp] theorem wR_sNil : wR (sNil env S) R = R.nx env S := rfl
@[simp] theorem wR_sBrk : wR (sBrk env S) R = R.bk env S := rfl
@[simp] theorem wR_sCt : wR (sCt env S) R = R.ct env S := rfl
@[simp] theorem wR_sSeq {g h : En → Store → Res} : wR (sSeq g h env S) R = wR (g env S) { R with nx := fun e S1 => wR (h e S1) R } := by
  simp only [sSeq]; cases g env S <;> rfl
@[simp] theorem wR_sExpr {f : En → Store → Out Val} : wR (sExpr f env S) R = wO (f env S) (fun _ S1 => R.nx env S1) (fun c fs S1 => R.er c fs env S1) := wR_toS
@[simp] theorem wR_sRet {f : En → Store → Out Val} : wR (sRet f env S) R = wO (f env S) (fun v S1 => R.rt v S1) (fun c fs S1 => R.er c fs env S1) := wR_toS
@[simp] theorem wR_sRetN : wR (sRetN env S) R = R.rt .non S := rfl
@[simp] theorem wR_sIf {c : En → Store → Out Bool} {g h : En → Store → Res} : wR (sIf c g h env S) R = wO (c env S) (fun b S1 => if b = true then wR (g env S1) R else wR (h env S1) R) (fun c fs S1 => R.er c fs env S1) := by
  refine wR_toS.trans (wO_ext fun b S1 => ?_); cases b <;> rfl
@[simp] theorem wR_sAsg {f : En → Store → Out Val} {t : Tgt} : wR (sAsg f t env S) R = wO (f env S) (fun x S1 => wP (t x env) fun e => R.nx e S1) (fun c fs S1 => R.er c fs env S1) := by
  refine wR_toS.trans (wO_ext fun x S1 => ?_)
  split <;> rename_i h <;> simp [h]
@[simp] theorem gN_ap {i : Nat} {x : Val} : gN i x env = some (env.set i (some x)) := rfl
@[simp] theorem gNo_ap : gNo [] env = some env := rfl
@[simp] theorem gCo_ap {t : Tgt} {u : Tgts} {x : Val} {r : List Val} : gCo t u (x :: r) env = (t x env).bind fun e => u r e := rfl
@[simp] theorem wR_sPar {i j : Nat} {r : En → Store → Out (List Val)} : wR (sPar i j r env S) R = wO (r env S) (fun xs S1 => wP (as2 xs) fun p => R.nx ((env.set i (some p.1)).set j (some p.2)) S1) (fun c fs S1 => R.er c fs env S1) := by
  refine wR_toS.trans (wO_ext fun xs S1 => ?_)
  match xs with
  | [] => rfl
  | [_] => rfl
  | [x, y] => rfl
  | _ :: _ :: _ :: _ => rfl
@[simp] theorem wR_sPutIx {f fo fi : En → Store → Out Val} : wR (sPutIx f fo fi env S) R = wO (f env S) (fun v S1 => wO (fo env S1) (fun d S2 => wO (fi env S2) (fun i S3 => wP (putIx d i v S3) fun S4 => R.nx env S4) fun c fs S1 => R.er c fs env S1) fun c fs S1 => R.er c fs env S1) (fun c fs S1 => R.er c fs env S1) := by
  refine wR_toS.trans (wO_ext fun v S1 => wR_toS.trans (wO_ext fun d S2 => wR_toS.trans (wO_ext fun i S3 => ?_)))
  unfold kPutIx
  cases putIx d i v S3 <;> rfl
@[simp] theorem wR_sRaise0 {c : Str} : wR (sRaise0 c env S) R = R.er c [] env S := rfl
@[simp] theorem wR_sRaise1 {c n : Str} {f : En → Store → Out Val} : wR (sRaise1 c n f env S) R = wO (f env S) (fun x S1 => R.er c [(n, x)] env S1) (fun c fs S1 => R.er c fs env S1) := wR_toS
theorem wO_fnB {N n : Nat} {g : En → Store → Res} {xs : List Val} {E : XO} (h : xs.length = n) : wO (fnB N n g xs S) PV E = wR (g (xs.map some ++ List.replicate (N - n) none) S) ⟨fun _ S1 => PV .non S1, PV, fun _ _ => False, fun _ _ => False, fun c fs _ S1 => E c fs S1⟩ := by
  unfold fnB
  rw [if_pos h]
  cases g (xs.map some ++ List.replicate (N - n) none) S <;> rfl
/-! ### walks -/
theorem wR_forX {ck : Store → Prop} {t : Tgt} {g : En → Store → Res} (xs : List Val) (I : Nat → En → Store → Prop) (h0 : I 0 env S)
    (hs : ∀ i x e S, xs[i]? = some x → I i e S → ck S ∧ ∃ e1, t x e = some e1 ∧ wR (g e1 S) ⟨I (i + 1), R.rt, R.nx, I (i + 1), R.er⟩) (hn : ∀ e S, I xs.length e S → ck S ∧ R.nx e S) : wR (forX ck t g xs env S) R := by
  induction xs generalizing env S I with
  | nil =>
    obtain ⟨h1, h2⟩ := hn env S h0
    simp only [forX, if_pos h1]
    exact h2
  | cons x r ih =>
    obtain ⟨h1, e1, h2, h3⟩ := hs 0 x env S rfl h0
    simp only [forX, if_pos h1, h2]
    have next : ∀ e S, I 1 e S → wR (forX ck t g r e S) R := fun e S hI => ih (fun i => I (i + 1)) hI (fun i x e S hx hI => hs (i + 1) x e S hx hI) (fun e S hI => hn e S hI)
    cases hg : g e1 S with
    | nx e2 S2 => rw [hg] at h3; exact next e2 S2 h3
    | ct e2 S2 => rw [hg] at h3; exact next e2 S2 h3
    | bk e2 S2 => rw [hg] at h3; exact h3
    | rt v S2 => rw [hg] at h3; exact h3
    | er c fs e2 S2 => rw [hg] at h3; exact h3
    | bad => rw [hg] at h3; exact h3
theorem wR_sFor {fi : En → Store → Out Itm} {t : Tgt} {g : En → Store → Res} : wR (sFor fi t g env S) R = wO (fi env S) (fun p S1 => wR (forX p.2 t g p.1 env S1) R) (fun c fs S1 => R.er c fs env S1) := wR_toS
variable {PI : Itm → Store → Prop}
@[simp] theorem wO_iSeq {f : En → Store → Out Val} : wO (iSeq f env S) PI E = wO (f env S) (fun x S1 => wP (walkOf S1 x) fun p => PI p S1) E := by
  refine wO_bind.trans (wO_ext fun x S1 => ?_)
  split <;> rename_i h <;> simp [h]
@[simp] theorem wO_iEnS {f : En → Store → Out (List Val)} : wO (iEnS f env S) PI E = wO (f env S) (fun xs S1 => wP (as1 xs) fun x => wP (walkOf S1 x) fun p => PI (enumOf p) S1) E := by
  refine wO_bind.trans (wO_ext fun xs S1 => ?_)
  match xs with
  | [] => rfl
  | [x] =>
    dsimp only [as1, wP_some]
    cases walkOf S1 x <;> rfl
  | _ :: _ :: _ => rfl
@[simp] theorem wO_iR1 {f : En → Store → Out (List Val)} : wO (iR1 f env S) PI E = wO (f env S) (fun xs S1 => wP (asI1 xs) fun j => (-RNG ≤ j ∧ j < RNG) ∧ PI (upL 0 j.toNat, fun _ => True) S1) E := by
  refine wO_bind.trans (wO_ext fun xs S1 => ?_)
  unfold k1R
  split
  · rename_i j
    simp only [asI1, wP_some]
    by_cases h : -RNG ≤ j ∧ j < RNG
    · rw [if_pos h]; exact propext ⟨fun z => ⟨h, z⟩, fun z => z.2⟩
    · rw [if_neg h]; exact propext ⟨fun z => z.elim, fun z => h z.1⟩
  · rename_i h
    have e : asI1 xs = none := by unfold asI1; split <;> first | rfl | (exfalso; exact h _ rfl)
    rw [e]; rfl
@[simp] theorem wO_iR2 {f : En → Store → Out (List Val)} : wO (iR2 f env S) PI E = wO (f env S) (fun xs S1 => wP (asI2 xs) fun p => ((-RNG ≤ p.1 ∧ p.1 < RNG) ∧ -RNG ≤ p.2 ∧ p.2 < RNG) ∧ PI (upL p.1 (p.2 - p.1).toNat, fun _ => True) S1) E := by
  refine wO_bind.trans (wO_ext fun xs S1 => ?_)
  unfold k2R
  split
  · rename_i i j
    simp only [asI2, wP_some]
    by_cases h : (-RNG ≤ i ∧ i < RNG) ∧ -RNG ≤ j ∧ j < RNG
    · rw [if_pos h]; exact propext ⟨fun z => ⟨h, z⟩, fun z => z.2⟩
    · rw [if_neg h]; exact propext ⟨fun z => z.elim, fun z => h z.1⟩
  · rename_i h
    have e : asI2 xs = none := by unfold asI2; split <;> first | rfl | (exfalso; exact h _ _ rfl)
    rw [e]; rfl
def fldOf (cs : List Str) (f : Str) (o : Option (Str × List (Str × Val))) : Option Val := o.bind fun p => if p.1 ∈ cs then p.2.lookup f else none
@[simp] theorem wO_eFld {cs : List Str} {f : Str} {g : En → Store → Out Val} : wO (eFld cs f g env S) PV E = wO (g env S) (fun x S1 => wP (fldOf cs f (insOf S1 x)) fun v => PV v S1) E := by
  refine wO_bind.trans (wO_ext fun x S1 => ?_)
  cases h : insOf S1 x with
  | none => rfl
  | some p =>
    obtain ⟨c, fs⟩ := p
    simp only [fldOf, Option.bind_some]
    by_cases q : c ∈ cs
    · rw [if_pos q, if_pos q]
      cases fs.lookup f <;> rfl
    · rw [if_neg q, if_neg q]; rfl
end
end Mp

set_option Elab.async false
set_option linter.all false
set_option maxRecDepth 100000
set_option maxHeartbeats 1000000
/-! .. and of operators, built-ins, stores. -/
namespace Mp
open PySem PySem.Spec PyProof.Rows L2
@[simp] theorem atI_lit {α : Type} {xs : List α} {k : Nat} : atI xs (no_index (OfNat.ofNat k : Int)) = xs[k]? := by
  have e : atI xs ((k : Nat) : Int) = xs[k]? := by
    cases h : xs[k]? with
    | some v => exact atI_nat h
    | none =>
      have hl := List.getElem?_eq_none_iff.mp h
      unfold atI ixN
      rw [if_pos (by omega), if_neg (by omega)]
      rfl
  exact e
@[simp] theorem atI_cast {α : Type} {xs : List α} {k : Nat} : atI xs (k : Int) = xs[k]? := atI_lit (k := k)
@[simp] theorem atI_zero {α : Type} {xs : List α} : atI xs 0 = xs[0]? := atI_lit (k := 0)
@[simp] theorem atI_one {α : Type} {xs : List α} : atI xs 1 = xs[1]? := atI_lit (k := 1)
section
variable {S : Store} {E : XO} {P : Val → Store → Prop} {i j : Int} {n : Nat} {xs ys : List Val} {v x y : Val}
@[simp] theorem wO_addI : wO (vAdd (.int i) (.int j) S) P E = P (.int (i + j)) S := rfl
@[simp] theorem wO_addT : wO (vAdd (.tup xs) (.tup ys) S) P E = (xs.length + ys.length ≤ LIM ∧ P (.tup (xs ++ ys)) S) := by
  simp only [vAdd]; by_cases h : xs.length + ys.length ≤ LIM <;> simp [h]
@[simp] theorem wO_addL {m : Nat} (h1 : S[n]? = some (.lst xs)) (h2 : S[m]? = some (.lst ys)) : wO (vAdd (.ref n) (.ref m) S) P E = (xs.length + ys.length ≤ LIM ∧ P (.ref S.length) (S ++ [.lst (xs ++ ys)])) := by
  simp only [vAdd, h1, h2]; by_cases h : xs.length + ys.length ≤ LIM <;> simp [h]
@[simp] theorem wO_vI2 {g : Int → Int → Val} : wO (vI2 g (.int i) (.int j) S) P E = P (g i j) S := rfl
@[simp] theorem wO_vIC {C : Int → Int → Prop} [∀ i j, Decidable (C i j)] {g : Int → Int → Int} : wO (vIC C g (.int i) (.int j) S) P E = (C i j ∧ P (.int (g i j)) S) := by
  simp only [vIC]; by_cases h : C i j <;> simp [h]
@[simp] theorem wO_ordI {g : Int → Int → Bool} {t : List Int → List Int → Bool} : wO (vOrd g t (.int i) (.int j) S) P E = P (.bl (g i j)) S := rfl
@[simp] theorem wO_ordT {g : Int → Int → Bool} {t : List Int → List Int → Bool} : wO (vOrd g t (.tup xs) (.tup ys) S) P E = wP (intsOf xs) fun ns => wP (intsOf ys) fun ms => P (.bl (t ns ms)) S := by
  simp only [vOrd]
  cases intsOf xs <;> cases intsOf ys <;> rfl
@[simp] theorem wO_is : wO (vIs x y S) P E = wP (isV x y) fun k => P (.bl k) S := by
  unfold vIs; cases isV x y <;> rfl
@[simp] theorem wO_isN : wO (vIsN x y S) P E = wP (isV x y) fun k => P (.bl (!k)) S := by
  unfold vIsN; cases isV x y <;> rfl
@[simp] theorem wO_eq : wO (vEq x y S) P E = wP (eqv1 S x y) fun k => P (.bl k) S := by
  unfold vEq; cases eqv1 S x y <;> rfl
@[simp] theorem wO_ne : wO (vNe x y S) P E = wP (eqv1 S x y) fun k => P (.bl (!k)) S := by
  unfold vNe; cases eqv1 S x y <;> rfl
@[simp] theorem eqv1_int : eqv1 S (.int i) (.int j) = some (decide (i = j)) := by
  have h1 : SeqAt.shaped (.int i) = true := rfl
  have h2 : SeqAt.shaped (.int j) = true := rfl
  simp only [eqv1, toD1, toD, Option.bind_some, h1, h2, and_self, if_true, PyData.eqv]
  rfl
@[simp] def ixR (o : Option Ob) (i : Int) : Option Val := match o with
  | some (.lst xs) => atI xs i
  | some (.dk kvs) => lookK kvs (.inl i)
  | _ => none
@[simp] def ixRT (o : Option Ob) (ys : List Val) : Option Val := match o with
  | some (.dt kvs) => (keysOf ys).bind fun k => lookK kvs k
  | _ => none
@[simp] theorem wO_ixR : wO (vIx (.ref n) (.int i) S) P E = wP (ixR S[n]? i) fun z => P z S := by
  unfold vIx
  cases h : S[n]? with
  | none => simp [dLook, itemsOf, getL, h]
  | some o =>
    cases o with
    | lst xs => simp only [dLook, itemsOf, getL, h, ixR]; cases e : atI xs i <;> simp
    | dk kvs => simp only [dLook, h, keyOf, Option.map_some, ixR]; cases e : lookK kvs (.inl i) <;> simp
    | dt kvs => simp [dLook, itemsOf, getL, h, tkeyOf]
    | ins c fs => simp [dLook, itemsOf, getL, h]
@[simp] theorem wO_ixRT : wO (vIx (.ref n) (.tup ys) S) P E = wP (ixRT S[n]? ys) fun z => P z S := by
  unfold vIx
  cases h : S[n]? with
  | none => simp [dLook, itemsOf, getL, h]
  | some o =>
    cases o with
    | lst xs => simp [dLook, itemsOf, getL, h]
    | dk kvs => simp [dLook, itemsOf, getL, h, keyOf]
    | dt kvs =>
      simp only [dLook, h, tkeyOf, ixRT]
      cases e : keysOf ys with
      | none => simp [itemsOf, getL, h]
      | some k => simp only [Option.map_some, Option.bind_some]; cases e2 : lookK kvs k <;> simp
    | ins c fs => simp [dLook, itemsOf, getL, h]
@[simp] theorem wO_ixT : wO (vIx (.tup xs) (.int i) S) P E = wP (atI xs i) fun z => P z S := by
  simp only [vIx, dLook, itemsOf]; cases e : atI xs i <;> simp
@[simp] theorem wO_ixF : wO (vIx (.frz xs) (.int i) S) P E = wP (atI xs i) fun z => P z S := by
  simp only [vIx, dLook, itemsOf, getL]; cases e : atI xs i <;> simp
@[simp] def lenR (S : Store) (x : Val) : Option Nat := match x with
  | .str z => if z.length ≤ LIM then some z.length else none
  | .tup xs => some xs.length
  | .frz xs => some xs.length
  | .ref n => (match S[n]? with
    | some (.lst xs) => some xs.length
    | some (.dk xs) => some xs.length
    | _ => none)
  | _ => none
@[simp] theorem wO_len : wO (fLen [x] S) P E = wP (lenR S x) fun k => P (.int (k : Nat)) S := by
  cases x with
  | str z => simp only [fLen, lenR]; by_cases h : z.length ≤ LIM <;> simp [h]
  | ref n =>
    simp only [fLen, lenR]
    cases h : S[n]? with
    | none => rfl
    | some o => cases o <;> rfl
  | _ => rfl
@[simp] theorem wO_fInt : wO (fInt [.int i] S) P E = P (.int i) S := rfl
@[simp] theorem wO_fList : wO (fList [x] S) P E = wP (itemsOf S x) fun xs => P (.ref S.length) (S ++ [.lst xs]) := by
  simp only [fList]; cases itemsOf S x <;> rfl
@[simp] theorem wO_fTuple : wO (fTuple [x] S) P E = wP (itemsOf S x) fun xs => P (.tup xs) S := by
  simp only [fTuple]; cases itemsOf S x <;> rfl
@[simp] theorem itemsOf_tup : itemsOf S (.tup xs) = some xs := rfl
@[simp] theorem itemsOf_frz : itemsOf S (.frz xs) = some xs := rfl
@[simp] theorem itemsOf_ref : itemsOf S (.ref n) = match S[n]? with | some (.lst xs) => some xs | _ => none := rfl
@[simp] theorem getL_ref : getL S (.ref n) = match S[n]? with | some (.lst xs) => some xs | _ => none := rfl
@[simp] theorem walkOf_tup : walkOf S (.tup xs) = some (xs, fun _ => True) := rfl
@[simp] theorem wO_min2 : wO (fMin2 [.int i, .int j] S) P E = P (.int (min i j)) S := by
  have e : (if j < i then j else i) = min i j := by split <;> omega
  show P (.int (if j < i then j else i)) S = _
  rw [e]
@[simp] theorem wO_max2 : wO (fMax2 [.int i, .int j] S) P E = P (.int (max i j)) S := by
  have e : (if j > i then j else i) = max i j := by split <;> omega
  show P (.int (if j > i then j else i)) S = _
  rw [e]
@[simp] theorem wO_slT {lo hi : Option Int} : wO (vSl (.tup xs) lo hi S) P E = P (.tup (cutL xs lo hi)) S := rfl
@[simp] theorem putIx_ref : putIx (.ref n) x v S = match S[n]? with
    | some (.lst xs) => (match x with
      | .int j => (ixN xs.length j).map fun m => S.set n (.lst (xs.set m v))
      | _ => none)
    | some (.dk kvs) => (keyOf x).bind fun k => if kvs.length < LIM then some (S.set n (.dk (putD kvs k v))) else none
    | some (.dt kvs) => (tkeyOf x).bind fun k => if kvs.length < LIM then some (S.set n (.dt (putD kvs k v))) else none
    | _ => none := by
  cases h : S[n]? with
  | none => simp only [putIx, h]
  | some o =>
    cases o with
    | lst xs => cases x <;> simp only [putIx, h]
    | _ => simp only [putIx, h]
@[simp] theorem ixN_lit {m k : Nat} : ixN m (no_index (OfNat.ofNat k : Int)) = if k < m then some k else none := by
  show ixN m ((k : Nat) : Int) = _
  unfold ixN
  by_cases h : k < m
  · rw [if_pos (by omega), if_pos (by omega), if_pos h]; rfl
  · rw [if_pos (by omega), if_neg (by omega), if_neg h]
@[simp] theorem ixN_cast {m k : Nat} : ixN m (k : Int) = if k < m then some k else none := ixN_lit (k := k)
@[simp] theorem ixN_zero {m : Nat} : ixN m 0 = if 0 < m then some 0 else none := ixN_lit (k := 0)
@[simp] theorem ixN_one {m : Nat} : ixN m 1 = if 1 < m then some 1 else none := ixN_lit (k := 1)
/-- list methods -/
@[simp] def refL (S : Store) (x : Val) : Option (Nat × List Val) := match x with
  | .ref n => (match S[n]? with
    | some (.lst xs) => some (n, xs)
    | _ => none)
  | _ => none
@[simp] theorem wO_eLm {g : Lm} {fo : En → Store → Out Val} {ga : En → Store → Out (List Val)} {env : En} : wO (eLm g fo ga env S) P E = wO (fo env S) (fun x S1 => wP (refL S1 x) fun _ => wO (ga env S1) (fun ys S2 => wP (refL S2 x) fun p => wO (g p.1 p.2 ys S2) P E) E) E := by
  refine wO_bind.trans (wO_ext fun x S1 => ?_)
  cases x with
  | ref n =>
    simp only [lmA, refL]
    cases h : S1[n]? with
    | none => rfl
    | some o =>
      cases o with
      | lst zs =>
        refine wO_bind.trans (wO_ext fun ys S2 => ?_)
        unfold lmK
        cases h2 : S2[n]? with
        | none => rfl
        | some o2 => cases o2 <;> rfl
      | _ => rfl
  | _ => rfl
@[simp] theorem wO_lAppend : wO (lAppend n xs [y] S) P E = (xs.length < LIM ∧ P .non (S.set n (.lst (xs ++ [y])))) := by
  simp only [lAppend]; by_cases h : xs.length < LIM <;> simp [h]
end
theorem cm_ok {i j : Int} (h1 : i.natAbs < 2 ^ 64) (h2 : j.natAbs < 2 ^ 64) : CM i j := by
  have : (2 : Nat) ^ 64 ≤ 2 ^ 2000 := Nat.pow_le_pow_right (by decide) (by decide)
  exact ⟨by omega, by omega⟩
end Mp

set_option Elab.async false
set_option linter.all false
set_option maxRecDepth 100000
set_option maxHeartbeats 1000000
/-! Rows of ints, sorted; comprehensions without an effect; dicts. -/
namespace Mp
open PySem PySem.Spec PyProof.Rows L2
def tI (ns : List Int) : Val := .tup (ns.map .int)
theorem toDs_ints : ∀ ns : List Int, toDs (ns.map .int) = some (ns.map .int)
  | [] => rfl
  | n :: r => by
    show (toD (.int n)).bind (fun d => (toDs (r.map .int)).map fun ds => d :: ds) = _
    rw [toDs_ints r]
    rfl
theorem toD_tI (ns : List Int) : toD (tI ns) = some (.tuple (ns.map .int)) := by
  show (toDs (ns.map .int)).map PyData.tuple = _
  rw [toDs_ints]; rfl
theorem toDs_rows : ∀ K : List (List Int), toDs (K.map tI) = some (K.map fun ns => .tuple (ns.map .int))
  | [] => rfl
  | ns :: r => by
    show (toD (tI ns)).bind (fun d => (toDs (r.map tI)).map fun ds => d :: ds) = _
    rw [toDs_rows r, toD_tI]
    rfl
theorem alikeAll_ints : ∀ ns ms : List Int, PySem.W.alikeAll (ns.map .int) (ms.map .int) = true
  | [], _ => by unfold PySem.W.alikeAll; rfl
  | _ :: _, [] => by unfold PySem.W.alikeAll; rfl
  | n :: ns, m :: ms => by
    show PySem.W.alikeAll (.int n :: ns.map .int) (.int m :: ms.map .int) = true
    unfold PySem.W.alikeAll
    rw [alikeAll_ints ns ms]
    rfl
theorem lt_tup_list (xs ys : List PyData) : PySem.W.dataLt (.tuple xs) (.tuple ys) = PySem.W.dataLt (.list xs) (.list ys) := by
  simp only [PySem.W.dataLt, PySem.W.keyToks]
theorem leV_tI (a b : List Int) : leV (tI a) (tI b) = decide (a ≤ b) := by
  have h : (!PySem.W.dataLt (.list (b.map .int)) (.list (a.map .int))) = decide (a ≤ b) := congrFun (congrFun (PySem.W.dataLe_rows (fun x : List Int => x)) a) b
  have e1 : dOf (tI a) = .tuple (a.map .int) := dOf_of (toD_tI a)
  have e2 : dOf (tI b) = .tuple (b.map .int) := dOf_of (toD_tI b)
  show (!PySem.W.dataLt (dOf (tI b)) (dOf (tI a))) = _
  rw [e1, e2, lt_tup_list, h]
theorem leV_int (a b : Int) : leV (.int a) (.int b) = decide (a ≤ b) := by
  have h := congrFun (congrFun (PySem.W.dataLe_int (fun x : Int => x)) a) b
  rw [← h]
  rfl
theorem depthAll_ints : ∀ ns : List Int, PyData.depthAll (ns.map PyData.int) = 0
  | [] => by simp [PyData.depthAll]
  | n :: r => by
    show PyData.depthAll (.int n :: r.map PyData.int) = 0
    simp [PyData.depthAll, PyData.depth, depthAll_ints r]
theorem fSorted_rows {S : Store} {l : Nat} {K : List (List Int)} {P : Val → Store → Prop} {E : XO} (hl : S[l]? = some (.lst (K.map tI))) (hne : ∀ k ∈ K, k ≠ []) (hz : K.length ≤ LIM) :
    wO (fSorted [.ref l] S) P E = P (.ref S.length) (S ++ [.lst ((K.mergeSort fun a b => decide (a ≤ b)).map tI)]) := by
  have c : (∃ ds, toDs (K.map tI) = some ds ∧ PySem.W.AllAlike ds ∧ PySem.W.Sortable ds ∧ ∀ d ∈ ds, d.depth ≤ 64) ∧ (K.map tI).length ≤ LIM := by
    refine ⟨⟨_, toDs_rows K, fun d hd d' hd' => ?_, .inl fun d hd => ?_, fun d hd => ?_⟩, by rw [List.length_map]; exact hz⟩
    · obtain ⟨a, _, rfl⟩ := List.mem_map.mp hd
      obtain ⟨b, _, rfl⟩ := List.mem_map.mp hd'
      show PySem.W.alike (.tuple (a.map .int)) (.tuple (b.map .int)) = true
      unfold PySem.W.alike
      exact alikeAll_ints a b
    · obtain ⟨a, ha, rfl⟩ := List.mem_map.mp hd
      cases a with
      | nil => exact absurd rfl (hne _ ha)
      | cons x r => exact ⟨.int x, r.map .int, rfl⟩
    · obtain ⟨a, _, rfl⟩ := List.mem_map.mp hd
      show (PyData.tuple (a.map .int)).depth ≤ 64
      simp [PyData.depth, depthAll_ints]
  simp only [fSorted, getL_ref, hl, if_pos c, wO_okE]
  rw [List.map_mergeSort (r := fun a b => decide (a ≤ b)) (s := leV) (f := tI) fun a _ b _ => (leV_tI a b).symm]
theorem fSorted_ints {S : Store} {l : Nat} {K : List Int} {P : Val → Store → Prop} {E : XO} (hl : S[l]? = some (.lst (K.map .int))) (hz : K.length ≤ LIM) :
    wO (fSorted [.ref l] S) P E = P (.ref S.length) (S ++ [.lst ((K.mergeSort fun a b => decide (a ≤ b)).map .int)]) := by
  have c : (∃ ds, toDs (K.map .int) = some ds ∧ PySem.W.AllAlike ds ∧ PySem.W.Sortable ds ∧ ∀ d ∈ ds, d.depth ≤ 64) ∧ (K.map Val.int).length ≤ LIM := by
    refine ⟨⟨_, toDs_ints K, fun d hd d' hd' => ?_, .inr fun d hd => ?_, fun d hd => ?_⟩, by rw [List.length_map]; exact hz⟩
    · obtain ⟨a, _, rfl⟩ := List.mem_map.mp hd
      obtain ⟨b, _, rfl⟩ := List.mem_map.mp hd'
      simp [PySem.W.alike]
    · obtain ⟨a, ha, rfl⟩ := List.mem_map.mp hd
      exact ⟨fun z => (by cases z), fun xs z => (by cases z)⟩
    · obtain ⟨a, ha, rfl⟩ := List.mem_map.mp hd
      simp [PyData.depth]
  simp only [fSorted, getL_ref, hl, if_pos c, wO_okE]
  rw [List.map_mergeSort (r := fun a b => decide (a ≤ b)) (s := leV) (f := Val.int) fun a _ b _ => (leV_int a b).symm]

/-! ### comprehensions without an effect -/
theorem lc_pure {ck : Store → Prop} {t : Tgt} {tst : En → Store → Out Bool} {el : En → Store → Out Val} {env : En} {S0 : Store} (p : Val → Bool) (f : Val → Val) : ∀ (xs acc : List Val), acc.length + xs.length ≤ LIM →
    (∀ l, ck (S0 ++ [.lst l])) → (∀ x ∈ xs, ∀ l, ∃ e, t x env = some e ∧ tst e (S0 ++ [.lst l]) = .ok (p x) (S0 ++ [.lst l]) ∧ (p x = true → el e (S0 ++ [.lst l]) = .ok (f x) (S0 ++ [.lst l]))) →
    lcX ck t tst el S0.length env xs acc (S0 ++ [.lst acc]) = .ok (.ref S0.length) (S0 ++ [.lst (acc ++ (xs.filter p).map f)])
  | [], acc, _, hc, _ => by
    simp only [lcX, if_pos (hc acc), List.filter_nil, List.map_nil, List.append_nil]
  | x :: r, acc, hl, hc, h => by
    obtain ⟨e, e1, e2, e3⟩ := h x (List.mem_cons_self ..) acc
    rw [List.length_cons] at hl
    simp only [lcX, if_pos (hc acc), e1, e2, Out.tie]
    have ih := fun acc' => lc_pure (ck := ck) (S0 := S0) (t := t) (tst := tst) (el := el) (env := env) p f r acc'
    cases q : p x with
    | false =>
      simp only [Bool.false_eq_true, if_false]
      rw [ih acc (by omega) hc fun y hy => h y (List.mem_cons_of_mem _ hy), List.filter_cons_of_neg (by simp [q])]
    | true =>
      have at_ : (S0 ++ [Ob.lst acc])[S0.length]? = some (.lst acc) := by simp
      have put : (S0 ++ [Ob.lst acc]).set S0.length (.lst (acc ++ [f x])) = S0 ++ [.lst (acc ++ [f x])] := by
        rw [List.set_append_right _ _ (Nat.le_refl _)]
        simp
      have hlt : acc.length < LIM := by omega
      simp only [if_true, e3 q, Out.tie, at_, hlt, and_self, put]
      rw [ih (acc ++ [f x]) (by simp; omega) hc fun y hy => h y (List.mem_cons_of_mem _ hy), List.filter_cons_of_pos q]
      simp
/-- as an expression -/
theorem wO_lc {fi : En → Store → Out Itm} {t : Tgt} {tst : En → Store → Out Bool} {el : En → Store → Out Val} {vs : List Nat} {env : En} {S : Store} {P : Val → Store → Prop} {E : XO} :
    wO (eLc fi t tst el vs env S) P E = wO (fi env S) (fun p S1 => wO (lcX p.2 t tst el S1.length (wipeE env vs) p.1 [] (S1 ++ [.lst []])) P E) E := wO_bind
theorem wO_lcP {ck : Store → Prop} {t : Tgt} {tst : En → Store → Out Bool} {el : En → Store → Out Val} {env : En} {S0 : Store} {P : Val → Store → Prop} {E : XO} {xs : List Val} (p : Val → Bool) (f : Val → Val) (hl : xs.length ≤ LIM) (hc : ∀ l, ck (S0 ++ [.lst l]))
    (h : ∀ x ∈ xs, ∀ l, ∃ e, t x env = some e ∧ tst e (S0 ++ [.lst l]) = .ok (p x) (S0 ++ [.lst l]) ∧ (p x = true → el e (S0 ++ [.lst l]) = .ok (f x) (S0 ++ [.lst l]))) (hP : P (.ref S0.length) (S0 ++ [.lst ((xs.filter p).map f)])) :
    wO (lcX ck t tst el S0.length env xs [] (S0 ++ [.lst []])) P E := by
  rw [lc_pure p f xs [] (by simpa using hl) hc h]
  simpa using hP
/-! ### dicts -/
theorem putD_keys {κ : Type} [DecidableEq κ] {kvs : List (κ × Val)} {k : κ} {v : Val} : (putD kvs k v).map (·.1) = if k ∈ kvs.map (·.1) then kvs.map (·.1) else kvs.map (·.1) ++ [k] := by
  unfold putD
  have e : (kvs.any fun kv => decide (kv.1 = k)) = decide (k ∈ kvs.map (·.1)) := by
    rw [Bool.eq_iff_iff]
    simp
  rw [e]
  by_cases h : k ∈ kvs.map (·.1)
  · rw [if_pos (decide_eq_true h), if_pos h, List.map_map]
    refine List.map_congr_left fun kv _ => ?_
    simp only [Function.comp]
    split <;> rfl
  · rw [if_neg (by simpa using h), if_neg h, List.map_append]
    rfl
theorem putD_mem {κ : Type} [DecidableEq κ] {kvs : List (κ × Val)} {k : κ} {v : Val} {p : κ × Val} (h : p ∈ putD kvs k v) : p = (k, v) ∨ p ∈ kvs := by
  unfold putD at h
  split at h
  · obtain ⟨q, hq, e⟩ := List.mem_map.mp h
    by_cases c : q.1 = k
    · rw [if_pos c] at e; exact .inl (by rw [← e, c])
    · rw [if_neg c] at e; exact .inr (e ▸ hq)
  · rcases List.mem_append.mp h with h | h
    · exact .inr h
    · exact .inl (List.mem_singleton.mp h)
theorem putD_nodup {κ : Type} [DecidableEq κ] {kvs : List (κ × Val)} {k : κ} {v : Val} (h : (kvs.map (·.1)).Nodup) : ((putD kvs k v).map (·.1)).Nodup := by
  rw [putD_keys]
  split
  · exact h
  · rename_i c
    rw [List.nodup_append]
    exact ⟨h, by simp, fun a ha b hb z => by simp at hb; subst hb; subst z; exact c ha⟩
theorem putD_length {κ : Type} [DecidableEq κ] {kvs : List (κ × Val)} {k : κ} {v : Val} : (putD kvs k v).length ≤ kvs.length + 1 := by
  have e := congrArg List.length (putD_keys (kvs := kvs) (k := k) (v := v))
  rw [List.length_map] at e
  rw [e]
  split <;> simp
theorem putD_key {κ : Type} [DecidableEq κ] {kvs : List (κ × Val)} {k : κ} {v : Val} : k ∈ (putD kvs k v).map (·.1) := by
  rw [putD_keys]; split <;> simp_all
theorem putD_old {κ : Type} [DecidableEq κ] {kvs : List (κ × Val)} {k k' : κ} {v : Val} (h : k' ∈ kvs.map (·.1)) : k' ∈ (putD kvs k v).map (·.1) := by
  rw [putD_keys]; split
  · exact h
  · exact List.mem_append_left _ h
theorem lookK_mem {κ : Type} [DecidableEq κ] {kvs : List (κ × Val)} {k : κ} {v : Val} (hn : (kvs.map (·.1)).Nodup) (h : (k, v) ∈ kvs) : lookK kvs k = some v := by
  induction kvs with
  | nil => cases h
  | cons q r ih =>
    rw [List.map_cons, List.nodup_cons] at hn
    unfold lookK
    rcases List.mem_cons.mp h with rfl | h
    · simp
    · have : ¬ q.1 = k := fun z => hn.1 (by rw [z]; exact List.mem_map.mpr ⟨_, h, rfl⟩)
      rw [List.find?_cons_of_neg (by simpa using this)]
      exact ih hn.2 h
end Mp

set_option Elab.async false
set_option linter.all false
set_option maxRecDepth 100000
set_option maxHeartbeats 1000000
/-! Calls that leave the store as it is, but for garbage behind it. -/
namespace Mp
open PySem PySem.Spec PyProof.Rows L2
/-- what a call leaves behind -/
def gar {α : Type} (o : Out α) (S : Store) : Store := match o with
  | .ok _ S' => S'.drop S.length
  | _ => []
/-- a value, and garbage behind the store -/
def Pu {α : Type} (o : Out α) (S : Store) (v : α) : Prop := ∃ T, o = .ok v (S ++ T)
section
variable {α : Type} {o : Out α} {S : Store} {v : α} {P : α → Store → Prop} {E : XO}
theorem Pu.eq (h : Pu o S v) : o = .ok v (S ++ gar o S) := by
  obtain ⟨T, rfl⟩ := h
  simp [gar]
theorem Pu.w (h : Pu o S v) : wO o P E = P v (S ++ gar o S) := by
  have e := h.eq
  calc wO o P E = wO (.ok v (S ++ gar o S)) P E := congrArg (fun z => wO z P E) e
    _ = _ := rfl
/-- what is wanted of a pure call -/
def isP (v : α) (S : Store) : α → Store → Prop := fun x S' => x = v ∧ ∃ T, S' = S ++ T
@[simp] theorem isP_self {x : α} : isP v S x S = (x = v) := propext ⟨fun h => h.1, fun h => ⟨h, [], by simp⟩⟩
@[simp] theorem isP_app {x : α} {T : Store} : isP v S x (S ++ T) = (x = v) := propext ⟨fun h => h.1, fun h => ⟨h, T, rfl⟩⟩
theorem Pu.of (h : wO o (isP v S) noX) : Pu o S v := by
  obtain ⟨x, S', e, rfl, T, rfl⟩ := wO_ok h
  exact ⟨T, e⟩
theorem Pu.ok : Pu (.ok v S) S v := ⟨[], by simp⟩
theorem Pu.ok' {T : Store} : Pu (.ok v (S ++ T)) S v := ⟨T, rfl⟩
theorem Pu.trans {o' : Out α} {T : Store} (h : Pu o (S ++ T) v) : Pu o S v := by
  obtain ⟨T', rfl⟩ := h
  exact ⟨T ++ T', by rw [List.append_assoc]⟩
theorem Pu.wO (h : Pu o S v) : Mp.wO o (isP v S) noX := by
  obtain ⟨T, rfl⟩ := h
  exact ⟨rfl, T, rfl⟩
/-- the same store, perhaps with something behind -/
def Ex (S S' : Store) : Prop := ∃ T, S' = S ++ T
theorem Ex.refl : Ex S S := ⟨[], by simp⟩
theorem Ex.app {T : Store} : Ex S (S ++ T) := ⟨T, rfl⟩
theorem Ex.trans {S1 S2 : Store} (a : Ex S S1) (b : Ex S1 S2) : Ex S S2 := by
  obtain ⟨T, rfl⟩ := a
  obtain ⟨T', rfl⟩ := b
  exact ⟨T ++ T', by rw [List.append_assoc]⟩
theorem Ex.at {S' : Store} (a : Ex S S') {i : Nat} {b : Ob} (h : S[i]? = some b) : S'[i]? = some b := by
  obtain ⟨T, rfl⟩ := a
  rw [List.getElem?_append_left (List.getElem?_eq_some_iff.mp h).1]; exact h
theorem Ex.le {S' : Store} (a : Ex S S') : S.length ≤ S'.length := by
  obtain ⟨T, rfl⟩ := a
  simp
theorem Pu.wk (h : Pu o S v) (k : ∀ S', Ex S S' → P v S') : Mp.wO o P E := by
  obtain ⟨T, rfl⟩ := h
  exact k _ ⟨T, rfl⟩
theorem isP_of {S1 S' : Store} {x : α} (a : Ex S S1) (h : isP v S1 x S') : isP v S x S' := ⟨h.1, a.trans h.2⟩
theorem isP_ex {S' : Store} (a : Ex S S') : isP v S v S' := ⟨rfl, a⟩
end
/-! ### stores with something behind -/
theorem at_app {S : Store} {i : Nat} {b : Ob} (h : S[i]? = some b) (T : Store) : (S ++ T)[i]? = some b := by
  rw [List.getElem?_append_left (List.getElem?_eq_some_iff.mp h).1]; exact h
theorem at_new {S : Store} {b : Ob} {T : Store} : (S ++ b :: T)[S.length]? = some b := by
  rw [List.getElem?_append_right (Nat.le_refl _)]; simp
theorem at_off {S T : Store} {k : Nat} : (S ++ T)[S.length + k]? = T[k]? := by
  rw [List.getElem?_append_right (Nat.le_add_right _ _), Nat.add_sub_cancel_left]
theorem ex_app {S X : Store} : (∃ T, S ++ X = S ++ T) = True := by
  simp
/-! ### comprehensions that leave garbage -/
theorem lcA {ck : Store → Prop} {t : Tgt} {tst : En → Store → Out Bool} {el : En → Store → Out Val} {env : En} {S0 : Store} {α : Type} (enc : α → Val) (p : α → Bool) (f : α → Val) : ∀ (xs : List α) (acc : List Val) (T : Store), acc.length + xs.length ≤ LIM →
    (∀ T, ck (S0 ++ T)) → (∀ x ∈ xs, ∀ T, ∃ e, t (enc x) env = some e ∧ Pu (tst e (S0 ++ T)) (S0 ++ T) (p x) ∧ (p x = true → Pu (el e (S0 ++ T)) (S0 ++ T) (f x))) →
    ∃ T', lcX ck t tst el S0.length env (xs.map enc) acc (S0 ++ .lst acc :: T) = .ok (.ref S0.length) (S0 ++ .lst (acc ++ (xs.filter p).map f) :: T')
  | [], acc, T, _, hc, _ => by
    refine ⟨T, ?_⟩
    simp only [List.map_nil, lcX, if_pos (hc _), List.filter_nil, List.map_nil, List.append_nil]
  | x :: r, acc, T, hl, hc, h => by
    obtain ⟨e, e1, ⟨T1, e2⟩, e3⟩ := h x (List.mem_cons_self ..) (.lst acc :: T)
    rw [List.length_cons] at hl
    have ih := fun acc' T' hl' => lcA (ck := ck) (S0 := S0) (t := t) (tst := tst) (el := el) (env := env) enc p f r acc' T' hl' hc fun y hy => h y (List.mem_cons_of_mem _ hy)
    have ap : ∀ T2 : Store, (S0 ++ Ob.lst acc :: T) ++ T2 = S0 ++ .lst acc :: (T ++ T2) := fun T2 => by simp
    simp only [List.map_cons, lcX, if_pos (hc _), e1, e2, Out.tie, ap]
    cases q : p x with
    | false =>
      obtain ⟨T', e'⟩ := ih acc (T ++ T1) (by omega)
      refine ⟨T', ?_⟩
      rw [List.filter_cons_of_neg (by simp [q])]
      simpa using e'
    | true =>
      obtain ⟨T2, e4⟩ := h x (List.mem_cons_self ..) (.lst acc :: (T ++ T1)) |>.elim fun e' hh => by
        obtain ⟨h1, _, h3⟩ := hh
        rw [e1] at h1; cases h1
        exact h3 q
      have ap2 : (S0 ++ Ob.lst acc :: (T ++ T1)) ++ T2 = S0 ++ .lst acc :: (T ++ T1 ++ T2) := by simp
      have at_ : (S0 ++ Ob.lst acc :: (T ++ T1 ++ T2))[S0.length]? = some (.lst acc) := at_new
      have put : (S0 ++ Ob.lst acc :: (T ++ T1 ++ T2)).set S0.length (.lst (acc ++ [f x])) = S0 ++ .lst (acc ++ [f x]) :: (T ++ T1 ++ T2) := by
        rw [List.set_append_right _ _ (Nat.le_refl _)]
        simp
      have hlt : acc.length < LIM := by omega
      obtain ⟨T', e'⟩ := ih (acc ++ [f x]) (T ++ T1 ++ T2) (by simp; omega)
      refine ⟨T', ?_⟩
      simp only [if_true, e4, Out.tie, ap2, at_, hlt, and_self, put]
      rw [List.filter_cons_of_pos q, e']
      simp
theorem wO_lcT {ck : Store → Prop} {t : Tgt} {tst : En → Store → Out Bool} {el : En → Store → Out Val} {env : En} {S0 : Store} {P : Val → Store → Prop} {E : XO} {α : Type} {xs : List α} (enc : α → Val) (p : α → Bool) (f : α → Val) (hl : xs.length ≤ LIM) (hc : ∀ S', Ex S0 S' → ck S')
    (h : ∀ x ∈ xs, ∀ S', Ex S0 S' → ∃ e, t (enc x) env = some e ∧ Pu (tst e S') S' (p x) ∧ (p x = true → Pu (el e S') S' (f x))) (hP : ∀ S', Ex S0 S' → S'[S0.length]? = some (.lst ((xs.filter p).map f)) → P (.ref S0.length) S') :
    wO (lcX ck t tst el S0.length env (xs.map enc) [] (S0 ++ [.lst []])) P E := by
  obtain ⟨T', e⟩ := lcA enc p f xs [] [] (by simpa using hl) (fun T => hc _ ⟨T, rfl⟩) fun x hx T => h x hx _ ⟨T, rfl⟩
  rw [e]
  exact hP _ ⟨_, rfl⟩ (by simpa using at_new)
/-- .. without a test -/
theorem wO_lcN {ck : Store → Prop} {t : Tgt} {el : En → Store → Out Val} {env : En} {S0 : Store} {P : Val → Store → Prop} {E : XO} {α : Type} {xs : List α} (enc : α → Val) (f : α → Val) (hl : xs.length ≤ LIM) (hc : ∀ S', Ex S0 S' → ck S')
    (h : ∀ x ∈ xs, ∀ S', Ex S0 S' → ∃ e, t (enc x) env = some e ∧ Pu (el e S') S' (f x)) (hP : ∀ S', Ex S0 S' → S'[S0.length]? = some (.lst (xs.map f)) → P (.ref S0.length) S') :
    wO (lcX ck t bYes el S0.length env (xs.map enc) [] (S0 ++ [.lst []])) P E := by
  refine wO_lcT enc (fun _ => true) f hl hc (fun x hx S' a => ?_) (fun S' a q => ?_)
  · obtain ⟨e, e1, e2⟩ := h x hx S' a
    exact ⟨e, e1, ⟨[], by simp [bYes]⟩, fun _ => e2⟩
  · rw [List.filter_eq_self.mpr (fun _ _ => rfl)] at q; exact hP S' a q
/-- .. of values as they are -/
theorem wO_lcV {ck : Store → Prop} {t : Tgt} {el : En → Store → Out Val} {env : En} {S0 : Store} {P : Val → Store → Prop} {E : XO} {xs : List Val} (f : Val → Val) (hl : xs.length ≤ LIM) (hc : ∀ S', Ex S0 S' → ck S')
    (h : ∀ x ∈ xs, ∀ S', Ex S0 S' → ∃ e, t x env = some e ∧ Pu (el e S') S' (f x)) (hP : ∀ S', Ex S0 S' → S'[S0.length]? = some (.lst (xs.map f)) → P (.ref S0.length) S') :
    wO (lcX ck t bYes el S0.length env xs [] (S0 ++ [.lst []])) P E := by
  have := wO_lcN (ck := ck) (t := t) (el := el) (env := env) (S0 := S0) (P := P) (E := E) (xs := xs) id f hl hc h hP
  simpa using this
@[simp] theorem flagsOf_map {α : Type} (p : α → Bool) : ∀ xs : List α, flagsOf (xs.map fun x => .bl (p x)) = some (xs.map p)
  | [] => rfl
  | x :: r => by simp [flagsOf, flagsOf_map p r]
@[simp] theorem intsOf_map : ∀ ns : List Int, intsOf (ns.map .int) = some ns
  | [] => rfl
  | n :: r => by simp [intsOf, intsOf_map r]
theorem intsOf_mapF {α : Type} (f : α → Int) : ∀ xs : List α, intsOf (xs.map fun x => .int (f x)) = some (xs.map f)
  | [] => rfl
  | x :: r => by simp [intsOf, intsOf_mapF f r]
theorem wO_fOne {α : Type} {c : List Val → Option α} {k : α → Val} {S : Store} {x : Val} {P : Val → Store → Prop} {E : XO} : wO (fOne c k [x] S) P E = wP ((getL S x).bind c) fun ks => P (k ks) S := by
  simp only [fOne]
  cases (getL S x).bind c <;> rfl
theorem wO_lkeys {f : En → Store → Out Val} {env : En} {S : Store} {P : Val → Store → Prop} {E : XO} : wO (eLKeys f env S) P E = wO (f env S) (fun x S1 => wP (match x with | .ref n => (match S1[n]? with | some (.dt kvs) => some kvs | _ => none) | _ => none) fun kvs => P (.ref S1.length) (S1 ++ [.lst (keysL kvs)])) E := by
  refine wO_bind.trans (wO_ext fun x S1 => ?_)
  cases x with
  | ref n =>
    dsimp only
    cases h : S1[n]? with
    | none => rfl
    | some b => cases b <;> rfl
  | _ => rfl
theorem wO_lset {f : En → Store → Out Val} {env : En} {S : Store} {P : Val → Store → Prop} {E : XO} : wO (eLSet f env S) P E = wO (f env S) (fun x S1 => wP ((getL S1 x).bind intsOf) fun ns => ns.length ≤ 4000 ∧ P (.int ((dedup ns).length : Nat)) S1) E := by
  refine wO_bind.trans (wO_ext fun x S1 => ?_)
  cases h : getL S1 x with
  | none => rfl
  | some xs =>
    simp only [Option.bind_some]
    cases h2 : intsOf xs with
    | none => rfl
    | some ns => by_cases q : ns.length ≤ 4000 <;> simp [q]
@[simp] theorem wO_rng1 {tp : Bool} {f : En → Store → Out Val} {env : En} {S : Store} {P : Val → Store → Prop} {E : XO} : wO (eR1 tp f env S) P E = wO (f env S) (fun x S1 => wO (kR1 tp [x] S1) P E) E := wO_bind
@[simp] theorem wO_eCh {g g' : BOp} {fa fb fc : En → Store → Out Val} {env : En} {S : Store} {P : Val → Store → Prop} {E : XO} : wO (eCh g g' fa fb fc env S) P E =
    wO (fa env S) (fun x S1 => wO (fb env S1) (fun y S2 => wO (g x y S2) (fun r S3 => wP (asB r) fun k => if k = true then wO (fc env S3) (fun z S4 => wO (g' y z S4) P E) E else P (.bl false) S3) E) E) E := by
  refine wO_bind.trans (wO_ext fun x S1 => wO_bind.trans (wO_ext fun y S2 => wO_bind.trans (wO_ext fun r S3 => ?_)))
  cases r <;> first | rfl | skip
  rename_i k
  cases k
  · rfl
  · exact wO_bind
theorem walkOf_at {S : Store} {n : Nat} {xs : List Val} (h : S[n]? = some (.lst xs)) : walkOf S (.ref n) = some (xs, fun S' => S'[n]? = some (.lst xs)) := by
  simp only [walkOf, h]
end Mp

set_option Elab.async false
set_option linter.all false
set_option maxRecDepth 100000
set_option maxHeartbeats 1000000
/-! Clean data: None, ints, texts, tuples of such: equal as data exactly if the same. -/
namespace Mp
open PySem PySem.Spec PyProof.Rows L2
mutual
def cln : Val → Bool
  | .non => true
  | .int _ => true
  | .str s => PyData.strOk s
  | .tup xs => clns xs
  | _ => false
def clns : List Val → Bool
  | [] => true
  | x :: xs => cln x && clns xs
end
mutual
def dep : Val → Nat
  | .tup xs => deps xs + 1
  | _ => 0
def deps : List Val → Nat
  | [] => 0
  | x :: xs => max (dep x) (deps xs)
end
@[simp] theorem cln_non : cln .non = true := by simp [cln]
@[simp] theorem cln_int {i : Int} : cln (.int i) = true := by simp [cln]
@[simp] theorem cln_tup {xs : List Val} : cln (.tup xs) = clns xs := by simp [cln]
@[simp] theorem clns_nil : clns [] = true := by simp [clns]
@[simp] theorem clns_cons {x : Val} {xs : List Val} : clns (x :: xs) = (cln x && clns xs) := by simp [clns]
@[simp] theorem dep_non : dep .non = 0 := by simp [dep]
@[simp] theorem dep_int {i : Int} : dep (.int i) = 0 := by simp [dep]
@[simp] theorem dep_str {i : Str} : dep (.str i) = 0 := by simp [dep]
@[simp] theorem dep_tup {xs : List Val} : dep (.tup xs) = deps xs + 1 := by simp [dep]
@[simp] theorem deps_nil : deps [] = 0 := by simp [deps]
@[simp] theorem deps_cons {x : Val} {xs : List Val} : deps (x :: xs) = max (dep x) (deps xs) := by simp [deps]
theorem clns_iff {xs : List Val} : clns xs = true ↔ ∀ x ∈ xs, cln x = true := by
  induction xs with
  | nil => simp
  | cons x r ih => simp [ih]
theorem deps_le {xs : List Val} {n : Nat} (h : ∀ x ∈ xs, dep x ≤ n) : deps xs ≤ n := by
  induction xs with
  | nil => simp
  | cons x r ih =>
    simp only [deps_cons]
    exact Nat.max_le.mpr ⟨h x (by simp), ih fun y hy => h y (by simp [hy])⟩
mutual
theorem toD_cln : ∀ x : Val, cln x = true → ∃ d, toD x = some d ∧ d.canLay0 = true ∧ d.depth = dep x
  | .non, _ => ⟨_, rfl, by simp [PyData.canLay0], by simp [PyData.depth]⟩
  | .int _, _ => ⟨_, rfl, by simp [PyData.canLay0], by simp [PyData.depth]⟩
  | .str s, h => ⟨_, rfl, by simpa [PyData.canLay0, cln] using h, by simp [PyData.depth]⟩
  | .tup xs, h => by
    obtain ⟨ds, e, h1, h2⟩ := toDs_cln xs (by simpa using h)
    exact ⟨.tuple ds, by simp [toD, e], by simp [PyData.canLay0, h1], by simp [PyData.depth, h2]⟩
  | .bl _, h => by simp [cln] at h
  | .frz _, h => by simp [cln] at h
  | .ref _, h => by simp [cln] at h
theorem toDs_cln : ∀ xs : List Val, clns xs = true → ∃ ds, toDs xs = some ds ∧ PyData.canLayAll0 ds = true ∧ PyData.depthAll ds = deps xs
  | [], _ => ⟨[], rfl, by simp [PyData.canLayAll0], by simp [PyData.depthAll]⟩
  | x :: xs, h => by
    simp only [clns_cons, Bool.and_eq_true] at h
    obtain ⟨d, e, h1, h2⟩ := toD_cln x h.1
    obtain ⟨ds, e', h3, h4⟩ := toDs_cln xs h.2
    exact ⟨d :: ds, by simp [toDs, e, e'], by simp [PyData.canLayAll0, h1, h3], by simp [PyData.depthAll, h2, h4]⟩
end
mutual
theorem eqv_cln : ∀ (x y : Val) (d e : PyData), cln x = true → cln y = true → toD x = some d → toD y = some e → (PyData.eqv d e = true ↔ x = y)
  | .tup xs, y, d, e, h, k, hd, he => by
    cases y with
    | tup ys =>
      simp only [toD, Option.map_eq_some_iff] at hd he
      obtain ⟨ds, h1, rfl⟩ := hd
      obtain ⟨es, h2, rfl⟩ := he
      have := eqvs_cln xs ys ds es (by simpa using h) (by simpa using k) h1 h2
      simpa [PyData.eqv] using this
    | non => simp only [toD, Option.map_eq_some_iff, Option.some.injEq] at hd he; obtain ⟨ds, h1, rfl⟩ := hd; subst he; simp [PyData.eqv]
    | int j => simp only [toD, Option.map_eq_some_iff, Option.some.injEq] at hd he; obtain ⟨ds, h1, rfl⟩ := hd; subst he; simp [PyData.eqv]
    | str j => simp only [toD, Option.map_eq_some_iff, Option.some.injEq] at hd he; obtain ⟨ds, h1, rfl⟩ := hd; subst he; simp [PyData.eqv]
    | _ => simp [cln] at k
  | .non, y, d, e, h, k, hd, he => by
    simp only [toD, Option.some.injEq] at hd; subst hd
    cases y with
    | tup ys => simp only [toD, Option.map_eq_some_iff] at he; obtain ⟨ds, h1, rfl⟩ := he; simp [PyData.eqv]
    | non => simp only [toD, Option.some.injEq] at he; subst he; simp [PyData.eqv]
    | int j => simp only [toD, Option.some.injEq] at he; subst he; simp [PyData.eqv]
    | str j => simp only [toD, Option.some.injEq] at he; subst he; simp [PyData.eqv]
    | _ => simp [cln] at k
  | .int i, y, d, e, h, k, hd, he => by
    simp only [toD, Option.some.injEq] at hd; subst hd
    cases y with
    | tup ys => simp only [toD, Option.map_eq_some_iff] at he; obtain ⟨ds, h1, rfl⟩ := he; simp [PyData.eqv]
    | non => simp only [toD, Option.some.injEq] at he; subst he; simp [PyData.eqv]
    | int j => simp only [toD, Option.some.injEq] at he; subst he; simp [PyData.eqv]
    | str j => simp only [toD, Option.some.injEq] at he; subst he; simp [PyData.eqv]
    | _ => simp [cln] at k
  | .str i, y, d, e, h, k, hd, he => by
    simp only [toD, Option.some.injEq] at hd; subst hd
    cases y with
    | tup ys => simp only [toD, Option.map_eq_some_iff] at he; obtain ⟨ds, h1, rfl⟩ := he; simp [PyData.eqv]
    | non => simp only [toD, Option.some.injEq] at he; subst he; simp [PyData.eqv]
    | int j => simp only [toD, Option.some.injEq] at he; subst he; simp [PyData.eqv]
    | str j => simp only [toD, Option.some.injEq] at he; subst he; simp [PyData.eqv]
    | _ => simp [cln] at k
  | .bl _, _, _, _, h, _, _, _ => by simp [cln] at h
  | .frz _, _, _, _, h, _, _, _ => by simp [cln] at h
  | .ref _, _, _, _, h, _, _, _ => by simp [cln] at h
theorem eqvs_cln : ∀ (xs ys : List Val) (ds es : List PyData), clns xs = true → clns ys = true → toDs xs = some ds → toDs ys = some es → (PyData.eqvAll ds es = true ↔ xs = ys)
  | [], ys, ds, es, h, k, hd, he => by
    simp only [toDs, Option.some.injEq] at hd; subst hd
    cases ys with
    | nil => simp only [toDs, Option.some.injEq] at he; subst he; simp [PyData.eqvAll]
    | cons y r =>
      simp only [toDs, Option.bind_eq_some_iff, Option.map_eq_some_iff] at he
      obtain ⟨b, _, bs, _, rfl⟩ := he
      simp [PyData.eqvAll]
  | x :: xs, ys, ds, es, h, k, hd, he => by
    simp only [toDs, Option.bind_eq_some_iff, Option.map_eq_some_iff] at hd
    obtain ⟨a, h1, as, h2, rfl⟩ := hd
    cases ys with
    | nil => simp only [toDs, Option.some.injEq] at he; subst he; simp [PyData.eqvAll]
    | cons y r =>
      simp only [toDs, Option.bind_eq_some_iff, Option.map_eq_some_iff] at he
      obtain ⟨b, h3, bs, h4, rfl⟩ := he
      simp only [clns_cons, Bool.and_eq_true] at h k
      have i1 := eqv_cln x y a b h.1 k.1 h1 h3
      have i2 := eqvs_cln xs r as bs h.2 k.2 h2 h4
      simp only [PyData.eqvAll, Bool.and_eq_true, i1, i2, List.cons.injEq]
end
theorem shaped_cln {x : Val} {d : PyData} (h : cln x = true) (hd : dep x ≤ 64) (e : toD x = some d) : SeqAt.shaped d = true := by
  obtain ⟨d', e', h1, h2⟩ := toD_cln x h
  rw [e] at e'; cases e'
  simp [SeqAt.shaped, h1, h2, hd]
theorem toD1_cln {S : Store} {x : Val} (h : cln x = true) : toD1 S x = toD x := by
  cases x <;> first | rfl | simp [cln] at h
open Classical in
theorem eqv1_cln {S : Store} {x y : Val} (hx : cln x = true) (hy : cln y = true) (dx : dep x ≤ 64) (dy : dep y ≤ 64) : eqv1 S x y = some (decide (x = y)) := by
  obtain ⟨d, e1, h1, h2⟩ := toD_cln x hx
  obtain ⟨e, e2, h3, h4⟩ := toD_cln y hy
  simp only [eqv1, toD1_cln hx, toD1_cln hy, e1, e2, Option.bind_some, shaped_cln hx dx e1, shaped_cln hy dy e2, and_self, if_true]
  congr 1
  rw [Bool.eq_iff_iff, eqv_cln x y d e hx hy e1 e2]
  simp
open Classical in
theorem isInL_cln {S : Store} {y : Val} {xs : List Val} {x : Val} (hy : dLook S y x = none) (hd : itemsD S y = toDs xs) (hx : cln x = true) (dx : dep x ≤ 64) (hxs : clns xs = true) : isIn S x y = some (decide (x ∈ xs)) := by
  obtain ⟨d, e1, h1, h2⟩ := toD_cln x hx
  obtain ⟨ds, e2, h3, h4⟩ := toDs_cln xs hxs
  simp only [isIn, hy, hd, e1, e2, shaped_cln hx dx e1, h3, and_self, if_true]
  congr 1
  rw [Bool.eq_iff_iff]
  simp only [List.any_eq_true, decide_eq_true_eq]
  clear h3 h4 hy hd
  induction xs generalizing ds with
  | nil => simp only [toDs, Option.some.injEq] at e2; subst e2; simp
  | cons z r ih =>
    simp only [toDs, Option.bind_eq_some_iff, Option.map_eq_some_iff] at e2
    obtain ⟨b, h3, bs, h4, rfl⟩ := e2
    simp only [clns_cons, Bool.and_eq_true] at hxs
    have := ih hxs.2 bs h4
    have i1 := eqv_cln z x b d hxs.1 hx h3 e1
    simp only [List.mem_cons, exists_eq_or_imp, this, i1]
    exact ⟨fun h => h.imp Eq.symm id, fun h => h.imp Eq.symm id⟩
open Classical in
theorem isIn_list {S : Store} {l : Nat} {xs : List Val} {x : Val} (hl : S[l]? = some (.lst xs)) (hx : cln x = true) (dx : dep x ≤ 64) (hxs : clns xs = true) : isIn S x (.ref l) = some (decide (x ∈ xs)) :=
  isInL_cln (by simp only [dLook, hl]) (by simp only [itemsD, hl]) hx dx hxs
open Classical in
theorem isIn_tup {S : Store} {xs : List Val} {x : Val} (hx : cln x = true) (dx : dep x ≤ 64) (hxs : clns xs = true) : isIn S x (.tup xs) = some (decide (x ∈ xs)) :=
  isInL_cln (by simp only [dLook]) (by simp only [itemsD]) hx dx hxs
@[simp] theorem wO_vIn {n : Bool} {x y : Val} {S : Store} {P : Val → Store → Prop} {E : XO} : wO (vIn n x y S) P E = wP (isIn S x y) fun k => P (.bl (xor n k)) S := by
  unfold vIn; cases isIn S x y <;> rfl
/-! ### [[] for _ in range(n)] -/
theorem lcE {ck : Store → Prop} {t : Tgt} {env : En} {S0 : Store} : ∀ (xs acc : List Val) (k : Nat), acc.length = k → k + xs.length ≤ LIM → acc = (List.range k).map (fun i => .ref (S0.length + 1 + i)) → (∀ S, ck S) → (∀ x ∈ xs, ∃ e, t x env = some e) →
    lcX ck t bYes (eLst aNil) S0.length env xs acc (S0 ++ .lst acc :: List.replicate k (.lst [])) = .ok (.ref S0.length) (S0 ++ .lst ((List.range (k + xs.length)).map (fun i => .ref (S0.length + 1 + i))) :: List.replicate (k + xs.length) (.lst []))
  | [], acc, k, hk, _, ha, hc, _ => by
    simp only [lcX, if_pos (hc _), List.length_nil, Nat.add_zero, ← ha]
  | x :: r, acc, k, hk, hl, ha, hc, h => by
    obtain ⟨e, e1⟩ := h x (by simp)
    rw [List.length_cons] at hl
    have ih := lcE (ck := ck) (S0 := S0) (t := t) (env := env) r (acc ++ [.ref (S0.length + 1 + k)]) (k + 1) (by simp [hk]) (by omega) (by rw [ha, List.range_succ, List.map_append]; rfl) hc fun y hy => h y (by simp [hy])
    have el : eLst aNil e (S0 ++ .lst acc :: List.replicate k (.lst [])) = .ok (.ref (S0.length + 1 + k)) (S0 ++ .lst acc :: List.replicate (k + 1) (.lst [])) := by
      simp only [eLst, aNil, Out.bind, List.length_nil, Nat.zero_le, if_true]
      congr 1
      · simp; omega
      · rw [List.append_assoc, List.cons_append, ← List.replicate_succ']
    have at_ : (S0 ++ Ob.lst acc :: List.replicate (k + 1) (.lst []))[S0.length]? = some (.lst acc) := at_new
    have hlt : acc.length < LIM := by omega
    have put : (S0 ++ Ob.lst acc :: List.replicate (k + 1) (.lst [])).set S0.length (.lst (acc ++ [.ref (S0.length + 1 + k)])) = S0 ++ .lst (acc ++ [.ref (S0.length + 1 + k)]) :: List.replicate (k + 1) (.lst []) := by
      rw [List.set_append_right _ _ (Nat.le_refl _)]
      simp
    simp only [lcX, if_pos (hc _), e1, bYes, Out.tie, if_true, el, at_, hlt, and_self, put]
    rw [ih, List.length_cons, show k + 1 + r.length = k + (r.length + 1) by omega]
end Mp

set_option Elab.async false
set_option linter.all false
set_option maxRecDepth 100000
set_option maxHeartbeats 1000000
/-! Words about objects, errors, try, dict comprehensions. -/
namespace Mp
open PySem PySem.Spec PyProof.Rows L2
section
variable {S : Store} {env : En} {P : Val → Store → Prop} {E : XO} {R : RP}
theorem wR_sFldS {cs : List Str} {f : Str} {gv go : En → Store → Out Val} : wR (sFldS cs f gv go env S) R = wO (gv env S) (fun y S1 => wO (go env S1) (fun x S2 => wR (kFld cs f y env x S2) R) fun c fs S1 => R.er c fs env S1) (fun c fs S1 => R.er c fs env S1) := by
  unfold sFldS
  exact wR_toS.trans (wO_ext fun y S1 => wR_toS)
theorem wR_kFld {cs : List Str} {f c : Str} {y : Val} {i : Nat} {fs : List (Str × Val)} (h : S[i]? = some (.ins c fs)) (hc : c ∈ cs) (hl : fs.length < 1000) : wR (kFld cs f y env (.ref i) S) R = R.nx env (S.set i (.ins c (putS f y fs))) := by
  simp only [kFld, h, if_pos (And.intro hc hl)]; rfl
theorem wO_fMake {c : Str} {g : Fn} {xs : List Val} : wO (fMake c g xs S) P E = wO (g (.ref S.length :: xs) (S ++ [.ins c []])) (fun r S2 => r = .non ∧ P (.ref S.length) S2) E := by
  refine wO_bind.trans (wO_ext fun r S2 => ?_)
  cases r <;> simp [kMake]
theorem wR_let {i : Nat} {r : Res} : wR (r.let i) R = wR r ⟨fun e S => R.nx (e.set i none) S, R.rt, fun e S => R.bk (e.set i none) S, fun e S => R.ct (e.set i none) S, fun _ _ _ _ => False⟩ := by
  cases r <;> rfl
theorem wR_sTryAs {m : Str → Bool} {i : Nat} {gb : En → Store → Res} {g : Str → List (Str × Val) → En → Store → Res} : wR (sTryAs m i gb g env S) R =
    wR (gb env S) { R with er := fun c fs e S1 => if m c = true then (i < e.length ∧ wR (g c fs (e.set i none) S1) ⟨fun e S => R.nx (e.set i none) S, R.rt, fun e S => R.bk (e.set i none) S, fun e S => R.ct (e.set i none) S, fun _ _ _ _ => False⟩) else R.er c fs e S1 } := by
  simp only [sTryAs]
  cases h : gb env S with
  | er c fs e S1 =>
    simp only [wR_er]
    by_cases q : m c = true
    · rw [if_pos q, if_pos q]
      by_cases l : i < e.length
      · rw [if_pos l, wR_let]; simp [l]
      · rw [if_neg l]; simp [l]
    · rw [if_neg q, if_neg q]; rfl
  | _ => rfl
def wH (R : RP) (c : Str) (fs : List (Str × Val)) (e : En) (S : Store) : List Hd → Prop
  | [] => R.er c fs e S
  | (m, g) :: r => if m c = true then wR (g e S) { R with er := fun _ _ _ _ => False } else wH R c fs e S r
theorem wR_sTry {gb : En → Store → Res} {l : List Hd} : wR (sTry gb l env S) R = wR (gb env S) { R with er := fun c fs e S1 => wH R c fs e S1 l } := by
  simp only [sTry]
  cases h : gb env S with
  | er c fs e S1 =>
    simp only [wR_er]
    induction l with
    | nil => rfl
    | cons p r ih =>
      obtain ⟨m, g⟩ := p
      simp only [tryHd, wH]
      by_cases q : m c = true
      · rw [if_pos q, if_pos q]
        cases g e S1 <;> rfl
      · rw [if_neg q, if_neg q]; exact ih
  | _ => rfl
@[simp] theorem wO_eXf {fs : List (Str × Val)} {f : Str} : wO (eXf fs f env S) P E = wP (fs.lookup f) fun v => P v S := by
  simp only [eXf]
  cases fs.lookup f <;> rfl
@[simp] theorem wO_eIsO {m : Str → Bool} {f : En → Store → Out Val} : wO (eIsO m f env S) P E = wO (f env S) (fun x S1 => wO (kIsO m x S1) P E) E := wO_bind
theorem wO_kIsO {m : Str → Bool} {x : Val} {c : Str} {fs : List (Str × Val)} (h : insOf S x = some (c, fs)) : wO (kIsO m x S) P E = P (.bl (m c)) S := by
  simp only [kIsO, h]; rfl
theorem wO_kIsO' {m : Str → Bool} {x : Val} {t : String} (h : insOf S x = none) (h2 : tyOf S x = some t) (h3 : t ∈ tyNames) : wO (kIsO m x S) P E = P (.bl false) S := by
  simp only [kIsO, h, h2, if_pos h3]; rfl
theorem insOf_at {i : Nat} {c : Str} {fs : List (Str × Val)} (h : S[i]? = some (.ins c fs)) : insOf S (.ref i) = some (c, fs) := by
  simp only [insOf, h]
theorem wO_ownEq {g : Fn} {x y : Val} : wO (ownEq g x y S) P E = wO (g [x, y] S) (fun v S1 => wP (asB v) fun b => P (.bl b) S1) noX := by
  unfold ownEq
  cases g [x, y] S with
  | ok v S1 => cases v <;> rfl
  | _ => rfl
theorem wO_vEqO {cn : Str} {g : Fn} {x y : Val} {fs : List (Str × Val)} (h : insOf S x = some (cn, fs)) (hy : (∃ p, insOf S y = some p) ∨ (insOf S y = none ∧ ∃ t, tyOf S y = some t ∧ t ∈ tyNames)) : wO (vEqO cn g x y S) P E = wO (g [x, y] S) (fun v S1 => wP (asB v) fun b => P (.bl b) S1) noX := by
  rw [← wO_ownEq (E := E)]
  simp only [vEqO, h, if_true]
  rcases hy with ⟨p, hp⟩ | ⟨hn, t, ht, hm⟩
  · simp only [hp]
  · simp only [hn, ht, if_pos hm]
end
theorem putD_new {κ : Type} [DecidableEq κ] {kvs : List (κ × Val)} {k : κ} {v : Val} (h : k ∉ kvs.map (·.1)) : putD kvs k v = kvs ++ [(k, v)] := by
  unfold putD
  rw [if_neg]
  simp only [List.any_eq_true, decide_eq_true_eq, not_exists, not_and]
  intro x hx e
  exact h (List.mem_map.mpr ⟨x, hx, e⟩)
theorem wO_dc {tp : Bool} {fi : En → Store → Out Itm} {t : Tgt} {tst : En → Store → Out Bool} {ek ev : En → Store → Out Val} {vs : List Nat} {env : En} {S : Store} {P : Val → Store → Prop} {E : XO} :
    wO (eDc tp fi t tst ek ev vs env S) P E = wO (fi env S) (fun p S1 => wO (dcX p.2 t tst ek ev S1.length (wipeE env vs) p.1 (S1 ++ [emO tp])) P E) E := wO_bind
theorem dcA {ck : Store → Prop} {t : Tgt} {tst : En → Store → Out Bool} {ek ev : En → Store → Out Val} {env : En} {S0 : Store} {α : Type} (enc : α → Val) (kt : α → List Val) (kv : α → List Key × Val) : ∀ (xs : List α) (acc : List (List Key × Val)) (T : Store), acc.length + xs.length < LIM →
    ((acc ++ xs.map kv).map (·.1)).Nodup → (∀ S', Ex S0 S' → ck S') → (∀ x ∈ xs, keysOf (kt x) = some (kv x).1 ∧ ∃ e, t (enc x) env = some e ∧ ∀ S', Ex S0 S' → Pu (tst e S') S' true ∧ Pu (ek e S') S' (.tup (kt x)) ∧ Pu (ev e S') S' (kv x).2) →
    ∃ T', dcX ck t tst ek ev S0.length env (xs.map enc) (S0 ++ .dt acc :: T) = .ok (.ref S0.length) (S0 ++ .dt (acc ++ xs.map kv) :: T')
  | [], acc, T, _, _, hc, _ => ⟨T, by simp only [List.map_nil, dcX, if_pos (hc _ ⟨_, rfl⟩), List.append_nil]⟩
  | x :: r, acc, T, hl, nd, hc, h => by
    obtain ⟨hk, e, e1, h2⟩ := h x (List.mem_cons_self ..)
    rw [List.length_cons] at hl
    obtain ⟨⟨T1, q1⟩, _, _⟩ := h2 (S0 ++ .dt acc :: T) ⟨_, rfl⟩
    have ap : ∀ T T2 : Store, (S0 ++ Ob.dt acc :: T) ++ T2 = S0 ++ .dt acc :: (T ++ T2) := fun T T2 => by simp
    rw [ap] at q1
    obtain ⟨_, ⟨T2, q2⟩, _⟩ := h2 (S0 ++ .dt acc :: (T ++ T1)) ⟨_, rfl⟩
    rw [ap] at q2
    obtain ⟨_, _, T3, q3⟩ := h2 (S0 ++ .dt acc :: (T ++ T1 ++ T2)) ⟨_, rfl⟩
    rw [ap] at q3
    have at_ : (S0 ++ Ob.dt acc :: (T ++ T1 ++ T2 ++ T3))[S0.length]? = some (.dt acc) := at_new
    have hlt : acc.length < LIM := by omega
    have nk : (kv x).1 ∉ acc.map (·.1) := by
      rw [List.map_append, List.nodup_append] at nd
      exact fun hm => nd.2.2 _ hm (kv x).1 (by simp) rfl
    have put : putIx (.ref S0.length) (.tup (kt x)) (kv x).2 (S0 ++ Ob.dt acc :: (T ++ T1 ++ T2 ++ T3)) = some (S0 ++ .dt (acc ++ [kv x]) :: (T ++ T1 ++ T2 ++ T3)) := by
      simp only [putIx, at_, tkeyOf, hk, Option.bind_some, if_pos hlt, putD_new nk]
      rw [List.set_append_right _ _ (Nat.le_refl _)]
      simp
    obtain ⟨T', ih⟩ := dcA (ck := ck) (S0 := S0) (t := t) (tst := tst) (ek := ek) (ev := ev) (env := env) enc kt kv r (acc ++ [kv x]) (T ++ T1 ++ T2 ++ T3) (by simp; omega) (by simpa using nd) hc fun y hy => h y (List.mem_cons_of_mem _ hy)
    refine ⟨T', ?_⟩
    have isd : isD (S0 ++ Ob.dt acc :: (T ++ T1 ++ T2 ++ T3)) S0.length = true := by simp only [isD, at_]
    simp only [List.map_cons, dcX, if_pos (hc _ ⟨_, rfl⟩), e1, q1, q2, q3, Out.tie, if_true, isd, put]
    rw [ih]
    simp
theorem wO_dcT {ck : Store → Prop} {t : Tgt} {ek ev : En → Store → Out Val} {env : En} {S0 : Store} {P : Val → Store → Prop} {E : XO} {α : Type} {xs : List α} (enc : α → Val) (kt : α → List Val) (kv : α → List Key × Val) (hl : xs.length < LIM) (nd : ((xs.map kv).map (·.1)).Nodup) (hc : ∀ S', Ex S0 S' → ck S')
    (h : ∀ x ∈ xs, keysOf (kt x) = some (kv x).1 ∧ ∃ e, t (enc x) env = some e ∧ ∀ S', Ex S0 S' → Pu (ek e S') S' (.tup (kt x)) ∧ Pu (ev e S') S' (kv x).2) (hP : ∀ S', Ex S0 S' → S'[S0.length]? = some (.dt (xs.map kv)) → P (.ref S0.length) S') :
    wO (dcX ck t bYes ek ev S0.length env (xs.map enc) (S0 ++ [emO true])) P E := by
  obtain ⟨T', e⟩ := dcA (ck := ck) (S0 := S0) (t := t) (tst := bYes) (ek := ek) (ev := ev) (env := env) enc kt kv xs [] [] (by simpa using hl) (by simpa using nd) hc fun x hx => by
    obtain ⟨h1, e, h2, h3⟩ := h x hx
    exact ⟨h1, e, h2, fun S' a => ⟨⟨[], by simp [bYes]⟩, h3 S' a⟩⟩
  have : wO (dcX ck t bYes ek ev S0.length env (xs.map enc) (S0 ++ [Ob.dt []])) P E := by
    rw [e]
    exact hP _ ⟨_, rfl⟩ (by simpa using at_new)
  exact this
@[simp] theorem gT_ap {n : Nat} {u : Tgts} {xs : List Val} {env : En} : gT n u (.tup xs) env = if xs.length = n then u xs env else none := rfl
end Mp

set_option Elab.async false
set_option linter.all false
set_option maxRecDepth 100000
set_option maxHeartbeats 1000000
/-! while; displays of dicts; min of data, also with a default. -/
namespace Mp
open PySem PySem.Spec PyProof.Rows L2
/-! ### while: turns are at most so many -/
def WF : Nat := 1000000
def whX (c : En → Store → Out Bool) (g : En → Store → Res) : Nat → En → Store → Res
  | 0, _, _ => .bad
  | n + 1, env, S => (c env S).toS env fun b S1 => if b = true then (match g env S1 with
    | .nx e S2 => whX c g n e S2
    | .ct e S2 => whX c g n e S2
    | .bk e S2 => .nx e S2
    | .rt v S2 => .rt v S2
    | .er k fs e S2 => .er k fs e S2
    | .bad => .bad) else .nx env S1
def sWhile (c : En → Store → Out Bool) (g : En → Store → Res) : En → Store → Res := whX c g WF
section
variable {X : Cx} {Y : Sy} {W : WX} {pos : Pos}
theorem ss_while {c : Expr} {body : List Stmt} {fc : En → Store → Out Bool} {g : En → Store → Res} (hp : PassesOwn (model X.prog X.w) X.A X.env X.xe) (hc : ST X Y W c fc) (hb : SSs X Y W body g) : SS X Y W (.While c body [] pos) (sWhile fc g) := by
  refine PS.imp (ps_while hp hc hb) fun D σ0 H0 h => ?_
  refine ⟨fun m σ H => tS X.K Y W (whX fc g m) D σ H, ⟨WF, h⟩, fun m σ H hw => ?_⟩
  cases m with
  | zero =>
    obtain ⟨ρ, env, S, he, hs, hp⟩ := hw
    exact hp.elim
  | succ n =>
    refine tS.go (k := fun env b S1 => if b = true then (match g env S1 with
      | .nx e S2 => whX fc g n e S2
      | .ct e S2 => whX fc g n e S2
      | .bk e S2 => .nx e S2
      | .rt v S2 => .rt v S2
      | .er k fs e S2 => .er k fs e S2
      | .bad => .bad) else .nx env S1) hw fun ρ env v x H1 S1 he hs rx hp => ?_
    subst rx
    cases v with
    | false =>
      rw [if_neg (by simp)] at hp ⊢
      exact hp σ ρ H1 (Pre.refl _) (Ext.refl _) he hs
    | true =>
      rw [if_pos rfl] at hp ⊢
      refine ⟨fun σ' H' => tS X.K Y W (whX fc g n) D σ' H', fun σ' H' hn => ⟨n, Nat.lt_succ_self n, hn⟩, ρ, env, S1, he, hs, ?_⟩
      generalize g env S1 = r at hp
      cases r with
      | nx e S2 => exact fun σ' ρ' H' p q r s => ⟨ρ', e, S2, r, s, PostS.up p q hp⟩
      | ct e S2 => exact fun σ' ρ' H' p q r s => ⟨ρ', e, S2, r, s, PostS.up p q hp⟩
      | bk e S2 => exact hp
      | rt v S2 => exact hp
      | er k fs e S2 => exact hp
      | bad => exact hp
end
theorem wR_wh {c : En → Store → Out Bool} {g : En → Store → Res} {R : RP} {n : Nat} {env : En} {S : Store} : wR (whX c g (n + 1) env S) R =
    wO (c env S) (fun b S1 => if b = true then wR (g env S1) ⟨fun e S2 => wR (whX c g n e S2) R, R.rt, R.nx, fun e S2 => wR (whX c g n e S2) R, R.er⟩ else R.nx env S1) (fun k fs S1 => R.er k fs env S1) := by
  simp only [whX]
  refine wR_toS.trans (wO_ext fun b S1 => ?_)
  cases b with
  | false => rfl
  | true =>
    simp only [if_true]
    cases g env S1 <;> rfl
/-- a while by a measure: turns left -/
theorem wR_while {c : En → Store → Out Bool} {g : En → Store → Res} {R : RP} {env : En} {S : Store} (I : Nat → En → Store → Prop) (m : Nat) (hm : m < WF) (h0 : I m env S)
    (hs : ∀ k e S, I k e S → wO (c e S) (fun b S1 => if b = true then ∃ k', k = k' + 1 ∧ wR (g e S1) ⟨I k', R.rt, R.nx, I k', R.er⟩ else R.nx e S1) (fun k fs S1 => R.er k fs e S1)) : wR (sWhile c g env S) R := by
  have key : ∀ (n k : Nat) (e : En) (S : Store), k < n → I k e S → wR (whX c g n e S) R := by
    intro n
    induction n with
    | zero => intro k e S h; exact absurd h (Nat.not_lt_zero _)
    | succ n ih =>
      intro k e S hk hI
      rw [wR_wh]
      refine (hs k e S hI).mono (fun b S1 h => ?_) fun _ _ _ z => z
      cases b with
      | false => exact h
      | true =>
        rw [if_pos rfl] at h ⊢
        obtain ⟨k', rfl, h⟩ := h
        exact h.mono (fun e S z => ih k' e S (by omega) z) (fun _ _ z => z) (fun _ _ z => z) (fun e S z => ih k' e S (by omega) z) fun _ _ _ _ z => z
  exact key WF m env S hm h0
/-! ### {k: v} -/
abbrev Fv : Type := En → Store → Out Val
def dPairs : List (Fv × Fv) → En → Store → Out (List (Val × Val))
  | [], _, S => .ok [] S
  | (fk, fv) :: r, env, S => (fk env S).bind fun x S1 => (fv env S1).bind fun y S2 => (dPairs r env S2).bind fun ps S3 => .ok ((x, y) :: ps) S3
def keyPairs : List (Val × Val) → Option (List (Key × Val))
  | [] => some []
  | (x, y) :: r => (keyOf x).bind fun k => (keyPairs r).map fun ps => (k, y) :: ps
def mergeD (kvs more : List (Key × Val)) : List (Key × Val) := more.foldl (fun acc kv => putD acc kv.1 kv.2) kvs
open Classical in
noncomputable def kDisp (n : Nat) (ps : List (Val × Val)) (S : Store) : Out Val := match keyPairs ps with
  | some kvs => if S[n]? = some (.dk []) ∧ kvs.length ≤ 15 then .ok (.ref n) (S.set n (.dk (mergeD [] kvs))) else .bad
  | none => .bad
noncomputable def eDisp (l : List (Fv × Fv)) : Fv := fun env S => (dPairs l env (S ++ [.dk []])).bind (kDisp S.length)
section
variable {X : Cx} {Y : Sy} {W : WX} {pos : Pos}
def SPs (X : Cx) (Y : Sy) (W : WX) (pos : Pos) (keys : List (Option Expr)) (values : List Expr) (l : List (Fv × Fv)) : Prop := PPs X pos keys values (l.map fun p => (tG X.K Y W (RV X.K) p.1, tG X.K Y W (RV X.K) p.2))
theorem sps_nil : SPs X Y W pos [] [] [] := pps_nil
theorem sps_cons {k v : Expr} {ks : List (Option Expr)} {vs : List Expr} {fk fv : Fv} {l : List (Fv × Fv)} (hk : SE X Y W k fk) (hv : SE X Y W v fv) (hr : SPs X Y W pos ks vs l) : SPs X Y W pos (some k :: ks) (v :: vs) ((fk, fv) :: l) := pps_cons hk hv hr
theorem tPairs_of {l : List (Fv × Fv)} : ∀ {σ : L2.St} {H : Hp} {ρ : List Addr} {env : En} {S : Store} {k' : List (Val × Val) → Store → Out Val} {Q : VK} {Q' : List (V × V) → Hp → Prop}, ERep X.K Y ρ H σ env → Sim X.K Y ρ H S → Post X.K Y (fun cls d H' => W cls d σ H') ρ H (RV X.K) Q ((dPairs l env S).bind k') →
    (∀ ρ1 H1 S1 (qs : List (V × V)) ps, Pre ρ ρ1 → Ext H H1 → Sim X.K Y ρ1 H1 S1 → Paired (fun (p : V × V) (q : Val × Val) => Rep X.K ρ1 H1 p.1 q.1 ∧ Rep X.K ρ1 H1 p.2 q.2) qs ps → Post X.K Y (fun cls d H' => W cls d σ H') ρ1 H1 (RV X.K) Q (k' ps S1) → Q' qs H1) →
    tPairs (l.map fun p => (tG X.K Y W (RV X.K) p.1, tG X.K Y W (RV X.K) p.2)) σ H Q' := by
  induction l with
  | nil =>
    intro σ H ρ env S k' Q Q' he hs h q
    exact q ρ H S [] [] (Pre.refl _) (Ext.refl _) hs .nil h
  | cons p r ih =>
    obtain ⟨fk, fv⟩ := p
    intro σ H ρ env S k' Q Q' he hs h q
    have h' : Post X.K Y (fun cls d H' => W cls d σ H') ρ H (RV X.K) Q ((fk env S).bind fun x S1 => (fv env S1).bind fun y S2 => (dPairs r env S2).bind fun ps S3 => k' ((x, y) :: ps) S3) := by
      have e : (dPairs ((fk, fv) :: r) env S).bind k' = ((fk env S).bind fun x S1 => (fv env S1).bind fun y S2 => (dPairs r env S2).bind fun ps S3 => k' ((x, y) :: ps) S3) := by
        simp only [dPairs]
        cases fk env S with
        | ok x S1 =>
          simp only [Out.bind]
          cases fv env S1 with
          | ok y S2 =>
            simp only [Out.bind]
            cases dPairs r env S2 <;> rfl
          | _ => rfl
        | _ => rfl
      rw [← e]; exact h
    refine tG.go he hs h' fun ρ1 v x H1 S1 p1 e1 he1 hs1 rx hp1 => ?_
    refine tG.go he1 hs1 hp1 fun ρ2 u y H2 S2 p2 e2 he2 hs2 ry hp2 => ?_
    refine ih (k' := fun ps S3 => k' ((x, y) :: ps) S3) he2 hs2 hp2 fun ρ3 H3 S3 qs ps p3 e3 hs3 rp hp3 => ?_
    exact q ρ3 H3 S3 _ _ ((p1.trans p2).trans p3) ((e1.trans e2).trans e3) hs3 (.cons ⟨rx.up (p2.trans p3) (e2.trans e3), ry.up p3 e3⟩ rp) hp3
theorem keyPairs_rep {K : PySem.W.Frag} {ρ : List Addr} {H : Hp} : ∀ {qs : List (V × V)} {ps : List (Val × Val)} {kvs : List (Key × Val)}, Paired (fun (p : V × V) (q : Val × Val) => Rep K ρ H p.1 q.1 ∧ Rep K ρ H p.2 q.2) qs ps → keyPairs ps = some kvs →
    ∃ ws : List (Key × V), qs = ws.map (fun kv => (kV kv.1, kv.2)) ∧ RepK K ρ H ws kvs
  | _, _, _, .nil, h => by simp only [keyPairs, Option.some.injEq] at h; subst h; exact ⟨[], rfl, .nil⟩
  | (a, b) :: _, (c, d) :: _, _, .cons h1 h2, h => by
    simp only [keyPairs, Option.bind_eq_some_iff, Option.map_eq_some_iff] at h
    obtain ⟨k, e1, rs, e2, rfl⟩ := h
    obtain ⟨ws, rfl, rk⟩ := keyPairs_rep h2 e2
    obtain ⟨h3, h4⟩ := h1
    have := keyOf_rep h3 e1
    dsimp only at this
    subst this
    exact ⟨(k, b) :: ws, rfl, .cons ⟨rfl, h4⟩ rk⟩
theorem RepK.merge {K : PySem.W.Frag} {ρ : List Addr} {H : Hp} : ∀ {ws : List (Key × V)} {kvs : List (Key × Val)} {ws0 : List (Key × V)} {kvs0 : List (Key × Val)}, RepK K ρ H ws kvs → RepK K ρ H ws0 kvs0 → RepK K ρ H (mergeK ws0 ws) (mergeD kvs0 kvs)
  | _, _, _, _, .nil, h0 => h0
  | (a, v) :: ws, (b, x) :: kvs, _, _, .cons h r, h0 => by
    obtain ⟨h1, h2⟩ := h
    obtain rfl : a = b := h1
    exact RepK.merge (ws := ws) (kvs := kvs) r (h0.put a h2)
theorem se_disp {keys : List (Option Expr)} {values : List Expr} {l : List (Fv × Fv)} (h : SPs X Y W pos keys values l) (hall : keys.all (·.isSome) = true := by rfl) (hl : keys.length = values.length := by rfl) (h0 : keys ≠ [] := by simp) (h15 : keys.length ≤ 15 := by decide) : SE X Y W (.Dict keys values pos) (eDisp l) := by
  refine PE.imp (pe_disp h hall hl h0 h15) fun σ H Q hq => ?_
  obtain ⟨ρ, env, S, he, hs, hp⟩ := hq
  intro p hn
  have hs1 : Sim X.K Y (ρ ++ [p]) (upd H p (.dK [])) (S ++ [.dk []]) := hs.new hn ⟨[], upd_same, .nil⟩
  have pn : (ρ ++ [p])[S.length]? = some p := by rw [← hs.len]; simp
  refine tPairs_of (k' := kDisp S.length) (he.up (Pre.snoc _ _) (Ext.new hn)) hs1 (Post.up (Pre.snoc _ _) (Ext.new hn) hp) fun ρ1 H1 S1 qs ps p1 e1 hs2 rp hp1 => ?_
  unfold kDisp at hp1
  split at hp1
  · rename_i kvs ek
    split at hp1
    · rename_i hc
      obtain ⟨ws, rfl, rk⟩ := keyPairs_rep rp ek
      have pi := p1 _ _ pn
      obtain ⟨ws0, e0, r0⟩ := hs2.dk pi hc.1
      have : ws0 = [] := by
        have := r0.length
        exact List.eq_nil_of_length_eq_zero (by simpa using this)
      subst this
      have ex : Ext H1 (upd H1 p (.dK (mergeK [] ws))) := Ext.mut e0 (fun z => z)
      obtain ⟨q1, q2⟩ := hs2.put (u := .dK (mergeK [] ws)) (o := .dk (mergeD [] kvs)) pi ⟨_, upd_same, (rk.merge .nil).up (Pre.refl _) ex⟩
      exact ⟨e0, ws, rfl, by rw [rk.length]; exact hc.2, hp1 _ ρ1 _ (Pre.refl _) ex q2 (.ref pi)⟩
    · exact hp1.elim
  · exact hp1.elim
end
end Mp

set_option Elab.async false
set_option linter.all false
set_option maxRecDepth 100000
set_option maxHeartbeats 1000000
/-! min of a list of data, also with a default. -/
namespace Mp
open PySem PySem.Spec PyProof.Rows L2
mutual
theorem toD_inj : ∀ (x y : Val) (d : PyData), toD x = some d → toD y = some d → x = y
  | .non, y, d, h, k => by cases y <;> simp_all [toD] <;> subst h <;> simp_all
  | .bl b, y, d, h, k => by cases y <;> simp_all [toD] <;> subst h <;> simp_all
  | .int b, y, d, h, k => by cases y <;> simp_all [toD] <;> subst h <;> simp_all
  | .str b, y, d, h, k => by cases y <;> simp_all [toD] <;> subst h <;> simp_all
  | .tup xs, y, d, h, k => by
    simp only [toD, Option.map_eq_some_iff] at h
    obtain ⟨ds, h1, rfl⟩ := h
    cases y with
    | tup ys =>
      simp only [toD, Option.map_eq_some_iff, PyData.tuple.injEq] at k
      obtain ⟨es, k1, rfl⟩ := k
      rw [toDs_inj xs ys _ h1 k1]
    | frz ys => simp [toD] at k
    | ref _ => simp [toD] at k
    | _ => simp [toD] at k
  | .frz xs, y, d, h, k => by
    simp only [toD, Option.map_eq_some_iff] at h
    obtain ⟨ds, h1, rfl⟩ := h
    cases y with
    | frz ys =>
      simp only [toD, Option.map_eq_some_iff, PyData.list.injEq] at k
      obtain ⟨es, k1, rfl⟩ := k
      rw [toDs_inj xs ys _ h1 k1]
    | _ => simp [toD] at k
  | .ref _, y, d, h, k => by simp [toD] at h
theorem toDs_inj : ∀ (xs ys : List Val) (ds : List PyData), toDs xs = some ds → toDs ys = some ds → xs = ys
  | [], ys, ds, h, k => by
    simp only [toDs, Option.some.injEq] at h; subst h
    cases ys with
    | nil => rfl
    | cons y r =>
      simp only [toDs, Option.bind_eq_some_iff, Option.map_eq_some_iff] at k
      obtain ⟨b, _, bs, _, z⟩ := k
      cases z
  | x :: xs, ys, ds, h, k => by
    simp only [toDs, Option.bind_eq_some_iff, Option.map_eq_some_iff] at h
    obtain ⟨a, h1, as, h2, rfl⟩ := h
    cases ys with
    | nil => simp [toDs] at k
    | cons y r =>
      simp only [toDs, Option.bind_eq_some_iff, Option.map_eq_some_iff, List.cons.injEq] at k
      obtain ⟨b, k1, bs, k2, rfl, rfl⟩ := k
      rw [toD_inj x y _ h1 k1, toDs_inj xs r _ h2 k2]
end
/-- the first of the least -/
def minV (x : Val) (xs : List Val) : Val := xs.foldl (fun a y => if PySem.W.dataLt (dOf y) (dOf a) = true then y else a) x
theorem minV_toD : ∀ (xs : List Val) (x : Val) (d : PyData) (ds : List PyData), toD x = some d → toDs xs = some ds → toD (minV x xs) = some (PySem.W.minD d ds)
  | [], x, d, ds, h, k => by
    simp only [toDs, Option.some.injEq] at k; subst k
    exact h
  | y :: r, x, d, ds, h, k => by
    simp only [toDs, Option.bind_eq_some_iff, Option.map_eq_some_iff] at k
    obtain ⟨e, k1, es, k2, rfl⟩ := k
    have e1 := dOf_of h
    have e2 := dOf_of k1
    show toD (minV (if PySem.W.dataLt (dOf y) (dOf x) = true then y else x) r) = some (PySem.W.minD (if PySem.W.dataLt e d = true then e else d) es)
    rw [e1, e2]
    split
    · exact minV_toD r y e es k1 k2
    · exact minV_toD r x d es h k2
def AlD (ds : List PyData) : Prop := PySem.W.AlikeAll ds ∧ PyData.depthAll ds ≤ 60
def rMin : List V → List V → Hp → VK → Prop := fun _ _ _ _ => False
def rMinD (K : PySem.W.Frag) : List V → List V → Hp → VK → Prop := fun vs zs H Q => ∃ (a : Addr) (d : V) (ws : List V) (ds : List PyData), vs = [.ref a] ∧ zs = [d] ∧ SqL K H a ws ∧ DpAll K H ws ds ∧ AlD ds ∧ (ds = [] → Q d H) ∧
  ∀ (y : PyData) (ys : List PyData) (i : Nat) (v : V), ds = y :: ys → ws[i]? = some v → ds[i]? = some (PySem.W.minD y ys) → Q v H
theorem dpAll_get {K : PySem.W.Frag} {H : Hp} : ∀ {ws : List V} {ds : List PyData} {i : Nat} {v : V}, DpAll K H ws ds → ws[i]? = some v → ∃ d, ds[i]? = some d ∧ Dp K H v d
  | _, _, _, _, .nil, h => by simp at h
  | _, _, 0, _, .cons h _, e => by simp at e; subst e; exact ⟨_, rfl, h⟩
  | _, _, i + 1, v, .cons _ r, e => by
    obtain ⟨x, h1, h2⟩ := dpAll_get (i := i) (v := v) r (by simpa using e)
    exact ⟨x, by simpa using h1, h2⟩
theorem toDs_get : ∀ {xs : List Val} {ds : List PyData} {i : Nat} {x : Val}, toDs xs = some ds → xs[i]? = some x → ∃ d, ds[i]? = some d ∧ toD x = some d
  | [], _, _, _, _, h => by simp at h
  | y :: r, _, i, x, h, e => by
    simp only [toDs, Option.bind_eq_some_iff, Option.map_eq_some_iff] at h
    obtain ⟨a, h1, as, h2, rfl⟩ := h
    cases i with
    | zero => simp at e; subst e; exact ⟨a, by simp, h1⟩
    | succ i =>
      obtain ⟨d, q1, q2⟩ := toDs_get h2 (by simpa using e)
      exact ⟨d, by simpa using q1, q2⟩
theorem vals_getV : ∀ {xs : List V} {us : List Value} {i : Nat} {u : Value}, Vals xs us → us[i]? = some u → ∃ x, xs[i]? = some x ∧ RelV x u
  | _, _, _, _, .nil, h => by simp at h
  | _, _, 0, _, .cons h _, e => by simp at e; subst e; exact ⟨_, rfl, h⟩
  | _, _, i + 1, u, .cons _ r, e => by
    obtain ⟨x, h1, h2⟩ := vals_getV (i := i) (u := u) r (by simpa using e)
    exact ⟨x, by simpa using h1, h2⟩
section
variable {X : Cx} {Y : Sy} {W : WX} {p pos : Pos} {e d : Expr} {fe fd : En → Store → Out Val}
theorem min_item {pins : List (Addr × Obj)} {s : Shared} {σ : L2.St} {H : Hp} {a : Addr} {ws : List V} {ds : List PyData} {its : List Value} {y : PyData} {ys : List PyData} {i : Nat} {v : Value} {h' : Heap} {tk : Nat} {bs : List Addr}
    (I : Inv X pins σ H { s with heap := h', toks := tk }) (hd : DpAll X.K H ws ds) (rv : Vals ws its) (hi : its.toArray[i]? = some v) (r : Reads h' v (PySem.W.minD y ys) bs) : ∃ u, ws[i]? = some u ∧ RelV u v ∧ ds[i]? = some (PySem.W.minD y ys) := by
  obtain ⟨u, h1, h2⟩ := vals_getV rv (by simpa using hi)
  obtain ⟨b, h3, h4⟩ := dpAll_get hd h1
  obtain ⟨as, h5⟩ := Dp.reads I b u v h4 h2
  have := (Reads.unique h5 _ _ r).1
  subst this
  exact ⟨u, h1, h2, h3⟩
theorem cr_minD (hc : X.calm = true) (hu : X.A.units + 64 < cLine) : CallRK X (.builtin "min") [Str.ofString "default"] (rMinD X.K) := by
  intro pins s σ H xs zs us ws' Q I r rz h
  obtain ⟨a, d, ws, ds, rfl, rfl, hs, hd, hal, h0, h1⟩ := h
  obtain ⟨its, rv, pl, hz⟩ := I.list hs
  obtain ⟨as, ra⟩ := Dp.readsAll I ds ws its hd rv
  rw [Vals.ref1 r]
  obtain ⟨z, rfl, rz1⟩ := vals1 rz
  refine PySem.W.min_list_default (I.ok.hd hc) pl.isList (xs := ds) (by simpa using ra) hal.1 (by have := hal.2; omega) (fun hn h' tk kp => ?_) fun y ys i v h' tk bs hy hi rd kp => ?_
  · exact ⟨d, H, I.kept kp, rz1, h0 hn⟩
  · have I2 : Inv X pins σ H { s with heap := h', toks := tk } := I.kept kp
    obtain ⟨u, q1, q2, q3⟩ := min_item (a := a) I2 hd rv hi rd
    exact ⟨u, H, I2, q2, h1 y ys i u hy q1 q3⟩
open Classical in
noncomputable def kMinD (x d : Val) (S : Store) : Out Val := match getL S x with
  | some [] => .ok d S
  | some (y :: ys) => if ∃ ds, toDs (y :: ys) = some ds ∧ AlD ds then .ok (minV y ys) S else .bad
  | none => .bad
noncomputable def eMinD (fe fd : En → Store → Out Val) : En → Store → Out Val := fun env S => (fe env S).bind fun x S1 => (fd env S1).bind fun d S2 => kMinD x d S2
theorem se_minD (c : X.calm = true) (hu : X.A.units + 64 < cLine) {kp : Pos} (hg : Gl X "min") (hm : X.mg "min" = none) (ha : SE X Y W e fe) (hd : SE X Y W d fd)
    (he : backTo pos (starEach [e] X.env) = (false, eval e X.env) :: backTo pos (starEach [] X.env) := by rfl) (hpl : (backTo pos (starEach [e] X.env)).any (·.1) = false := by rfl)
    (hall : (backToKw pos (keywordEach [⟨some (Str.ofString "default"), d, kp⟩] X.env)).all (·.1.isSome) = true := by rfl) (hnone : (backToKw pos (keywordEach [⟨some (Str.ofString "default"), d, kp⟩] X.env)).any (·.1.isNone) = false := by rfl)
    (hks : (backToKw pos (keywordEach [⟨some (Str.ofString "default"), d, kp⟩] X.env)).filterMap (·.1) = [Str.ofString "default"] := by rfl)
    (na : starEach [e] X.env = (false, eval e X.env) :: starEach [] X.env := by rfl) :
    SE X Y W (.Call (.Name "min" p) [e] [⟨some (Str.ofString "default"), d, kp⟩] pos) (eMinD fe fd) := by
  refine PE.imp (pe_callBK (cr_minD c hu) hg hm (by decide +kernel) (pa_cons ha pa_nil na) (pk_cons hd pk_nil) (he := he) (hpl := hpl) (hall := hall) (hnone := hnone) (hks := hks)) fun σ H Q h => ?_
  refine tG.bind (k := fun env x S1 => (fd env S1).bind fun d S2 => kMinD x d S2) h fun ρ env v x H1 S1 he hs rx hp => ?_
  refine tG.go he hs hp fun ρ2 u y H2 S2 p2 e2 he2 hs2 ry hp2 => ?_
  have rx2 := rx.up p2 e2
  unfold kMinD at hp2
  split at hp2
  · rename_i hx
    obtain ⟨a, ws, rfl, hq, r⟩ := getL_rep hs2 rx2 hx
    have : ws = [] := List.eq_nil_of_length_eq_zero (by simpa using r.length)
    subst this
    exact ⟨a, u, [], [], rfl, rfl, hq, .nil, ⟨⟨by simp, by simp⟩, by simp [PyData.depthAll]⟩, fun _ => hp2 u ρ2 H2 (Pre.refl _) (Ext.refl _) hs2 ry, fun y ys i v hy => by cases hy⟩
  · rename_i z zs hx
    split at hp2
    · rename_i hc
      obtain ⟨ds, e1, hal⟩ := hc
      obtain ⟨a, ws, rfl, hq, r⟩ := getL_rep hs2 rx2 hx
      have hdp := toDs_dp r e1
      refine ⟨a, u, ws, ds, rfl, rfl, hq, hdp, hal, fun hn => ?_, fun y ys i v hy hv hdv => ?_⟩
      · subst hn
        simp only [toDs, Option.bind_eq_some_iff, Option.map_eq_some_iff] at e1
        obtain ⟨b, _, bs, _, z⟩ := e1
        cases z
      · subst hy
        obtain ⟨t, q1, q2⟩ := r.getV hv
        have e1' := e1
        simp only [toDs, Option.bind_eq_some_iff, Option.map_eq_some_iff, List.cons.injEq] at e1'
        obtain ⟨d0, k1, ds0, k2, rfl, rfl⟩ := e1'
        have km := minV_toD zs z _ _ k1 k2
        obtain ⟨dt, kt, kt2⟩ := toDs_get e1 q1
        rw [hdv] at kt
        cases kt
        have : t = minV z zs := toD_inj _ _ _ kt2 km
        rw [← this] at hp2
        exact hp2 v ρ2 H2 (Pre.refl _) (Ext.refl _) hs2 q2
    · exact hp2.elim
  · exact hp2.elim
end
end Mp

set_option Elab.async false
set_option linter.all false
set_option maxRecDepth 100000
set_option maxHeartbeats 1000000
/-! min of a list of data. -/
namespace Mp
open PySem PySem.Spec PyProof.Rows L2
def rMinL (K : PySem.W.Frag) : List V → Hp → VK → Prop := fun vs H Q => ∃ (a : Addr) (ws : List V) (y : PyData) (ys : List PyData), vs = [.ref a] ∧ SqL K H a ws ∧ DpAll K H ws (y :: ys) ∧ AlD (y :: ys) ∧
  ∀ (i : Nat) (v : V), ws[i]? = some v → (y :: ys)[i]? = some (PySem.W.minD y ys) → Q v H
section
variable {X : Cx} {Y : Sy} {W : WX} {p pos : Pos} {e : Expr} {ga : En → Store → Out (List Val)}
theorem cr_minL (hc : X.calm = true) (hu : X.A.units + 64 < cLine) : CallR X (.builtin "min") (rMinL X.K) := by
  intro pins s σ H vs us Q I r h
  obtain ⟨a, ws, y, ys, rfl, hs, hd, hal, h1⟩ := h
  obtain ⟨its, rv, pl, hz⟩ := I.list hs
  obtain ⟨as, ra⟩ := Dp.readsAll I (y :: ys) ws its hd rv
  rw [Vals.ref1 r]
  refine PySem.W.min_list_data (I.ok.hd hc) pl.isList (x := y) (xs := ys) (by simpa using ra) hal.1 (by have := hal.2; omega) fun i v h' tk bs hi rd kp => ?_
  have I2 : Inv X pins σ H { s with heap := h', toks := tk } := I.kept kp
  obtain ⟨u, q1, q2, q3⟩ := min_item (a := a) I2 hd rv hi rd
  exact ⟨u, H, I2, q2, h1 i u q1 q3⟩
open Classical in
noncomputable def fMinL : Fn := fun vs S => match vs with
  | [x] => match getL S x with
    | some (y :: ys) => if ∃ ds, toDs (y :: ys) = some ds ∧ AlD ds then .ok (minV y ys) S else .bad
    | _ => .bad
  | _ => .bad
theorem se_minL (hc : X.calm = true) (hu : X.A.units + 64 < cLine) (hg : Gl X "min") (hm : X.mg "min" = none) (ha : SA X Y W [e] ga) (he : starEach [e] X.env = [(false, eval e X.env)] := by rfl) : SE X Y W (.Call (.Name "min" p) [e] [] pos) (eCall fMinL ga) := by
  refine se_b (cr_minL hc hu) (fun W' ρ H S vs xs Q hs rx h => ?_) hg hm (by decide +kernel) ha (he := he)
  unfold fMinL at h
  split at h
  · rename_i x
    split at h
    · rename_i z zs hx
      split at h
      · rename_i hcc
        obtain ⟨ds, e1, hal⟩ := hcc
        obtain ⟨v, rfl, rv⟩ := reps1 rx
        obtain ⟨a, ws, rfl, hq, r⟩ := getL_rep hs rv hx
        have hdp := toDs_dp r e1
        have e1' := e1
        simp only [toDs, Option.bind_eq_some_iff, Option.map_eq_some_iff] at e1'
        obtain ⟨d0, k1, ds0, k2, rfl⟩ := e1'
        refine ⟨a, ws, d0, ds0, rfl, hq, hdp, hal, fun i v hv hdv => ?_⟩
        obtain ⟨t, q1, q2⟩ := r.getV hv
        have km := minV_toD zs z _ _ k1 k2
        obtain ⟨dt, kt, kt2⟩ := toDs_get e1 q1
        rw [hdv] at kt
        cases kt
        have : t = minV z zs := toD_inj _ _ _ kt2 km
        rw [← this] at h
        exact h v ρ H (Pre.refl _) (Ext.refl _) hs q2
      · exact h.elim
    · exact h.elim
  · exact h.elim
end
theorem wO_minL {S : Store} {x y : Val} {ys : List Val} {P : Val → Store → Prop} {E : XO} (h : getL S x = some (y :: ys)) (c : ∃ ds, toDs (y :: ys) = some ds ∧ AlD ds) : wO (fMinL [x] S) P E = P (minV y ys) S := by
  unfold fMinL
  simp only [h, if_pos c]
  rfl
end Mp

set_option Elab.async false
set_option linter.all false
set_option maxRecDepth 100000
set_option maxHeartbeats 1000000
/-! sorted of pairs of numbers, truth values among them. -/
namespace Mp
open PySem PySem.Calls PySem.W PyProof.Rows
def bi (p : Bool) : Int := if p = true then 1 else 0
theorem gives_lt_bi (p : Bool) (b : Int) (u : Tok) : Gives (Builtin.«int.__lt__» ⟨[.bool p, .int b u], []⟩) (.val (Value.bool (decide (bi p < b)))) :=
  .of_wp fun M A E s Q h => by
    obtain ⟨hp, g, d, tk, os⟩ := s
    wp_walk
    exact ⟨_, rfl, h⟩
theorem gives_gt_bi (q : Bool) (a : Int) (t : Tok) : Gives (Builtin.«int.__gt__» ⟨[.bool q, .int a t], []⟩) (.val (Value.bool (decide (bi q > a)))) :=
  .of_wp fun M A E s Q h => by
    obtain ⟨hp, g, d, tk, os⟩ := s
    wp_walk
    exact ⟨_, rfl, h⟩
/-- the right one's type comes of the left one's: it is asked first -/
theorem rich_sub {M : Model} {A : Around} {E : Value → Shared → Prop} {s : Shared} {a b : Value} {Ta Tb idb : String} {op : CmpOp} {Q : Value → Shared → Prop} (ha : s.TypeIs a Ta) (hb : s.TypeIs b Tb)
    (hne : (Value.type Ta != Value.type Tb) = true) (hsub : isSubtype (.type Tb) (.type Ta) = pure true) (h2 : Slot Tb (cmpInfo op).2.2 idb)
    (hc : wpAny M A (call (.builtin idb) [b, a]) (fun v s' => v ≠ .notImplemented ∧ Q v s') E s) (hv : [a, b].any Value.onHeap = false := by rfl) : wpAny M A (richCompare op a b) Q E s := by
  generalize hi : cmpInfo op = k at h2
  obtain ⟨sym, f, r⟩ := k
  simp only [richCompare, hi, ha.oneThing_none]
  try with_reducible
    refine wpAny_holding ?_
  simp only [cRoomFor, hv, Bool.false_eq_true, if_false, pure_bind]
  refine wpAny_bind (wpAny_typeOf ha ?_)
  refine wpAny_bind (wpAny_typeOf hb ?_)
  simp only [hne, if_true]
  refine wpAny_bind (wpAny_of_eq hsub ?_)
  simp only [if_true]
  refine wpAny_bind (m := tryCompare b r a) (wpAny_tryCompare_slot hb h2 (wpAny_mono hc (fun v s' z => ⟨z.1, ?_⟩) fun _ _ z => z))
  exact wpAny_bind (wpAny_rule (wpAny_pure z.2))
inductive Nu : Value → Int → Prop
  | int (a : Int) (t : Tok) : Nu (.int a t) a
  | bl (b : Bool) : Nu (.bool b) (bi b)
section
variable {prog : Program} {w : World} {A : Around} {E : Value → Shared → Prop} {s : Shared}
theorem lt_bi {Q : Value → Shared → Prop} {p : Bool} {b : Int} {u : Tok} (h : Q (.bool (decide (bi p < b))) s) : wpAny (model prog w) A (richCompare .Lt (.bool p) (.int b u)) Q E s :=
  wpAny_richCompare_left (typeIs_bool' s p) (typeIs_int s b u) (by decide) F.sub_int_bool F.slot_bool_lt (call_gives F.slot_bool_lt (typeIs_bool' s p) F.entry_int_lt (F.args_int_lt_2 _ _) (gives_lt_bi p b u) ⟨nofun, h⟩)
theorem lt_ib {Q : Value → Shared → Prop} {a : Int} {t : Tok} {q : Bool} (h : Q (.bool (decide (bi q > a))) s) : wpAny (model prog w) A (richCompare .Lt (.int a t) (.bool q)) Q E s :=
  rich_sub (typeIs_int s a t) (typeIs_bool' s q) (by decide) F.sub_bool_int F.slot_bool_gt (call_gives F.slot_bool_gt (typeIs_bool' s q) F.entry_int_gt (F.args_int_gt_2 _ _) (gives_gt_bi q a t) ⟨nofun, h⟩)
theorem nu_lt {Q : Value → Shared → Prop} {x y : Value} {a b : Int} (hx : Nu x a) (hy : Nu y b) (h : Q (.bool (decide (a < b))) s) : wpAny (model prog w) A (richCompare .Lt x y) Q E s := by
  cases hx with
  | int a t => cases hy with
    | int b u => exact (PyProof.Rows.lt_int h : wpAny (model prog w) A (compareOp .Lt (.int a t) (.int b u)) Q E s)
    | bl q => exact lt_ib h
  | bl p => cases hy with
    | int b u => exact lt_bi h
    | bl q => exact (PyProof.Rows.lt_bool (p := p) (q := q) h : wpAny (model prog w) A (compareOp .Lt (.bool p) (.bool q)) Q E s)
theorem nu_eq {x y : Value} {a b : Int} (hx : Nu x a) (hy : Nu y b) : SeqAt.EqAt A s x y (decide (a = b)) := by
  cases hx with
  | int a t => cases hy with
    | int b u =>
      have e : (a == b) = decide (a = b) := by rw [Bool.eq_iff_iff]; simp
      rw [← e]; exact SeqAt.EqAt.int_int a t b u
    | bl q =>
      have e : (a == (if q = true then 1 else 0)) = decide (a = bi q) := by rw [Bool.eq_iff_iff, beq_iff_eq, decide_eq_true_iff]; rfl
      rw [← e]; exact SeqAt.EqAt.int_bool a t q
  | bl p => cases hy with
    | int b u =>
      have e : ((if p = true then 1 else 0) == b) = decide (bi p = b) := by rw [Bool.eq_iff_iff, beq_iff_eq, decide_eq_true_iff]; rfl
      rw [← e]; exact SeqAt.EqAt.bool_int p b u
    | bl q =>
      have e : (p == q) = decide (bi p = bi q) := by cases p <;> cases q <;> simp [bi]
      rw [← e]; exact SeqAt.EqAt.bool_bool p q
def tyN : Value → Value
  | .bool _ => .type "bool"
  | _ => .type "int"
theorem nu_one {f : Bool} {Q : Bool → Shared → Prop} {x y : Value} {a b : Int} (hx : Nu x a) (hy : Nu y b) (hf : f = true → tyN x = tyN y) (h : Q (decide (a < b)) s) : wpAny (model prog w) A (oneLt' f x y) Q E s := by
  cases f with
  | false =>
    rw [oneLt'_eq]
    simp only [Bool.false_eq_true, if_false]
    exact wpAny_bind (nu_lt hx hy (wpAny_truthy_bool h))
  | true =>
    have ht := hf rfl
    cases hx with
    | int a t => cases hy with
      | int b u => exact oneLt_int h
      | bl q => exact absurd ht (by simp [tyN])
    | bl p => cases hy with
      | int b u => exact absurd ht (by simp [tyN])
      | bl q => exact oneLt_bool h
/-- a pair of numbers in the heap -/
structure PrAt (h : Heap) (v : Value) (a b : Int) : Prop where
  ex : ∃ l o xs n x y, v = .ref l ∧ h.get? l = some o ∧ o.cls = .type "tuple" ∧ o.data = .seq xs n ∧ xs.toList = [x, y] ∧ Nu x a ∧ Nu y b
theorem nu_fun {x : Value} {a b : Int} (h : Nu x a) (k : Nu x b) : a = b := by
  cases h <;> cases k <;> rfl
theorem PrAt.fun {h : Heap} {v : Value} {a b c d : Int} (p : PrAt h v a b) (q : PrAt h v c d) : a = c ∧ b = d := by
  obtain ⟨l, o, xs, n, x, y, rfl, h1, _, h3, h4, h5, h6⟩ := p.ex
  obtain ⟨l', o', xs', n', x', y', e, k1, _, k3, k4, k5, k6⟩ := q.ex
  cases e
  rw [h1] at k1
  cases k1
  rw [h3] at k3
  cases k3
  rw [h4] at k4
  simp only [List.cons.injEq, and_true] at k4
  obtain ⟨rfl, rfl⟩ := k4
  exact ⟨nu_fun h5 k5, nu_fun h6 k6⟩
open Classical in
noncomputable def prKind (h : Heap) (ks : List Value) : KeyKind where
  toKeyOrd := listOrd itemOrd
  keyOf v := if q : v ∈ ks ∧ ∃ k : Int × Int, PrAt h v k.1 k.2 then some [.inl q.2.choose.1, .inl q.2.choose.2] else none
  dflt := ([] : List (Int ⊕ List Nat))
theorem prKind_some {h : Heap} {ks : List Value} {v : Value} {a b : Int} (hv : v ∈ ks) (p : PrAt h v a b) : (prKind h ks).keyOf v = some [.inl a, .inl b] := by
  have q : v ∈ ks ∧ ∃ k : Int × Int, PrAt h v k.1 k.2 := ⟨hv, (a, b), p⟩
  obtain ⟨e1, e2⟩ := q.2.choose_spec.fun p
  have e : (prKind h ks).keyOf v = some [.inl q.2.choose.1, .inl q.2.choose.2] := dif_pos q
  rw [e, e1, e2]
theorem prKind_inv {h : Heap} {ks : List Value} {v : Value} {k : List (Int ⊕ List Nat)} (e : (prKind h ks).keyOf v = some k) : v ∈ ks ∧ ∃ a b, PrAt h v a b ∧ k = [.inl a, .inl b] := by
  by_cases q : v ∈ ks ∧ ∃ k : Int × Int, PrAt h v k.1 k.2
  · have e' : (prKind h ks).keyOf v = some [.inl q.2.choose.1, .inl q.2.choose.2] := dif_pos q
    rw [e'] at e
    exact ⟨q.1, _, _, q.2.choose_spec, (Option.some.inj e).symm⟩
  · have e' : (prKind h ks).keyOf v = none := dif_neg q
    rw [e'] at e
    cases e
theorem pr_blt (a b c d : Int) : PyProof.Rows.lexLt itemOrd [.inl a, .inl b] [.inl c, .inl d] = (if a = c then (if b = d then false else decide (b < d)) else decide (a < c)) := by
  rw [lex_cons, lex_cons]
  show (decide (a < c) || (!decide (c < a) && (decide (b < d) || (!decide (d < b) && false)))) = _
  by_cases h1 : a = c
  · subst h1
    by_cases h2 : b = d
    · subst h2; simp
    · simp [h2]
  · by_cases h3 : a < c
    · simp [h1, h3]
    · have : c < a := by omega
      simp [h1, h3, this]
theorem kd_ty {vs : List Value} {h : Heap} : (∀ v ∈ vs, ∃ a b, PrAt h v a b) → ∃ fs, KatTups h vs fs ∧ fs.length = vs.length ∧ (∀ f ∈ fs, ∃ a, Nu f a) ∧ ∀ v ∈ vs, ∃ l o xs n x y, v = .ref l ∧ h.get? l = some o ∧ o.data = .seq xs n ∧ xs.toList = [x, y] ∧ x ∈ fs := by
  induction vs with
  | nil => intro _; exact ⟨[], KatTups.nil, rfl, by simp, by simp⟩
  | cons v r ih =>
    intro hv
    obtain ⟨fs, t1, t2, t3, t4⟩ := ih fun u hu => hv u (List.mem_cons_of_mem _ hu)
    obtain ⟨a, b, p⟩ := hv v (List.mem_cons_self ..)
    obtain ⟨l, o, xs, n, x, y, rfl, h1, h2, h3, h4, h5, h6⟩ := p.ex
    have hf : xs[0]? = some x := by rw [← Array.getElem?_toList, h4]; rfl
    refine ⟨x :: fs, KatTups.cons h1 h2 h3 hf t1, by simp [t2], fun f hf' => ?_, fun u hu => ?_⟩
    · rcases List.mem_cons.mp hf' with rfl | hf'
      · exact ⟨a, h5⟩
      · exact t3 f hf'
    · rcases List.mem_cons.mp hu with rfl | hu
      · exact ⟨l, o, xs, n, x, y, rfl, h1, h3, h4, List.mem_cons_self ..⟩
      · obtain ⟨l', o', xs', n', x', y', e1, e2, e3, e4, e5⟩ := t4 u hu
        exact ⟨l', o', xs', n', x', y', e1, e2, e3, e4, List.mem_cons_of_mem _ e5⟩
theorem mapM_tyN : ∀ {fs : List Value}, (∀ f ∈ fs, ∃ a, Nu f a) → fs.mapM typeOf = pure (fs.map tyN)
  | [], _ => by simp
  | f :: r, h => by
    have ih := mapM_tyN (fs := r) fun g hg => h g (List.mem_cons_of_mem _ hg)
    obtain ⟨a, ha⟩ := h f (List.mem_cons_self ..)
    have e : typeOf f = pure (tyN f) := by cases ha <;> rfl
    rw [List.mapM_cons, ih, e]
    simp
theorem tyN_cases (v : Value) : tyN v = .type "bool" ∨ tyN v = .type "int" := by
  cases v <;> simp [tyN]
def allT (fs : List Value) : Bool := (fs.map tyN).all (· == ((fs.map tyN).headD .none))
theorem pr_kind {vs fs : List Value} {E : Value → Shared → Prop} {Q : SortKind → Shared → Prop} (t : KatTups s.heap vs fs) (hne : 0 < fs.length) (hn : ∀ f ∈ fs, ∃ a, Nu f a) (h : Q (tuples' (allT fs)) s) :
    wpAny (model prog w) A (keyKind' vs.toArray) Q E s := by
  have e1 : ((fs.map some).toArray.all fun x => x.isSome) = true := by simp
  have e2 : ((fs.map some).toArray.filterMap id) = fs.toArray := by simp
  have e3 : fs.toArray.mapM typeOf = (pure (fs.map tyN).toArray : Sem (Array Value)) := by
    rw [List.mapM_toArray, mapM_tyN hn]
    simp
  rw [kat_kind_eq]
  rw [List.mapM_toArray]
  rw [map_eq_pure_bind]
  refine wpAny_bind (wpAny_bind (kat_firsts vs fs t (wpAny_pure ?_)))
  rw [if_pos e1]
  refine wpAny_bind (wpAny_rule ?_)
  rw [e2, oneTypeOnly'_eq, e3]
  simp only [pure_bind]
  obtain ⟨f, r, rfl⟩ : ∃ f r, fs = f :: r := by
    cases fs with
    | nil => simp at hne
    | cons f r => exact ⟨f, r, rfl⟩
  have e4 : (List.map tyN (f :: r)).toArray[0]? = some (tyN f) := by simp
  rw [e4]
  have e5 : ((List.map tyN (f :: r)).toArray.all fun x => x == tyN f) = allT (f :: r) := by
    unfold allT
    simp
  dsimp only
  rw [e5]
  have e6 : (tyN f != Value.type "tuple") = true := by
    cases f <;> rfl
  generalize allT (f :: r) = b at h ⊢
  cases b with
  | true =>
    simp only [if_true, pure_bind]
    have e7 : (Option.any (fun x => x != Value.type "tuple") (some (tyN f))) = true := e6
    rw [e7]
    exact wpAny_pure h
  | false =>
    simp only [Bool.false_eq_true, if_false, pure_bind]
    exact wpAny_pure h
theorem SortsAt.pairs {vs : List Value} (hp : ∀ v ∈ vs, ∃ a b, PrAt s.heap v a b) : SortsAt prog w A s (prKind s.heap vs) vs := by
  refine ⟨fun v hv => ?_, ?_⟩
  · obtain ⟨a, b, p⟩ := hp v hv
    exact ⟨_, prKind_some hv p⟩
  · obtain ⟨fs, t1, t2, t3, t4⟩ := kd_ty hp
    refine ⟨tuples' (allT fs), fun E x y a b Q hx hy hq => ?_, fun h2 E Q hq => pr_kind t1 (by omega) t3 hq⟩
    obtain ⟨mx, a1, a2, px, rfl⟩ := prKind_inv hx
    obtain ⟨my, b1, b2, py, rfl⟩ := prKind_inv hy
    have hq' : Q (PyProof.Rows.lexLt itemOrd [.inl a1, .inl a2] [.inl b1, .inl b2]) s := hq
    rw [pr_blt] at hq'
    obtain ⟨l, o, xs, n, u, v, rfl, h1, _, h3, h4, h5, h6⟩ := px.ex
    obtain ⟨l', o', xs', n', u', v', rfl, k1, _, k3, k4, k5, k6⟩ := py.ex
    have sx : xs.size = 2 := by rw [← Array.length_toList, h4]; rfl
    have sy : xs'.size = 2 := by rw [← Array.length_toList, k4]; rfl
    have same : allT fs = true → tyN u = tyN u' := fun hall => by
      have one : ∀ g ∈ fs, tyN g = ((fs.map tyN).headD .none) := fun g hg => by
        have z := List.all_eq_true.mp hall (tyN g) (List.mem_map.mpr ⟨g, hg, rfl⟩)
        obtain ⟨f0, r0, rfl⟩ : ∃ f0 r0, fs = f0 :: r0 := by
          cases fs with
          | nil => simp at hg
          | cons f0 r0 => exact ⟨f0, r0, rfl⟩
        show tyN g = tyN f0
        have z' : (tyN g == tyN f0) = true := z
        rcases tyN_cases g with e1 | e1 <;> rcases tyN_cases f0 with e2 | e2 <;> rw [e1, e2] at z' ⊢
        · exact absurd z' (by decide)
        · exact absurd z' (by decide)
      have inn : ∀ {v0 : Value} {m : Nat} {ys : Array Value} {oo : Obj} {l0 : Addr} {p q : Value}, v0 = .ref l0 → v0 ∈ vs → s.heap.get? l0 = some oo → oo.data = .seq ys m → ys.toList = [p, q] → p ∈ fs := fun e hm g1 g2 g3 => by
        obtain ⟨l1, o1, ys1, m1, p1, q1, e1, e2, e3, e4, e5⟩ := t4 _ hm
        rw [e] at e1
        cases e1
        rw [g1] at e2; cases e2
        rw [g2] at e3; cases e3
        rw [g3] at e4
        simp only [List.cons.injEq, and_true] at e4
        rw [e4.1]; exact e5
      rw [one u (inn rfl mx h1 h3 h4), one u' (inn rfl my k1 k3 k4)]
    refine kat_lt h1 h3 k1 k3 ?_
    rw [h4, k4, sx, sy]
    refine kat_cons (nu_eq h5 k5 prog w _ _ ?_)
    by_cases c1 : a1 = b1
    · rw [decide_eq_true c1]
      rw [if_pos c1] at hq'
      refine kat_yes (kat_cons (nu_eq h6 k6 prog w _ _ ?_))
      by_cases c2 : a2 = b2
      · rw [decide_eq_true c2]
        rw [if_pos c2] at hq'
        exact kat_yes (kat_nil hq')
      · rw [decide_eq_false c2]
        rw [if_neg c2] at hq'
        exact kat_no (nu_one h6 k6 (fun z => by simp at z) hq')
    · rw [decide_eq_false c1]
      rw [if_neg c1] at hq'
      exact kat_no (nu_one h5 k5 (fun z => same (by simpa using z)) hq')
end
end Mp

set_option Elab.async false
set_option linter.all false
set_option maxRecDepth 100000
set_option maxHeartbeats 1000000
/-! sorted of a tuple. -/
namespace Mp
open PySem PySem.Calls PySem.W PyProof.Rows
section
variable {prog : Program} {w : World} {A : Around} {E : Value → Shared → Prop} {s : Shared}
theorem collectTup {l : Addr} {vs : List Value} {Q : List Value → Shared → Prop} (hl : s.heap.IsTuple l vs.toArray) (hsz : vs.length ≤ sizeLine)
    (h : Q vs { s with heap := (s.heap.push (seqObj "list" #[] 0)).update s.heap.objs.size (Obj.mapSeq (· ++ vs.toArray)) }) : wpAny (model prog w) A (collect (.ref l)) Q E s := by
  obtain ⟨o, ho, hc, n, hd⟩ := hl
  unfold collect
  refine wpAny_bind ?_
  refine wpAny_runValue (codeAny_builtin entry_proto_collect' ?_)
  show wpAny (model prog w) A.in1 (do again (.builtin "list.__iadd__" ⟨[← newList [], .ref l], []⟩)) _ _ s
  refine wpAny_bind (wpAny_newList (wpAny_pure ?_))
  refine ⟨Code.quiet_builtin _ (by decide +kernel), ?_⟩
  refine codeAny_builtin entry_list_iadd' ?_
  show wpAny (model prog w) _ (Builtin.List.listExtendWith (.ref s.heap.objs.size) (.ref l) (.ref s.heap.objs.size)) _ _ { s with heap := s.heap.push (seqObj "list" #[] 0) }
  unfold Builtin.List.listExtendWith
  have g1 : (s.heap.push (seqObj "list" #[] 0)).get? l = some o := Heap.get?_push_of_some _ ho
  refine wpAny_bind (wpAny_typeOf (T := "tuple") ⟨o, g1, hc⟩ ?_)
  have g2 : (Value.type "tuple" == Value.type "tuple") = true := by rfl
  rw [if_pos (by simp [g2])]
  refine wpAny_bind (listItems_at g1 hd ?_)
  refine wpAny_bind (listItems_at (n := 0) (xs := #[]) (Heap.get?_push_size _ rfl) rfl ?_)
  rw [if_neg (by simp)]
  have g3 : (#[] ++ vs.toArray).size ≤ sizeLine + 1 := by
    simp only [Array.size_append, List.size_toArray, List.length_nil]
    omega
  refine wpAny_bind (listUpdate_at (n := 0) (xs := #[]) (Heap.get?_push_size _ rfl) rfl ?_ (Nat.zero_le _) g3)
  refine wpAny_pure ?_
  show wpAny (model prog w) A (do
      let o ← load s.heap.objs.size
      match o.data with
      | .seq xs _ => pure xs.toList
      | _ => unsupported "internal:collect") Q E { s with heap := (s.heap.push (seqObj "list" #[] 0)).update s.heap.objs.size (Obj.mapSeq (· ++ vs.toArray)) }
  refine wpAny_bind (wpAny_load (get?_update_seq (Heap.get?_push_size _ rfl) _) ?_)
  have g4 : ((#[] : Array Value) ++ vs.toArray).toList = vs := by simp
  show wpAny _ _ (pure ((#[] : Array Value) ++ vs.toArray).toList) Q E _
  rw [g4]
  exact wpAny_pure h
theorem sorted_tup {l : Addr} {vs : List Value} {κ : PyProof.Rows.KeyKind} {Q : Value → Shared → Prop} (hl : s.heap.IsTuple l vs.toArray) (hL : vs.length ≤ sizeLine)
    (S : SortsAt prog w A.in1.in1 { s with heap := sortingHeap (copyHeap s.heap vs) (s.heap.objs.size + 1) vs } κ vs)
    (h : Q (.ref (s.heap.objs.size + 1)) { s with heap := sortedAll s.heap vs (sortVals κ false vs vs).toArray }) : wpAny (model prog w) A (call (.builtin "sorted") [.ref l]) Q E s := by
  refine call_function_entry_kw kind_sorted plain_sorted entry_sorted (args_sorted1 _) ?_
  unfold Builtin.«sorted»
  refine wpAny_bind (m := checkCount "sorted" 1 1 _) ?_
  refine wpAny_pure ?_
  refine wpAny_bind (collectTup hl hL ?_)
  refine wpAny_bind (wpAny_newList ?_ hL)
  have sz : ((s.heap.push (seqObj "list" #[] 0)).update s.heap.objs.size (Obj.mapSeq (· ++ vs.toArray))).objs.size = s.heap.objs.size + 1 := (Heap.size_update ..).trans (size_push' ..)
  show wpAny _ _ _ _ _ { s with heap := copyHeap s.heap vs }
  rw [sz]
  refine wpAny_bind ?_
  refine wpAny_holding ?_
  refine wpAny_call_entry_kw slot_list_sort ⟨_, copyHeap_at s.heap vs, rfl⟩ entry_list_sort ?body (args_list_sort _)
  case body =>
    refine wpAny_mono (list_sort_vals (s := { s with heap := copyHeap s.heap vs }) (P := fun f s' => f = .done (.ret .none) ∧ Q (.ref (s.heap.objs.size + 1)) s') (copyHeap_at s.heap vs) S hL ⟨rfl, h⟩) (fun f s' z => ?_) fun _ _ e => e
    obtain ⟨rfl, hq⟩ := z
    exact ⟨_, rfl, wpAny_pure ⟨_, rfl, hq⟩⟩
theorem PrAt.up {h h' : Heap} {v : Value} {a b : Int} (k : ∀ x o, h.get? x = some o → h'.get? x = some o) (p : PrAt h v a b) : PrAt h' v a b := by
  obtain ⟨l, o, xs, n, x, y, e, h1, r⟩ := p.ex
  exact ⟨⟨l, o, xs, n, x, y, e, k _ _ h1, r⟩⟩
theorem each_in {α : Type} {R : Value → α → Prop} : ∀ {vs : List Value} {bs : List α}, EachIs R vs bs → ∀ v ∈ vs, ∃ b, R v b
  | _, _, .nil, v, h => by simp at h
  | _, _, .cons r t, v, h => by
    rcases List.mem_cons.mp h with rfl | h
    · exact ⟨_, r⟩
    · exact each_in t v h
theorem each_mem' {α : Type} {R : Value → α → Prop} : ∀ {vs ws : List Value} {bs : List α}, (∀ v ∈ vs, v ∈ ws) → EachIs R vs bs → EachIs (fun v b => v ∈ ws ∧ R v b) vs bs
  | _, _, _, _, .nil => .nil
  | _, _, _, h, .cons r t => .cons ⟨h _ (List.mem_cons_self ..), r⟩ (each_mem' (fun v hv => h v (List.mem_cons_of_mem _ hv)) t)
def keyP (p : Int × Int) : List (Int ⊕ List Nat) := [.inl p.1, .inl p.2]
/-- sorted of a tuple of pairs of numbers -/
theorem sorted_prs {β : Type} {R : Value → β → Prop} (k : β → Int × Int) {l : Addr} {vs : List Value} {bs : List β} {Q : Value → Shared → Prop} (hl : s.heap.IsTuple l vs.toArray) (hL : vs.length ≤ sizeLine) (e : EachIs R vs bs) (hp : EachIs (fun v b => PrAt s.heap v (k b).1 (k b).2) vs bs)
    (h : ∀ out : List Value, out.length = vs.length → EachIs R out (bs.mergeSort (sortLe (listOrd itemOrd) false fun b => keyP (k b))) → Q (.ref (s.heap.objs.size + 1)) { s with heap := sortedAll s.heap vs out.toArray }) : wpAny (model prog w) A (call (.builtin "sorted") [.ref l]) Q E s := by
  have up : ∀ {v : Value} {a b : Int}, PrAt s.heap v a b → PrAt (sortingHeap (copyHeap s.heap vs) (s.heap.objs.size + 1) vs) v a b := fun p => p.up fun _ _ => sorting_copy_old
  refine sorted_tup hl hL (SortsAt.pairs (s := { s with heap := sortingHeap (copyHeap s.heap vs) (s.heap.objs.size + 1) vs }) fun v hv => ?_) (h _ (sortVals_length false rfl) ?_)
  · obtain ⟨b, p⟩ := each_in hp v hv
    exact ⟨_, _, up p⟩
  · refine sortVals_each (κ := prKind (sortingHeap (copyHeap s.heap vs) (s.heap.objs.size + 1) vs) vs) (fun b => keyP (k b)) e ?_
    refine (each_mem' (ws := vs) (fun v hv => hv) hp).mono fun v b z => ?_
    exact prKind_some z.1 (up z.2)
end
end Mp

set_option Elab.async false
set_option linter.all false
set_option maxRecDepth 100000
set_option maxHeartbeats 1000000
/-! sorted of a tuple of pairs of numbers: the rule. -/
namespace Mp
open PySem PySem.Spec PyProof.Rows L2
inductive NuV : V → Int → Prop
  | int (a : Int) : NuV (.int a) a
  | bl (b : Bool) : NuV (.bl b) (bi b)
theorem NuV.nu {v : V} {u : Value} {a : Int} (h : NuV v a) (r : RelV v u) : Nu u a := by
  cases h with
  | int a =>
    obtain ⟨t, rfl⟩ := r
    exact .int a t
  | bl b =>
    have e : u = Value.bool b := r
    subst e
    exact .bl b
def PrV (K : PySem.W.Frag) (H : Hp) (v : V) (k : Int × Int) : Prop := ∃ (c : Addr) (x y : V), v = .ref c ∧ SqT K H c [x, y] ∧ NuV x k.1 ∧ NuV y k.2
abbrev Bp := V × Int × Int
noncomputable def leB (b c : Bp) : Bool := PySem.W.sortLe (listOrd itemOrd) false (fun b : Bp => keyP b.2) b c
def rSortP (K : PySem.W.Frag) : List V → Hp → VK → Prop := fun vs H Q => ∃ (a : Addr) (bs : List Bp), vs = [V.ref a] ∧ SqT K H a (bs.map (·.1)) ∧ (∀ p ∈ bs, PrV K H p.1 p.2) ∧ bs.length ≤ sizeLine ∧ ∀ p, H p = none → Q (.ref p) (upd H p (.lst ((bs.mergeSort leB).map (·.1))))
theorem bp_each {bs : List Bp} {us : List Value} : PySem.W.EachIs (fun (v : Value) (b : Bp) => RelV b.1 v) us bs → Vals (bs.map (·.1)) us := by
  intro h
  induction h with
  | nil => exact .nil
  | cons a _ ih => exact .cons a ih
section
variable {X : Cx} {Y : Sy} {W : WX} {p pos : Pos} {e : Expr} {ga : En → Store → Out (List Val)}
theorem prV_at {pins : List (Addr × Obj)} {s : Shared} {σ : L2.St} {H : Hp} (I : Inv X pins σ H s) {v : V} {u : Value} {k : Int × Int} (h : PrV X.K H v k) (r : RelV v u) : PrAt s.heap u k.1 k.2 := by
  obtain ⟨c, x, y, rfl, hq, hx, hy⟩ := h
  have e : u = .ref c := r
  subst e
  obtain ⟨its, rv, ht, _⟩ := I.tuple hq
  obtain ⟨o, g1, g2, n, g3⟩ := ht
  match its, rv with
  | [i, j], .cons r1 (.cons r2 .nil) => exact ⟨⟨c, o, _, n, i, j, rfl, g1, g2, g3, by simp, hx.nu r1, hy.nu r2⟩⟩
theorem cr_sortP : CallR X (.builtin "sorted") (rSortP X.K) := by
  intro pins s σ H vs us Q I r h
  obtain ⟨a, bs, rfl, hs, hd, hl, q⟩ := h
  obtain ⟨its, rv, hL, _⟩ := I.tuple hs
  rw [Vals.ref1 r]
  have hlen : its.length = bs.length := by rw [← rv.length, List.length_map]
  have each : ∀ (i : Nat) (v : Value) (b : Bp), its[i]? = some v → bs[i]? = some b → RelV b.1 v := fun i v b h1 h2 => by
    obtain ⟨u, h3, h4⟩ := rv.get (i := i) (x := b.1) (by rw [List.getElem?_map, h2]; rfl)
    rw [h1] at h3
    cases h3
    exact h4
  have e1 : PySem.W.EachIs (fun (v : Value) (b : Bp) => RelV b.1 v) its bs := each_of hlen each
  have e2 : PySem.W.EachIs (fun (v : Value) (b : Bp) => PrAt s.heap v b.2.1 b.2.2) its bs := each_of hlen fun i v b h1 h2 => prV_at I (hd b (List.mem_of_getElem? h2)) (each i v b h1 h2)
  refine sorted_prs (k := fun b : Bp => b.2) hL (by omega) e1 e2 fun out h1 h2 => ?_
  obtain ⟨ep, he'⟩ := PyProof.Rows.sortedAll_at s.heap its out.toArray
  have hlen2 : ((bs.mergeSort leB).map (·.1)).length ≤ sizeLine := by rw [List.length_map, List.length_mergeSort]; exact hl
  refine ⟨.ref _, upd H (s.heap.objs.size + 1) (.lst _), I.laid (t' := s.toks) (fun _ _ => PyProof.Rows.sortedAll_old) (Nat.le_succ _) ⟨hlen2, out, ep, bp_each h2, ?_⟩, rfl, q _ (I.hok.fresh (Nat.le_succ _))⟩
  simpa using he'
def numV : Val → Option Int
  | .int i => some i
  | .bl b => some (bi b)
  | _ => none
def prV : Val → Option (Int × Int)
  | .tup [x, y] => (numV x).bind fun a => (numV y).map fun b => (a, b)
  | _ => none
noncomputable def leP (x y : Val) : Bool := PySem.W.sortLe (listOrd itemOrd) false (fun v : Val => keyP ((prV v).getD (0, 0))) x y
open Classical in
noncomputable def fSortedP : Fn := fun vs S => match vs with
  | [.tup xs] => if (∀ x ∈ xs, ∃ k, prV x = some k) ∧ xs.length ≤ LIM then .ok (.ref S.length) (S ++ [.lst (xs.mergeSort leP)]) else .bad
  | _ => .bad
theorem numV_rep {ρ : List Addr} {H : Hp} {v : V} {x : Val} {a : Int} (r : Rep X.K ρ H v x) (h : numV x = some a) : NuV v a := by
  cases r <;> simp [numV] at h
  · subst h; exact .bl _
  · subst h; exact .int _
theorem prV_rep {ρ : List Addr} {H : Hp} {v : V} {x : Val} {k : Int × Int} (r : Rep X.K ρ H v x) (h : prV x = some k) : PrV X.K H v k := by
  cases r with
  | @tup c ws ys e rs =>
    match ys, rs, h with
    | [], _, h => simp [prV] at h
    | [_], _, h => simp [prV] at h
    | _ :: _ :: _ :: _, _, h => simp [prV] at h
    | [x, y], .cons r1 (.cons r2 .nil), h =>
      simp only [prV, Option.bind_eq_some_iff, Option.map_eq_some_iff] at h
      obtain ⟨a, h1, b, h2, rfl⟩ := h
      exact ⟨c, _, _, rfl, SqT.of e, numV_rep r1 h1, numV_rep r2 h2⟩
  | _ => simp [prV] at h
theorem se_sortedP (hg : Gl X "sorted") (hm : X.mg "sorted" = none) (ha : SA X Y W [e] ga) (he : starEach [e] X.env = [(false, eval e X.env)] := by rfl) : SE X Y W (.Call (.Name "sorted" p) [e] [] pos) (eCall fSortedP ga) := by
  refine se_b cr_sortP (fun W' ρ H S vs xs Q hs rx h => ?_) hg hm (by decide +kernel) ha (he := he)
  unfold fSortedP at h
  split at h
  · rename_i ys
    split at h
    · rename_i hc
      obtain ⟨hk, hl⟩ := hc
      obtain ⟨v, rfl, rv⟩ := reps1 rx
      cases rv with
      | @tup a ws _ e0 r =>
        let cs : List (V × Val) := ws.zip ys
        have hz : cs.map (·.1) = ws := by rw [List.map_fst_zip]; rw [r.length]; exact Nat.le_refl _
        have hz2 : cs.map (·.2) = ys := by rw [List.map_snd_zip]; rw [r.length]; exact Nat.le_refl _
        let bs : List Bp := cs.map fun p => (p.1, (prV p.2).getD (0, 0))
        have hb1 : bs.map (·.1) = ws := by
          show (cs.map _).map _ = _
          rw [List.map_map]
          exact hz
        have hrep : ∀ p ∈ cs, Rep X.K ρ H p.1 p.2 := fun p hp => by
          obtain ⟨i, hi⟩ := List.mem_iff_getElem?.mp hp
          have h1 : (cs.map (·.1))[i]? = some p.1 := by rw [List.getElem?_map, hi]; rfl
          have h2 : (cs.map (·.2))[i]? = some p.2 := by rw [List.getElem?_map, hi]; rfl
          rw [hz] at h1
          rw [hz2] at h2
          obtain ⟨v, h3, h4⟩ := r.get h2
          rw [h1] at h3
          cases h3
          exact h4
        have hsort : bs.mergeSort leB = (cs.mergeSort (fun p q => leP p.2 q.2)).map fun p => (p.1, (prV p.2).getD (0, 0)) :=
          (PySem.W.sort_maps (fun p : V × Val => ((p.1, (prV p.2).getD (0, 0)) : Bp)) (l := cs) (r := fun p q => leP p.2 q.2) (s := leB) fun _ _ _ _ => rfl).symm
        have hsy : (cs.mergeSort (fun p q => leP p.2 q.2)).map (·.2) = ys.mergeSort leP := by
          rw [← hz2]
          exact PySem.W.sort_maps (fun p : V × Val => p.2) (l := cs) (r := fun p q => leP p.2 q.2) (s := leP) fun _ _ _ _ => rfl
        refine ⟨a, bs, rfl, by rw [hb1]; exact SqT.of e0, fun p hp => ?_, ?_, fun p hn => ?_⟩
        · obtain ⟨c, hc, rfl⟩ := List.mem_map.mp hp
          have hy : c.2 ∈ ys := by rw [← hz2]; exact List.mem_map.mpr ⟨c, hc, rfl⟩
          obtain ⟨k, hk'⟩ := hk c.2 hy
          have := prV_rep (hrep c hc) hk'
          show PrV X.K H c.1 ((prV c.2).getD (0, 0))
          rw [hk']
          exact this
        · have : bs.length = ys.length := by
            have h9 := congrArg List.length hb1
            rw [List.length_map] at h9
            exact h9.trans r.length
          rw [this]
          exact lim_le hl
        · have en := Ext.new (o := .lst ((bs.mergeSort leB).map (·.1))) hn
          refine h _ (ρ ++ [p]) _ (Pre.snoc _ _) en (hs.new hn ⟨_, upd_same, ?_⟩) (rep_new hs.len.symm)
          rw [hsort, List.map_map]
          have hr : ∀ l : List (V × Val), (∀ p ∈ l, Rep X.K ρ H p.1 p.2) → Reps X.K ρ H (l.map ((fun (x : Bp) => x.1) ∘ fun (p : V × Val) => (p.1, (prV p.2).getD (0, 0)))) (l.map (·.2)) := by
            intro l
            induction l with
            | nil => intro _; exact .nil
            | cons q l ih => intro hl; exact .cons (hl q (by simp)) (ih fun p hp => hl p (by simp [hp]))
          rw [← hsy]
          rw [hsort, List.map_map] at en
          exact (hr _ fun p hp => hrep p ((List.mergeSort_perm _ _).mem_iff.mp hp)).up (Pre.snoc _ _) en
    · exact h.elim
  · exact h.elim
end
theorem wO_sortedP {S : Store} {xs : List Val} {P : Val → Store → Prop} {E : XO} (h : ∀ x ∈ xs, ∃ k, prV x = some k) (hl : xs.length ≤ LIM) : wO (fSortedP [.tup xs] S) P E = P (.ref S.length) (S ++ [.lst (xs.mergeSort leP)]) := by
  unfold fSortedP
  simp only [if_pos (And.intro h hl)]
  rfl
end Mp

set_option Elab.async false
set_option linter.all false
set_option maxRecDepth 100000
set_option maxHeartbeats 1000000
/-! methods of own objects: o.m(e, ..), o.m(), by the receiver's class. -/
namespace Mp
open PySem PySem.Spec PyProof.Rows L2
/-- the class c's method m of n parameters (self among them) does what g says, in k calls' room -/
structure MeAt (P : Program) (w : World) (K : PySem.W.Frag) (mg : Str → Option Value) (base : Heap) (Y : Sy) (k n : Nat) (c m : Str) (g : Fn) : Prop where
  ex : ∃ C f fd ps, Y.cl c = some C ∧ Meth K C m f ∧ FnOk P w K mg base (L2.CX P w) k f fd ps (spOf K Y n g) ∧ Binds K fd ps []
  ar : Arity n g
theorem RepK.xnone {κ : Type} [BEq κ] [LawfulBEq κ] {K : PySem.W.Frag} {ρ : List Addr} {H : Hp} {f : κ} : ∀ {gs : List (κ × V)} {fs : List (κ × Val)}, RepK K ρ H gs fs → fs.lookup f = none → gs.lookup f = none
  | _, _, .nil, _ => rfl
  | (a, v) :: gs, (b, z) :: fs, .cons h r, e => by
    obtain ⟨h1, h2⟩ := h
    obtain rfl : a = b := h1
    simp only [List.lookup] at e ⊢
    cases hq : (f == a) with
    | true => rw [hq] at e; cases e
    | false => rw [hq] at e; exact RepK.xnone r e
def pickM (l : List (Str × Fn)) (m : Str) (S1 : Store) (x : Val) : Option Fn := match insOf S1 x with
  | some (c, fs) => if fs.lookup m = none then l.lookup c else none
  | none => none
def eMeth (m : Str) (l : List (Str × Fn)) (fo : En → Store → Out Val) (ga : En → Store → Out (List Val)) : En → Store → Out Val := fun env S => (fo env S).bind fun x S1 => match pickM l m S1 x with
  | some g => (ga env S1).bind fun xs S2 => g (x :: xs) S2
  | none => .bad
theorem wO_eMeth {m : Str} {l : List (Str × Fn)} {fo : En → Store → Out Val} {ga : En → Store → Out (List Val)} {env : En} {S : Store} {P : Val → Store → Prop} {E : XO} : wO (eMeth m l fo ga env S) P E = wO (fo env S) (fun x S1 => wP (pickM l m S1 x) fun g => wO (ga env S1) (fun xs S2 => wO (g (x :: xs) S2) P E) E) E := by
  unfold eMeth
  refine wO_bind.trans (wO_ext fun x S1 => ?_)
  cases pickM l m S1 x with
  | none => rfl
  | some g => exact wO_bind
section
variable {X : Cx} {Y : Sy} {W : WX} {kc : Nat} {m : Str} {l : List (Str × Fn)} {e o : Expr} {es : List Expr} {fo : En → Store → Out Val} {ga : En → Store → Out (List Val)} {pos apos : Pos}
theorem pickM_rep {ρ : List Addr} {H : Hp} {S : Store} {v : V} {x : Val} {g : Fn} (hs : Sim X.K Y ρ H S) (r : Rep X.K ρ H v x) (h : pickM l m S x = some g) :
    ∃ c a C dx gs, v = .ref a ∧ Y.cl c = some C ∧ H a = some (.ins C dx gs) ∧ gs.lookup m = none ∧ l.lookup c = some g := by
  unfold pickM at h
  split at h
  · rename_i c fs e1
    split at h
    · rename_i hn
      obtain ⟨i, a, C, dx, gs, rfl, e2, rfl, hi, hC, ea, rk⟩ := insOf_rep hs r e1
      exact ⟨c, a, C, dx, gs, rfl, hC, ea, rk.xnone hn, h⟩
    · cases h
  · cases h
/-- the object's side: what stands behind o -/
def mM (X : Cx) (Y : Sy) (W : WX) (m : Str) (l : List (Str × Fn)) (σ : L2.St) (Q : VK) (ga : En → Store → Out (List Val)) : V → Hp → Prop := fun v H1 => ∃ c a C dx gs g, v = .ref a ∧ Y.cl c = some C ∧ H1 a = some (.ins C dx gs) ∧ gs.lookup m = none ∧ l.lookup c = some g ∧
  ∀ n, Arity n g → tG X.K Y W (RL X.K) ga σ H1 (fun vs H2 => spOf X.K Y n g (.ref a :: vs) H2 Q (WE W σ))
theorem mM_of {σ : L2.St} {H : Hp} {Q : VK} (h : tG X.K Y W (RV X.K) (eMeth m l fo ga) σ H Q) : tG X.K Y W (RV X.K) fo σ H (mM X Y W m l σ Q ga) := by
  refine tG.bind (k := fun env x S1 => match pickM l m S1 x with
    | some g => (ga env S1).bind fun xs S2 => g (x :: xs) S2
    | none => .bad) h fun ρ env v x H1 S1 he hs rx hp => ?_
  split at hp
  · rename_i g eg
    obtain ⟨c, a, C, dx, gs, rfl, hC, ea, hn, hl⟩ := pickM_rep hs rx eg
    refine ⟨c, a, C, dx, gs, g, rfl, hC, ea, hn, hl, fun n har => ?_⟩
    refine tG.go he hs hp fun ρ2 vs xs H2 S2 p2 e2 he2 hs2 rxs hp2 => ?_
    have rs : Reps X.K ρ2 H2 (.ref a :: vs) (x :: xs) := .cons (rx.up p2 e2) rxs
    refine ⟨?_, ρ2, _, S2, rs, hs2, hp2⟩
    by_cases hl2 : (x :: xs).length = n
    · rw [rs.length]; exact hl2
    · rw [har _ _ hl2] at hp2
      exact hp2.elim
  · exact hp.elim
theorem se_meth {pl : Sem Bool} (cc : Cc X Y W kc) (hK : Kls X.K Y) (hl : ∀ c g, l.lookup c = some g → ∃ k n, MeAt X.prog X.w X.K X.mg X.base Y k n c m g ∧ k ≤ kc) (ho : SE X Y W o fo) (ha : SA X Y W (e :: es) ga)
    (hst : starEach (e :: es) X.env = (false, eval e X.env) :: starEach es X.env := by rfl) (hpl : (backTo pos (starEach es X.env)).any (·.1) = false := by rfl)
    (ht : eval (.Call (.Attribute o m apos) (e :: es) [] pos) X.env = (do
      let ov ← eval o X.env
      standAt apos.atName
      let (f, first) ← holding [ov] (getMethod ov m pl)
      callWith pos f first (backTo pos (starEach (e :: es) X.env)) (backToKw pos (keywordEach [] X.env))) := by rfl) : SE X Y W (.Call (.Attribute o m apos) (e :: es) [] pos) (eMeth m l fo ga) := by
  refine ⟨fun pins s σ H Q I h => ?_⟩
  refine PySem.W.methodCall_KW (pl := pl) (thn (ho.run pins s σ H _ I (mM_of h)) fun u s1 ⟨x, H1, I1, rx, z⟩ => ?_) ht
  obtain ⟨c, a, C, dx, gs, g, rfl, hC, ea, hn, hlk, q⟩ := z
  obtain rfl : u = Value.ref a := rx
  obtain ⟨k, n, F, hk⟩ := hl c g hlk
  obtain ⟨C', f, fd, ps, h1, h2, h3, h4⟩ := F.ex
  rw [hC] at h1
  cases h1
  refine getmeth_ok I1 ea (hK c C hC).cls h2 hn ?_
  refine PySem.W.callWith_K (first := [.ref a]) (h₀ := X.base) I.ok.mod.kin h2.kp (thn (ha.run pos pins s1 σ H1 _ I1 (q n F.ar)) fun us s2 ⟨vs, H2, I2, r, q2⟩ => ⟨I2.kIn, ?_⟩) hst hpl
  exact run_fnS (E := WE W) (h3.mono hk) cc.room h4 (passAt cc.tk σ) I2 (us := .ref a :: us) (vs := .ref a :: vs) (.cons rfl r) q2
theorem se_meth0 {pl : Sem Bool} (cc : Cc X Y W kc) (hK : Kls X.K Y) (hl : ∀ c g, l.lookup c = some g → ∃ k n, MeAt X.prog X.w X.K X.mg X.base Y k n c m g ∧ k ≤ kc) (ho : SE X Y W o fo)
    (ht : eval (.Call (.Attribute o m apos) [] [] pos) X.env = (do
      let ov ← eval o X.env
      standAt apos.atName
      let (f, first) ← holding [ov] (getMethod ov m pl)
      callWith pos f first (backTo pos (starEach [] X.env)) (backToKw pos (keywordEach [] X.env))) := by rfl) : SE X Y W (.Call (.Attribute o m apos) [] [] pos) (eMeth m l fo aNil) := by
  refine ⟨fun pins s σ H Q I h => ?_⟩
  refine PySem.W.methodCall_KW (pl := pl) (thn (ho.run pins s σ H _ I (mM_of h)) fun u s1 ⟨x, H1, I1, rx, z⟩ => ?_) ht
  obtain ⟨c, a, C, dx, gs, g, rfl, hC, ea, hn, hlk, q⟩ := z
  obtain rfl : u = Value.ref a := rx
  obtain ⟨k, n, F, hk⟩ := hl c g hlk
  obtain ⟨C', f, fd, ps, h1, h2, h3, h4⟩ := F.ex
  rw [hC] at h1
  cases h1
  refine getmeth_ok I1 ea (hK c C hC).cls h2 hn ?_
  have q0 : spOf X.K Y n g [.ref a] H1 Q (WE W σ) := by
    obtain ⟨ρ, env, S, he, hs, hp⟩ := q n F.ar
    exact hp [] ρ H1 (Pre.refl _) (Ext.refl _) hs .nil
  exact PySem.W.callWith_K0 (first := [.ref a]) I1.kIn h2.kp (run_fnS (E := WE W) (us := [.ref a]) (vs := [.ref a]) (h3.mono hk) cc.room h4 (passAt cc.tk σ) I1 (.cons rfl .nil) q0)
end
end Mp

set_option Elab.async false
set_option linter.all false
set_option maxRecDepth 100000
set_option maxHeartbeats 1000000
/-! o.f += value, whole numbers. -/
namespace Mp
open PySem PySem.Spec PyProof.Rows L2
def kInc2 (f : Str) (c : Str) (i : Int) (env : En) (x : Val) (y : Val) (S2 : Store) : Res := match x, y with
  | .ref r, .int j => (match S2[r]? with
    | some (.ins c' fs) => if c' = c ∧ fs.length < 1000 then .nx env (S2.set r (.ins c' (putS f (.int (i + j)) fs))) else .bad
    | _ => .bad)
  | _, _ => .bad
def incOf (cs : List Str) (f : Str) (S1 : Store) (x : Val) : Option (Str × Int) := match insOf S1 x with
  | some (c, fs) => if c ∈ cs then (match fs.lookup f with
    | some (.int i) => some (c, i)
    | _ => none) else none
  | none => none
def kInc (cs : List Str) (f : Str) (gv : En → Store → Out Val) (env : En) (x : Val) (S1 : Store) : Res := match incOf cs f S1 x with
  | some (c, i) => (gv env S1).toS env (kInc2 f c i env x)
  | none => .bad
def sFldInc (cs : List Str) (f : Str) (go gv : En → Store → Out Val) : En → Store → Res := fun env S => (go env S).toS env (kInc cs f gv env)
section
variable {X : Cx} {Y : Sy} {W : WX} {cs : List Str} {f : Str} {go gv : En → Store → Out Val} {o value : Expr} {pos tpos : Pos}
theorem incOf_rep {ρ : List Addr} {H : Hp} {S : Store} {v : V} {x : Val} {c : Str} {i : Int} (hs : Sim X.K Y ρ H S) (r : Rep X.K ρ H v x) (h : incOf cs f S x = some (c, i)) :
    ∃ k a C dx gs, x = .ref k ∧ v = .ref a ∧ ρ[k]? = some a ∧ Y.cl c = some C ∧ H a = some (.ins C dx gs) ∧ gs.lookup f = some (.int i) ∧ c ∈ cs := by
  unfold incOf at h
  split at h
  · rename_i c' fs e1
    split at h
    · rename_i hc
      split at h
      · rename_i i' e2
        simp only [Option.some.injEq, Prod.mk.injEq] at h
        obtain ⟨rfl, rfl⟩ := h
        obtain ⟨k, a, C, dx, gs, rfl, e3, rfl, hi, hC, ea, rk⟩ := insOf_rep hs r e1
        obtain ⟨u, l, ru⟩ := rk.xlook e2
        cases ru
        exact ⟨k, a, C, dx, gs, rfl, rfl, hi, hC, ea, l, hc⟩
      · cases h
    · cases h
  · cases h
theorem ss_fldinc (hK : Kls X.K Y) (hn : NoF X.K Y cs f) (ho : SE X Y W o go) (hv : SE X Y W value gv) : SS X Y W (.AugAssign (.Attribute o f tpos) .Add value pos) (sFldInc cs f go gv) := by
  refine PS.imp (ps_fldaug ho hv in_add) fun D σ H h => ?_
  refine tS.go (k := fun env x S1 => kInc cs f gv env x S1) h fun ρ env v x H1 S1 he1 hs1 rx hp => ?_
  unfold kInc at hp
  split at hp
  · rename_i c i e1
    obtain ⟨k, a, C, dx, gs, rfl, rfl, hk, hC, ea, hl, hc⟩ := incOf_rep hs1 rx e1
    refine ⟨a, C, dx, gs, .int i, rfl, ea, (hK c C hC).cls, hn c C hc hC, hl, ρ, env, S1, he1, hs1, ?_⟩
    generalize gv env S1 = oo at hp
    cases oo with
    | bad => exact hp
    | err c fs S2 => exact fun cls d ρ2 H2 p2 e2 s2 r2 => hp cls d σ ρ2 H2 p2 e2 (he1.up p2 e2) s2 r2
    | ok y S2 =>
      intro w ρ2 H2 p2 e2 s2 ry
      simp only [Out.toS, kInc2] at hp
      cases ry <;> try (exact hp.elim)
      rename_i j
      dsimp only at hp
      split at hp
      · rename_i c' fs e4
        split at hp
        · rename_i hc2
          obtain ⟨rfl, hlen⟩ := hc2
          have hi2 := p2 _ _ hk
          obtain ⟨C', dx', gs', h1, h2, h3⟩ := (s2.ob k a _ hi2 e4 : ObRep X.K Y ρ2 H2 a (.ins c' fs))
          rw [hC] at h1
          cases h1
          refine ⟨i, j, rfl, rfl, dx', gs', h2, by rw [h3.length]; exact hlen, ?_⟩
          obtain ⟨e5, s5⟩ := s2.put (u := .ins C dx' (putF f (.int (i + j)) gs')) (o := .ins c' (putS f (.int (i + j)) fs)) hi2 ⟨C, dx', _, hC, upd_same, ((RepK.putS (.int (i + j)) h3).up (Pre.refl _) (Ext.mut h2 fun z => z))⟩
          exact hp σ ρ2 _ p2 (e2.trans e5) (he1.up p2 (e2.trans e5)) s5
        · exact hp.elim
      · exact hp.elim
  · exact hp.elim
end
end Mp

set_option Elab.async false
set_option linter.all false
set_option maxRecDepth 100000
set_option maxHeartbeats 1000000
/-! d.get(k), d.get(k, x). -/
namespace Mp
open PySem PySem.Spec PyProof.Rows L2
def isDct (S : Store) : Val → Bool
  | .ref i => (match S[i]? with
    | some (.dk _) => true
    | some (.dt _) => true
    | _ => false)
  | _ => false
theorem isDct_rep {K : PySem.W.Frag} {Y : Sy} {ρ : List Addr} {H : Hp} {S : Store} {v : V} {x : Val} (hs : Sim K Y ρ H S) (r : Rep K ρ H v x) (h : isDct S x = true) : ∃ a, v = .ref a ∧ IsD H a := by
  cases r <;> try (simp [isDct] at h; done)
  case ref a i hi =>
    simp only [isDct] at h
    split at h
    · rename_i kvs e
      obtain ⟨ws, q, _⟩ := hs.dk hi e
      exact ⟨a, rfl, .inl ⟨_, .inl q⟩⟩
    · rename_i kvs e
      obtain ⟨ws, q, _⟩ := hs.dt hi e
      exact ⟨a, rfl, .inr ⟨_, .inl q⟩⟩
    · cases h
def kGet (x y z : Val) (S : Store) : Out Val := match dLook S x y with
  | some (some v) => .ok v S
  | some none => .ok z S
  | none => .bad
def eGet1 (fo fk : En → Store → Out Val) : En → Store → Out Val := fun env S => (fo env S).bind fun x S1 => if isDct S1 x = true then (fk env S1).bind fun y S2 => kGet x y .non S2 else .bad
def eGet2 (fo fk fd : En → Store → Out Val) : En → Store → Out Val := fun env S => (fo env S).bind fun x S1 => if isDct S1 x = true then (fk env S1).bind fun y S2 => (fd env S2).bind fun z S3 => kGet x y z S3 else .bad
section
variable {X : Cx} {Y : Sy} {W : WX} {o e f : Expr} {fo fk fd : En → Store → Out Val} {apos cpos : Pos}
theorem se_get1 (hu : X.A.units + 1 < cLine) (ho : SE X Y W o fo) (he : SE X Y W e fk) (m : M1 X o "get" apos e cpos) : SE X Y W (.Call (.Attribute o "get" apos) [e] [] cpos) (eGet1 fo fk) := by
  refine PE.imp (pe_dget1 hu ho he m) fun σ H Q h => ?_
  refine tG.bind (k := fun env x S1 => if isDct S1 x = true then (fk env S1).bind fun y S2 => kGet x y .non S2 else .bad) h fun ρ env v x H1 S1 he1 hs1 rx hp => ?_
  split at hp
  · rename_i hd
    obtain ⟨a, rfl, id⟩ := isDct_rep hs1 rx hd
    refine ⟨a, rfl, id, ?_⟩
    refine tG.go he1 hs1 hp fun ρ2 w y H2 S2 p2 e2 he2 hs2 ry hp2 => ?_
    unfold kGet at hp2
    have rx2 := rx.up p2 e2
    split at hp2
    · rename_i v' hl
      obtain ⟨a', o', ha, g, z⟩ := dLook_rep hs2 rx2 ry hl
      cases ha
      rcases z with ⟨z1, _⟩ | ⟨x1, y1, z1, z2, z3⟩
      · cases z1
      · cases z1
        subst z2
        exact ⟨_, g, hp2 _ ρ2 H2 (Pre.refl _) (Ext.refl _) hs2 z3⟩
    · rename_i hl
      obtain ⟨a', o', ha, g, z⟩ := dLook_rep hs2 rx2 ry hl
      cases ha
      rcases z with ⟨_, z1⟩ | ⟨x1, y1, z1, _⟩
      · subst z1
        exact ⟨_, g, hp2 _ ρ2 H2 (Pre.refl _) (Ext.refl _) hs2 .non⟩
      · cases z1
    · exact hp2.elim
  · exact hp.elim
theorem se_get2 (hu : X.A.units + 1 < cLine) (ho : SE X Y W o fo) (he : SE X Y W e fk) (hf : SE X Y W f fd) (m : M2 X o "get" apos e f cpos) : SE X Y W (.Call (.Attribute o "get" apos) [e, f] [] cpos) (eGet2 fo fk fd) := by
  refine PE.imp (pe_dget2 hu ho he hf m) fun σ H Q h => ?_
  refine tG.bind (k := fun env x S1 => if isDct S1 x = true then (fk env S1).bind fun y S2 => (fd env S2).bind fun z S3 => kGet x y z S3 else .bad) h fun ρ env v x H1 S1 he1 hs1 rx hp => ?_
  split at hp
  · rename_i hd
    obtain ⟨a, rfl, id⟩ := isDct_rep hs1 rx hd
    refine ⟨a, rfl, id, ?_⟩
    refine tG.go he1 hs1 hp fun ρ2 w y H2 S2 p2 e2 he2 hs2 ry hp2 => ?_
    refine tG.go he2 hs2 hp2 fun ρ3 u zz H3 S3 p3 e3 he3 hs3 rz hp3 => ?_
    unfold kGet at hp3
    have rx3 := (rx.up p2 e2).up p3 e3
    have ry3 := ry.up p3 e3
    split at hp3
    · rename_i v' hl
      obtain ⟨a', o', ha, g, z⟩ := dLook_rep hs3 rx3 ry3 hl
      cases ha
      rcases z with ⟨z1, _⟩ | ⟨x1, y1, z1, z2, z3⟩
      · cases z1
      · cases z1
        subst z2
        exact ⟨_, g, hp3 _ ρ3 H3 (Pre.refl _) (Ext.refl _) hs3 z3⟩
    · rename_i hl
      obtain ⟨a', o', ha, g, z⟩ := dLook_rep hs3 rx3 ry3 hl
      cases ha
      rcases z with ⟨_, z1⟩ | ⟨x1, y1, z1, _⟩
      · subst z1
        exact ⟨_, g, hp3 _ ρ3 H3 (Pre.refl _) (Ext.refl _) hs3 rz⟩
      · cases z1
    · exact hp3.elim
  · exact hp.elim
end
end Mp

set_option Elab.async false
set_option linter.all false
set_option maxRecDepth 100000
set_option maxHeartbeats 1000000
/-! x += value, x a local name, whole numbers. -/
namespace Mp
open PySem PySem.Spec PyProof.Rows L2
def tInc (i : Nat) (tv : TE) : TS := fun D σ H => ∃ v, σ[i]? = some (some v) ∧ tv σ H fun y H1 => rAdd v y H1 fun z H2 => D.nx (σ.set i (some z)) H2
section
variable {X : Cx} {Y : Sy} {W : WX} {i : Nat} {x : Str} {value : Expr} {gv : En → Store → Out Val} {pos pos' : Pos} {tv : TE}
theorem ps_inc (hN : X.N.Nodup) (hi : X.N[i]? = some x) (hx : X.env.scope.names.lookup x = some .local) (hv : PE X value tv) (hcd : (x == ("__classdict__" : Str)) = false := by decide) : PS X (.AugAssign (.Name x pos') .Add value pos) (tInc i tv) := by
  refine ⟨fun pins s σ H D I h => ?_⟩
  obtain ⟨v, e, h⟩ := h
  obtain ⟨m, hn, hl⟩ := I.loc
  obtain ⟨u, r, l⟩ := hl i x v hi e (.inl hx)
  have rest : wpAny (model X.prog X.w) X.A (eval value X.env) (fun v1 s₂ => wpAny (model X.prog X.w) X.A (inplaceOp .Add u v1) (fun r1 s₃ => wpAny (model X.prog X.w) X.A (storeName X.env x r1) (fun _ => SP X pins D .next) X.xe s₃) X.xe s₂) X.xe s := by
    refine thn (hv.run pins s σ H _ I h) fun w s2 ⟨y, H2, I2, ry, q2⟩ => ?_
    refine thn (in_add pins s2 σ H2 v y u w _ I2 r ry q2) fun r1 s3 ⟨z, H3, I3, rz, q3⟩ => ?_
    exact store_ok I3 hN hi (.inl hx) rz (fun s4 I4 => ⟨_, H3, I4, q3⟩) (.inr hx)
  rcases l with ⟨hk, hm⟩ | ⟨hk, c, hc, hcell⟩
  · exact wpAny_AugAssign_Name (wpAny_loadName_local I.ok.kind hk hn hm rest)
  · rcases hk with hk | hk
    · exact wpAny_AugAssign_Name (wpAny_loadName_cell I.ok.kind hk hc hcell rest)
    · exact wpAny_AugAssign_Name (wpAny_loadName_free I.ok.kind hk hc hcell rest hcd)
def kIncN (i : Nat) (a : Int) (env : En) (y : Val) (S : Store) : Res := match y with
  | .int j => .nx (env.set i (some (.int (a + j)))) S
  | _ => .bad
def sInc (i : Nat) (gv : En → Store → Out Val) : En → Store → Res := fun env S => match env[i]? with
  | some (some (.int a)) => (gv env S).toS env (kIncN i a env)
  | _ => .bad
theorem ss_inc (hy : Y.xi = none) (hN : X.N.Nodup) (hi : X.N[i]? = some x) (hx : X.env.scope.names.lookup x = some .local) (hv : SE X Y W value gv) (hcd : (x == ("__classdict__" : Str)) = false := by decide) : SS X Y W (.AugAssign (.Name x pos') .Add value pos) (sInc i gv) := by
  refine PS.imp (ps_inc hN hi hx hv hcd) fun D σ H h => ?_
  obtain ⟨ρ, env, S, he, hs, hp⟩ := h
  unfold sInc at hp
  split at hp
  · rename_i a ea
    obtain ⟨v, ev, r⟩ := he.at_ i _ ea
    cases r
    refine ⟨_, ev, ρ, env, S, he, hs, ?_⟩
    generalize gv env S = oo at hp
    cases oo with
    | bad => exact hp
    | err c fs S2 => exact fun cls d ρ2 H2 p2 e2 s2 r2 => hp cls d σ ρ2 H2 p2 e2 (he.up p2 e2) s2 r2
    | ok y S2 =>
      intro w ρ2 H2 p2 e2 s2 ry
      simp only [Out.toS, kIncN] at hp
      cases ry <;> try (exact hp.elim)
      rename_i j
      exact ⟨a, j, rfl, rfl, hp _ ρ2 H2 p2 e2 ((he.up p2 e2).set (.int (a + j)) hy) s2⟩
  · exact hp.elim
end
end Mp

set_option Elab.async false
set_option linter.all false
set_option maxRecDepth 100000
set_option maxHeartbeats 1000000
/-! words for Mp31 to Mp34. -/
namespace Mp
open PySem PySem.Spec PyProof.Rows L2
def intOf : Val → Option Int
  | .int j => some j
  | _ => none
@[simp] theorem intOf_int {j : Int} : intOf (.int j) = some j := rfl
variable {env : En} {S : Store} {R : RP} {P : Val → Store → Prop} {E : XO}
@[simp] theorem wR_sInc {i : Nat} {gv : En → Store → Out Val} : wR (sInc i gv env S) R = wP ((env[i]?).bind fun o => o.bind intOf) fun a => wO (gv env S) (fun y S1 => wP (intOf y) fun j => R.nx (env.set i (some (.int (a + j)))) S1) (fun c fs S1 => R.er c fs env S1) := by
  unfold sInc
  cases h : env[i]? with
  | none => rfl
  | some o => cases o with
    | none => rfl
    | some x => cases x with
      | int a =>
        refine wR_toS.trans (wO_ext fun y S1 => ?_)
        cases y <;> rfl
      | _ => rfl
theorem wO_kGet {x y z : Val} : wO (kGet x y z S) P E = wP (dLook S x y) fun o => P (o.getD z) S := by
  unfold kGet
  cases dLook S x y with
  | none => rfl
  | some o => cases o <;> rfl
@[simp] theorem wO_eGet2 {fo fk fd : En → Store → Out Val} : wO (eGet2 fo fk fd env S) P E = wO (fo env S) (fun x S1 => isDct S1 x = true ∧ wO (fk env S1) (fun y S2 => wO (fd env S2) (fun z S3 => wP (dLook S3 x y) fun o => P (o.getD z) S3) E) E) E := by
  refine wO_bind.trans (wO_ext fun x S1 => ?_)
  by_cases h : isDct S1 x = true
  · simp only [h, if_true, true_and]
    refine wO_bind.trans (wO_ext fun y S2 => wO_bind.trans (wO_ext fun z S3 => wO_kGet))
  · have h' : isDct S1 x = false := by simpa using h
    simp only [h', Bool.false_eq_true, if_false, false_and]
    rfl
@[simp] theorem wO_eGet1 {fo fk : En → Store → Out Val} : wO (eGet1 fo fk env S) P E = wO (fo env S) (fun x S1 => isDct S1 x = true ∧ wO (fk env S1) (fun y S2 => wP (dLook S2 x y) fun o => P (o.getD .non) S2) E) E := by
  refine wO_bind.trans (wO_ext fun x S1 => ?_)
  by_cases h : isDct S1 x = true
  · simp only [h, if_true, true_and]
    exact wO_bind.trans (wO_ext fun y S2 => wO_kGet)
  · have h' : isDct S1 x = false := by simpa using h
    simp only [h', Bool.false_eq_true, if_false, false_and]
    rfl
@[simp] theorem wR_sFldInc {cs : List Str} {f : Str} {go gv : En → Store → Out Val} : wR (sFldInc cs f go gv env S) R = wO (go env S) (fun x S1 => wP (incOf cs f S1 x) fun q => wO (gv env S1) (fun y S2 => wR (kInc2 f q.1 q.2 env x y S2) R) (fun c fs S2 => R.er c fs env S2)) (fun c fs S1 => R.er c fs env S1) := by
  refine wR_toS.trans (wO_ext fun x S1 => ?_)
  unfold kInc
  cases incOf cs f S1 x with
  | none => rfl
  | some q => exact wR_toS
theorem wR_kInc2 {f c : Str} {i j : Int} {r : Nat} {fs : List (Str × Val)} (h : S[r]? = some (.ins c fs)) (hl : fs.length < 1000) : wR (kInc2 f c i env (.ref r) (.int j) S) R = R.nx env (S.set r (.ins c (putS f (.int (i + j)) fs))) := by
  unfold kInc2
  simp only [h, hl, and_self, if_true]
  rfl
end Mp

set_option Elab.async false
set_option linter.all false
set_option maxRecDepth 100000
set_option maxHeartbeats 1000000
/-! methods by class, from their defs. -/
namespace Mp
open PySem PySem.Spec PyProof.Rows L2
theorem MeAt.of {P : Program} {w : World} {K : PySem.W.Frag} {mg : Str → Option Value} {base : Heap} {Y : Sy} {c m qual : Str} {st : Stmt} {C f : Addr} {fd : FuncData} {N ps : List Str} {k : Nat} {g : En → Store → Res} (F : FunS K m qual st f fd) (hc : Y.cl c = some C) (mt : Meth K C m f) (S : FnScope N ps (defScope st)) (hb : BindsS m qual st ps) (hy : Y.xi = none)
    (h : ∀ cdv A outer s H E, Cc (cxOf (L2.CX P w) P w K mg base N qual (defScope st) f cdv A outer s H E) Y (fun cls d _ H' => E cls d H') k →
      SSs (cxOf (L2.CX P w) P w K mg base N qual (defScope st) f cdv A outer s H E) Y (fun cls d _ H' => E cls d H') (defBody st) g) : MeAt P w K mg base Y (k + 1) ps.length c m (fnB N.length ps.length g) :=
  ⟨⟨C, f, fd, ps, hc, mt, fn_ok F.fun S hy h, F.fun.binds hb⟩, arity_fnB⟩
section
variable {P : Program} {w : World} {K : PySem.W.Frag} {mg : Str → Option Value} {base : Heap} {Y : Sy} {m : Str} {kc : Nat}
/-- what se_meth asks of its list, class by class -/
def MeL (P : Program) (w : World) (K : PySem.W.Frag) (mg : Str → Option Value) (base : Heap) (Y : Sy) (kc : Nat) (m : Str) (l : List (Str × Fn)) : Prop := ∀ c g, l.lookup c = some g → ∃ k n, MeAt P w K mg base Y k n c m g ∧ k ≤ kc
theorem mel_nil : MeL P w K mg base Y kc m [] := fun c g h => by cases h
theorem mel_cons {c : Str} {g : Fn} {k n : Nat} {l : List (Str × Fn)} (F : MeAt P w K mg base Y k n c m g) (hk : k ≤ kc) (r : MeL P w K mg base Y kc m l) : MeL P w K mg base Y kc m ((c, g) :: l) := fun d g' h => by
  simp only [List.lookup] at h
  cases hq : (d == c) with
  | true =>
    rw [hq] at h
    cases h
    have e : d = c := eq_of_beq hq
    subst e
    exact ⟨k, n, F, hk⟩
  | false =>
    rw [hq] at h
    exact r d g' h
end
/-- an own object is the receiver: its method by its class -/
theorem pickM_at {m : Str} {l : List (Str × Fn)} {S : Store} {i : Nat} {c : Str} {fs : List (Str × Val)} {g : Fn} (h : S[i]? = some (.ins c fs)) (hn : fs.lookup m = none) (hl : l.lookup c = some g) : pickM l m S (.ref i) = some g := by
  unfold pickM
  rw [insOf_at h]
  simp only [hn, if_true, hl]
end Mp

set_option Elab.async false
set_option linter.all false
set_option maxRecDepth 100000
set_option maxHeartbeats 1000000
/-! del d[k]; sum, min, max of a list or a tuple; (x, ..) * n. -/
namespace Mp
open PySem PySem.Spec PyProof.Rows L2

/-! ### del d[k] -/
def dropD {κ : Type} [DecidableEq κ] (kvs : List (κ × Val)) (k : κ) : List (κ × Val) := kvs.filter fun kv => decide (kv.1 ≠ k)
theorem RepK.drop {κ : Type} [DecidableEq κ] {K : PySem.W.Frag} {ρ : List Addr} {H : Hp} (k : κ) : ∀ {ws : List (κ × V)} {kvs : List (κ × Val)}, RepK K ρ H ws kvs → RepK K ρ H (dropK ws k) (dropD kvs k)
  | _, _, .nil => .nil
  | p :: ws, q :: kvs, .cons h r => by
    by_cases e : p.1 = k
    · have e' : q.1 = k := by rw [← h.1]; exact e
      have z1 : dropK (p :: ws) k = dropK ws k := List.filter_cons_of_neg (by simp [e])
      have z2 : dropD (q :: kvs) k = dropD kvs k := List.filter_cons_of_neg (by simp [e'])
      rw [z1, z2]
      exact RepK.drop k r
    · have e' : ¬ q.1 = k := by rw [← h.1]; exact e
      have z1 : dropK (p :: ws) k = p :: dropK ws k := List.filter_cons_of_pos (by simp [e])
      have z2 : dropD (q :: kvs) k = q :: dropD kvs k := List.filter_cons_of_pos (by simp [e'])
      rw [z1, z2]
      exact .cons h (RepK.drop k r)
section
variable {X : Cx} {pins : List (Addr × Obj)} {σ : L2.St} {H : Hp} {s : Shared} {a b : Addr} {kvs : List (List Key × V)} {k : List Key} {A : Around} {E : Value → Shared → Prop}
theorem d_delItemT {Q : Unit → Shared → Prop} (hu : A.units + 1 < cLine) (I : Inv X pins σ H s) (e : H a = some (.dT kvs)) (eb : H b = some (.tup (k.map kV))) (l : (valV kvs k).isSome = true)
    (h : ∀ s', Inv X pins σ (upd H a (.dT (dropK kvs k))) s' → Q () s') : wpAny (model X.prog X.w) A (delItem (.ref a) (.ref b)) Q E s := by
  obtain ⟨z, hd, xs, rel, dd⟩ := dt_of I.hok e
  have hz : xs.length ≤ sizeLine := by rw [← Paired.length rel]; exact z
  obtain ⟨v, hv⟩ := Option.isSome_iff_exists.mp l
  obtain ⟨w', hw, _⟩ := RelO.some_of (v := v) (o := (atKey xs k).map (·.2)) (by rw [← hv]; exact rel.val k)
  obtain ⟨p, hp, _⟩ := Option.map_eq_some_iff.mp hw
  refine wpAny_delItem_heap (hsz := hz) (tupleKind_room_in1 hu) (key_of I.hok eb) hd dd hp fun h' dd' hs => h _ ?_
  obtain ⟨q, es, ep, hq, h2, h3, h4, _, h5⟩ := dd'
  refine d_write I (by rw [e]; exact True.intro) hs ⟨q, hq⟩ ⟨Nat.le_trans (dropK_le kvs k) z, hd, _, (L2.DX.KT_drop k rel).keeps fun c ys ec => ?_, q, es, ep, hq, h2, h3, h4, h5⟩
  rw [upd_ne (ne_of ec e (fun z => nomatch z))]
  exact ec
end
def dDel (d k : Val) (S : Store) : Option Store := match d with
  | .ref n => match S[n]? with
    | some (.dk kvs) => (keyOf k).bind fun k => if (lookK kvs k).isSome = true then some (S.set n (.dk (dropD kvs k))) else none
    | some (.dt kvs) => (tkeyOf k).bind fun k => if (lookK kvs k).isSome = true then some (S.set n (.dt (dropD kvs k))) else none
    | _ => none
  | _ => none
def kDel (d i : Val) (env : En) (S : Store) : Res := match dDel d i S with
  | some S' => .nx env S'
  | none => .bad
def sDel (fo fi : En → Store → Out Val) : En → Store → Res := fun env S => (fo env S).toS env fun d S2 => (fi env S2).toS env fun i S3 => kDel d i env S3
section
variable {X : Cx} {Y : Sy} {W : WX} {o i : Expr} {fo fi : En → Store → Out Val} {pos tpos : Pos}
theorem ss_del (hu : X.A.units + 1 < cLine) (ho : SE X Y W o fo) (hi : SE X Y W i fi) : SS X Y W (.Delete [.Subscript o i tpos] pos) (sDel fo fi) := by
  refine ⟨fun pins s σ H D I h => ?_⟩
  have h1 : tG X.K Y W (RV X.K) fo σ H fun v H1 => tG X.K Y W (RV X.K) fi σ H1 fun j H2 => ∃ a, v = .ref a ∧
      ((∃ kvs k, H2 a = some (.dK kvs) ∧ j = kV k ∧ (valV kvs k).isSome = true ∧ D.nx σ (upd H2 a (.dK (dropK kvs k)))) ∨
       (∃ kvs k b, H2 a = some (.dT kvs) ∧ j = .ref b ∧ H2 b = some (.tup (k.map kV)) ∧ (valV kvs k).isSome = true ∧ D.nx σ (upd H2 a (.dT (dropK kvs k))))) := by
    refine tS.go (k := fun env d S2 => (fi env S2).toS env fun i S3 => kDel d i env S3) h fun ρ env v d H1 S1 he hs rd hp => ?_
    refine tS.in he hs hp fun ρ2 j jj H2 S2 p2 e2 he2 hs2 rj hp2 => ?_
    unfold kDel at hp2
    split at hp2
    · rename_i S' es
      unfold dDel at es
      split at es
      · rename_i n
        cases rd with
        | @ref a _ hn =>
        have hn2 := p2 _ _ hn
        refine ⟨a, rfl, ?_⟩
        split at es
        · rename_i kvs ex
          obtain ⟨k, ek, es⟩ := Option.bind_eq_some_iff.mp es
          split at es
          · rename_i hl
            cases es
            obtain ⟨ws, ew, r⟩ := hs2.dk hn2 ex
            have e3 := keyOf_rep rj ek
            subst e3
            have hl2 : (valV ws k).isSome = true := by
              rcases r.look k with ⟨q1, q2⟩ | ⟨v, x, q1, q2, q3⟩
              · rw [q1] at hl; cases hl
              · rw [q2]; rfl
            have e1 : Ext H2 (upd H2 a (.dK (dropK ws k))) := Ext.mut ew (fun z => z)
            obtain ⟨q1, q2⟩ := hs2.put (u := .dK (dropK ws k)) (o := .dk (dropD kvs k)) hn2 ⟨_, upd_same, (r.drop k).up (Pre.refl _) e1⟩
            exact .inl ⟨ws, k, ew, rfl, hl2, hp2 σ ρ2 _ (Pre.refl _) q1 (he2.up (Pre.refl _) q1) q2⟩
          · cases es
        · rename_i kvs ex
          obtain ⟨k, ek, es⟩ := Option.bind_eq_some_iff.mp es
          split at es
          · rename_i hl
            cases es
            obtain ⟨ws, ew, r⟩ := hs2.dt hn2 ex
            obtain ⟨b, rfl, eb⟩ := tkeyOf_rep rj ek
            have hl2 : (valV ws k).isSome = true := by
              rcases r.look k with ⟨q1, q2⟩ | ⟨v, x, q1, q2, q3⟩
              · rw [q1] at hl; cases hl
              · rw [q2]; rfl
            have e1 : Ext H2 (upd H2 a (.dT (dropK ws k))) := Ext.mut ew (fun z => z)
            obtain ⟨q1, q2⟩ := hs2.put (u := .dT (dropK ws k)) (o := .dt (dropD kvs k)) hn2 ⟨_, upd_same, (r.drop k).up (Pre.refl _) e1⟩
            exact .inr ⟨ws, k, b, ew, rfl, eb, hl2, hp2 σ ρ2 _ (Pre.refl _) q1 (he2.up (Pre.refl _) q1) q2⟩
          · cases es
        · cases es
      · cases es
    · exact hp2.elim
  refine wpAny_Delete (wpAny_deleteEach_cons (wpAny_delete_Subscript (thn (ho.run pins s σ H _ I h1) fun u s1 ⟨x, H1, I1, rx, q1⟩ => thn (hi.run pins s1 σ H1 _ I1 q1) fun iv s2 ⟨y, H2, I2, ry, a, ex, q2⟩ => ?_)))
  subst ex
  obtain rfl : u = Value.ref a := rx
  rcases q2 with ⟨kvs, k, e, rfl, l, q3⟩ | ⟨kvs, k, b, e, rfl, eb, l, q3⟩
  · exact d_delItem I2 e ry l fun s3 I3 => wpAny_deleteEach_nil ⟨σ, _, I3, q3⟩
  · obtain rfl : iv = Value.ref b := ry
    exact d_delItemT hu I2 e eb l fun s3 I3 => wpAny_deleteEach_nil ⟨σ, _, I3, q3⟩
end
section
variable {env : En} {S : Store} {R : RP}
@[simp] theorem wR_sDel {fo fi : En → Store → Out Val} : wR (sDel fo fi env S) R = wO (fo env S) (fun d S2 => wO (fi env S2) (fun i S3 => wP (dDel d i S3) fun S4 => R.nx env S4) fun c fs S1 => R.er c fs env S1) (fun c fs S1 => R.er c fs env S1) := by
  refine wR_toS.trans (wO_ext fun d S2 => wR_toS.trans (wO_ext fun i S3 => ?_))
  unfold kDel
  cases dDel d i S3 <;> rfl
end

/-! ### sum, min, max of a list or a tuple -/
def getLT (S : Store) (x : Val) : Option (List Val) := match x with
  | .tup xs => some xs
  | x => getL S x
theorem getLT_rep {K : PySem.W.Frag} {Y : Sy} {ρ : List Addr} {H : Hp} {S : Store} {v : V} {x : Val} {xs : List Val} (s : Sim K Y ρ H S) (r : Rep K ρ H v x) (h : getLT S x = some xs) : ∃ a vs, v = .ref a ∧ (SqT K H a vs ∨ SqL K H a vs) ∧ Reps K ρ H vs xs := by
  unfold getLT at h
  split at h
  · cases h
    cases r with
    | @tup a ws _ e r => exact ⟨a, ws, rfl, .inl (SqT.of e), r⟩
  · obtain ⟨a, vs, e, h1, h2⟩ := getL_rep s r h
    exact ⟨a, vs, e, .inr h1, h2⟩
def rSumT (K : PySem.W.Frag) : List V → Hp → VK → Prop := fun vs H Q => ∃ (a : Addr) (ns : List Int), vs = [V.ref a] ∧ (SqT K H a (ns.map V.int) ∨ SqL K H a (ns.map V.int)) ∧ Q (.int ns.sum) H
section
variable {X : Cx} {Y : Sy} {W : WX} {p pos : Pos} {e : Expr} {ga : En → Store → Out (List Val)}
theorem cr_sumT (hc : X.calm = true) : CallR X (.builtin "sum") (rSumT X.K) := by
  intro pins s σ H vs us Q I r h
  obtain ⟨a, ns, rfl, hs, q⟩ := h
  rcases hs with hs | hs
  · obtain ⟨its, rv, hl, _⟩ := I.tuple hs
    rw [Vals.ref1 r]
    have hi := rv.ints
    obtain ⟨xs, hx⟩ := hi.allInts.items
    have hn : numsOf its.toArray.toList = ns := by rw [show its.toArray.toList = its from rfl, hi.numsOf]
    rw [hx] at hl hn
    rw [nums_intItems] at hn
    refine PySem.W.ktm_sumG (I.ok.hd hc) hl fun h' tk t' hk => ⟨.int _, H, I.kept hk, ⟨t', ?_⟩, q⟩
    rw [preSum_eq, List.take_of_length_le (by simp), hn]
  · exact cr_sum hc pins s σ H _ us Q I r ⟨a, ns, rfl, hs, q⟩
def fSumT : Fn := fun vs S => match vs with
  | [x] => match (getLT S x).bind intsOf with
    | some ns => .ok (.int ns.sum) S
    | none => .bad
  | _ => .bad
theorem se_sumT (hc : X.calm = true) (hg : Gl X "sum") (hm : X.mg "sum" = none) (ha : SA X Y W [e] ga) (he : starEach [e] X.env = [(false, eval e X.env)] := by rfl) : SE X Y W (.Call (.Name "sum" p) [e] [] pos) (eCall fSumT ga) := by
  refine se_b (cr_sumT hc) (fun W' ρ H S vs xs Q hs rx h => ?_) hg hm (by decide +kernel) ha (he := he)
  unfold fSumT at h
  split at h
  · split at h
    · rename_i x ns en
      obtain ⟨ys, e1, e2⟩ := Option.bind_eq_some_iff.mp en
      obtain ⟨v, rfl, rv⟩ := reps1 rx
      obtain ⟨a, ws, rfl, hq, r⟩ := getLT_rep hs rv e1
      have := intsOf_rep r e2
      subst this
      exact ⟨a, ns, rfl, hq, h _ ρ H (Pre.refl _) (Ext.refl _) hs (.int _)⟩
    · exact h.elim
  · exact h.elim
theorem wO_sumT {S : Store} {x : Val} {ns : List Int} {P : Val → Store → Prop} {E : XO} (h : (getLT S x).bind intsOf = some ns) : wO (fSumT [x] S) P E = P (.int ns.sum) S := by
  unfold fSumT
  simp only [h]
  rfl
/-- min (hi = false) or max of whole numbers -/
def extI (hi : Bool) (n : Int) (ns : List Int) : Int := if hi = true then ns.foldl max n else ns.foldl min n
def rExt (hi : Bool) (K : PySem.W.Frag) : List V → Hp → VK → Prop := fun vs H Q => ∃ (a : Addr) (n : Int) (ns : List Int), vs = [V.ref a] ∧ (SqT K H a ((n :: ns).map V.int) ∨ SqL K H a ((n :: ns).map V.int)) ∧ Q (.int (extI hi n ns)) H
theorem dpAll_ints {K : PySem.W.Frag} {H : Hp} : ∀ ns : List Int, DpAll K H (ns.map V.int) (ns.map PyData.int)
  | [] => .nil
  | n :: r => .cons (.int n) (dpAll_ints r)
theorem alike_ints (ns : List Int) : PySem.W.AlikeAll (ns.map PyData.int) := by
  refine ⟨fun d hd d' hd' => ?_, fun d hd => ?_⟩
  · obtain ⟨a, _, rfl⟩ := List.mem_map.mp hd
    obtain ⟨b, _, rfl⟩ := List.mem_map.mp hd'
    simp [PySem.W.alike]
  · obtain ⟨a, _, rfl⟩ := List.mem_map.mp hd
    simp
theorem reads_int {h : Heap} {v : Value} {n : Int} {bs : List Addr} (r : Reads h v (.int n) bs) : ∃ t, v = .int n t := by
  cases r
  exact ⟨_, rfl⟩
theorem cr_ext (hi : Bool) (hc : X.calm = true) (hu : X.A.units + 64 < cLine) : CallR X (.builtin (if hi = true then "max" else "min")) (rExt hi X.K) := by
  intro pins s σ H vs us Q I r h
  obtain ⟨a, n, ns, rfl, hs, q⟩ := h
  have dp := depthAll_ints (n :: ns)
  rcases hs with hs | hs
  · obtain ⟨its, rv, hl, _⟩ := I.tuple hs
    obtain ⟨as, ra⟩ := Dp.readsAll I ((n :: ns).map PyData.int) ((n :: ns).map V.int) its (dpAll_ints _) rv
    rw [Vals.ref1 r]
    cases hi with
    | true =>
      refine PySem.W.max_tuple_data (I.ok.hd hc) hl (x := .int n) (xs := ns.map .int) (by simpa using ra) (alike_ints (n :: ns)) (by rw [show PyData.int n :: ns.map PyData.int = (n :: ns).map PyData.int from rfl, dp]; omega) fun i v h' tk bs hi rd kp => ?_
      rw [PySem.W.maxD_ints] at rd
      obtain ⟨t, rfl⟩ := reads_int rd
      exact ⟨.int _, H, I.kept kp, ⟨t, rfl⟩, q⟩
    | false =>
      refine PySem.W.min_tuple_data (I.ok.hd hc) hl (x := .int n) (xs := ns.map .int) (by simpa using ra) (alike_ints (n :: ns)) (by rw [show PyData.int n :: ns.map PyData.int = (n :: ns).map PyData.int from rfl, dp]; omega) fun i v h' tk bs hi rd kp => ?_
      rw [PySem.W.minD_ints] at rd
      obtain ⟨t, rfl⟩ := reads_int rd
      exact ⟨.int _, H, I.kept kp, ⟨t, rfl⟩, q⟩
  · obtain ⟨its, rv, hl, _⟩ := I.list hs
    obtain ⟨as, ra⟩ := Dp.readsAll I ((n :: ns).map PyData.int) ((n :: ns).map V.int) its (dpAll_ints _) rv
    rw [Vals.ref1 r]
    cases hi with
    | true =>
      refine PySem.W.max_list_data (I.ok.hd hc) hl.isList (x := .int n) (xs := ns.map .int) (by simpa using ra) (alike_ints (n :: ns)) (by rw [show PyData.int n :: ns.map PyData.int = (n :: ns).map PyData.int from rfl, dp]; omega) fun i v h' tk bs hi rd kp => ?_
      rw [PySem.W.maxD_ints] at rd
      obtain ⟨t, rfl⟩ := reads_int rd
      exact ⟨.int _, H, I.kept kp, ⟨t, rfl⟩, q⟩
    | false =>
      refine PySem.W.min_list_data (I.ok.hd hc) hl.isList (x := .int n) (xs := ns.map .int) (by simpa using ra) (alike_ints (n :: ns)) (by rw [show PyData.int n :: ns.map PyData.int = (n :: ns).map PyData.int from rfl, dp]; omega) fun i v h' tk bs hi rd kp => ?_
      rw [PySem.W.minD_ints] at rd
      obtain ⟨t, rfl⟩ := reads_int rd
      exact ⟨.int _, H, I.kept kp, ⟨t, rfl⟩, q⟩
def fExt (hi : Bool) : Fn := fun vs S => match vs with
  | [x] => match (getLT S x).bind intsOf with
    | some (n :: ns) => .ok (.int (extI hi n ns)) S
    | _ => .bad
  | _ => .bad
theorem fExt_ok {hi : Bool} {W' : Value → Option Addr → Hp → Prop} {ρ : List Addr} {H : Hp} {S : Store} {vs : List V} {xs : List Val} {Q : VK} (hs : Sim X.K Y ρ H S) (rx : Reps X.K ρ H vs xs) (h : Post X.K Y W' ρ H (RV X.K) Q (fExt hi xs S)) : rExt hi X.K vs H Q := by
  unfold fExt at h
  split at h
  · split at h
    · rename_i x n ns en
      obtain ⟨ys, e1, e2⟩ := Option.bind_eq_some_iff.mp en
      obtain ⟨v, rfl, rv⟩ := reps1 rx
      obtain ⟨a, ws, rfl, hq, r⟩ := getLT_rep hs rv e1
      have := intsOf_rep r e2
      subst this
      exact ⟨a, n, ns, rfl, hq, h _ ρ H (Pre.refl _) (Ext.refl _) hs (.int _)⟩
    · exact h.elim
  · exact h.elim
theorem se_max1 (hc : X.calm = true) (hu : X.A.units + 64 < cLine) (hg : Gl X "max") (hm : X.mg "max" = none) (ha : SA X Y W [e] ga) (he : starEach [e] X.env = [(false, eval e X.env)] := by rfl) : SE X Y W (.Call (.Name "max" p) [e] [] pos) (eCall (fExt true) ga) :=
  se_b (cr_ext true hc hu) (fun W' ρ H S vs xs Q hs rx h => fExt_ok hs rx h) hg hm (by decide +kernel) ha (he := he)
theorem se_min1 (hc : X.calm = true) (hu : X.A.units + 64 < cLine) (hg : Gl X "min") (hm : X.mg "min" = none) (ha : SA X Y W [e] ga) (he : starEach [e] X.env = [(false, eval e X.env)] := by rfl) : SE X Y W (.Call (.Name "min" p) [e] [] pos) (eCall (fExt false) ga) :=
  se_b (cr_ext false hc hu) (fun W' ρ H S vs xs Q hs rx h => fExt_ok hs rx h) hg hm (by decide +kernel) ha (he := he)
theorem wO_ext1 {hi : Bool} {S : Store} {x : Val} {n : Int} {ns : List Int} {P : Val → Store → Prop} {E : XO} (h : (getLT S x).bind intsOf = some (n :: ns)) : wO (fExt hi [x] S) P E = P (.int (extI hi n ns)) S := by
  unfold fExt
  simp only [h]
  rfl
end
end Mp

set_option Elab.async false
set_option linter.all false
set_option maxRecDepth 100000
set_option maxHeartbeats 1000000
/-! sorted(d); (x, ..) * n. -/
namespace Mp
open PySem PySem.Spec PyProof.Rows L2

/-! ### a dict's keys, in a row -/
section
variable {prog : Program} {w : World} {d : Addr} {o : Obj} {es : Array DictEntry} {ep : Nat}
theorem dictSrc (lo : (d == sysModules) = false) (hx : o.ExactDict) (hd : o.data = .dict es ep) :
    PySem.W.KdlSrc prog w "dict" d d es.size (fun i u => ∃ en : DictEntry, es[i]? = some en ∧ u = en.key) (fun h => h.get? d = some o) where
  type := fun _ z => ⟨o, z, hx.1⟩
  there := fun _ z => ⟨Heap.lt_size z, Heap.lt_size z⟩
  keep := fun _ _ z k => k d (.inl rfl) _ z
  notList := by decide
  notTuple := by decide
  hint := fun _ _ _ _ z q => PySem.W.kdl_hint_dict ⟨o, z, hx.1⟩ q
  iter := fun _ s hh z => ⟨_, _, fun _ _ q => PySem.wpAny_pyIter_dict_raw lo ⟨o, z, hx, hd⟩ q, walks_raw hh _ d (Nat.ne_of_lt (Heap.lt_size z)) hd, ⟨⟨_, Heap.get?_push_size _ rfl, rfl, rfl⟩, Heap.get?_push_of_some _ z⟩⟩
end
/-- what is asked of the items to be sorted -/
def SortRest (K : PySem.W.Frag) (H : Hp) (Q : VK) (bs : List (V × PyData)) : Prop :=
  (∀ p ∈ bs, Dp K H p.1 p.2) ∧ PySem.W.AllAlike (bs.map (·.2)) ∧ PySem.W.Sortable (bs.map (·.2)) ∧
  (∀ p ∈ bs, p.2.depth ≤ 64) ∧ bs.length ≤ sizeLine ∧ ∀ p, H p = none → Q (.ref p) (upd H p (.lst ((bs.mergeSort (PySem.W.dataLe false (·.2))).map (·.1))))
/-- sorted(d) of a dict -/
def rSortedD (K : PySem.W.Frag) : List V → Hp → VK → Prop := fun vs H Q => ∃ (a : Addr), vs = [V.ref a] ∧
  ((∃ kvs, H a = some (.dT kvs) ∧ ∀ cs, IsKeys H kvs cs → ∃ bs : List (V × PyData), bs.map (·.1) = cs.map V.ref ∧ SortRest K H Q bs) ∨ (∃ kvs, H a = some (.dK kvs) ∧ ∃ bs : List (V × PyData), bs.map (·.1) = kvs.map (fun kv => kV kv.1) ∧ SortRest K H Q bs))
section
variable {X : Cx} {Y : Sy} {W : WX} {p pos : Pos} {e : Expr} {ga : En → Store → Out (List Val)}
theorem sort_new {pins : List (Addr × Obj)} {s : Shared} {σ : L2.St} {H : Hp} {A : Around} {E : Value → Shared → Prop} {its : List Value} {bs : List (V × PyData)} {Q : Value → Shared → Prop} (I : Inv X pins σ H s) (hu : A.units + 65 < cLine) (rv : Vals (bs.map (·.1)) its)
    (hd : ∀ p ∈ bs, Dp X.K H p.1 p.2) (hal : PySem.W.AllAlike (bs.map (·.2))) (hk : PySem.W.Sortable (bs.map (·.2))) (hdp : ∀ p ∈ bs, p.2.depth ≤ 64) (hl : bs.length ≤ sizeLine)
    (q : ∀ s', Inv X pins σ (upd H s.heap.objs.size (.lst ((bs.mergeSort (PySem.W.dataLe false (·.2))).map (·.1)))) s' → Q (.ref s.heap.objs.size) s') :
    wpAny (model X.prog X.w) A (do
      let l ← newList its
      let _ ← holding [l] (call (.builtin "list.sort") [l] [])
      ret l) (fun r s' => ∃ v, r = .done (.ret v) ∧ Q v s') E s := by
  have hlen : its.length = bs.length := by rw [← rv.length, List.length_map]
  have e1 : PySem.W.EachIs (fun (v : Value) (b : V × PyData) => RelV b.1 v) its bs := each_of hlen fun i v b h1 h2 => by
    obtain ⟨u, h3, h4⟩ := rv.get (i := i) (x := b.1) (by rw [List.getElem?_map, h2]; rfl)
    rw [h1] at h3
    cases h3
    exact h4
  have e2 : PySem.W.EachIs (fun (v : Value) (b : V × PyData) => ∃ as, Reads s.heap v b.2 as) its bs := each_of hlen fun i v b h1 h2 => by
    obtain ⟨u, h3, h4⟩ := rv.get (i := i) (x := b.1) (by rw [List.getElem?_map, h2]; rfl)
    rw [h1] at h3
    cases h3
    exact Dp.reads I b.2 b.1 v (hd b (List.mem_of_getElem? h2)) h4
  refine wpAny_bind (wpAny_newList ?_ (by omega))
  have ho : (s.heap.push (seqObj "list" its.toArray 0)).get? s.heap.objs.size = some (seqObj "list" its.toArray 0) := Heap.get?_push_size _ rfl
  have e3 : PySem.W.EachIs (fun (v : Value) (b : V × PyData) => ∃ as, Reads (s.heap.push (seqObj "list" its.toArray 0)) v b.2 as ∧ s.heap.objs.size ∉ as) its bs :=
    e2.mono fun v b ⟨as, r⟩ => ⟨as, PyProof.Rows.Reads.keeps (fun _ _ z => Heap.get?_push_of_some _ z) r, fun hm => by
      obtain ⟨o, ho⟩ := PyProof.On.reads_mem_get r _ hm
      exact absurd (Heap.lt_size ho) (Nat.lt_irrefl _)⟩
  show wpAny _ _ _ _ _ { s with heap := s.heap.push (seqObj "list" its.toArray 0) }
  refine wpAny_bind (wpAny_holding (PySem.W.list_sort_data (s := { s with heap := s.heap.push (seqObj "list" its.toArray 0) }) (enc := fun b : V × PyData => b.2) ho e1 e3 hal hk hl (fun b hb => by have := hdp b hb; show A.units + 1 + b.2.depth < cLine; omega) fun out h1 h2 => ?_))
  refine wpAny_pure ⟨_, rfl, ?_⟩
  obtain ⟨e', he'⟩ := PyProof.Rows.sortedHeap_at (vs := its) (out := out.toArray) ho
  have hlen2 : ((bs.mergeSort (PySem.W.dataLe false (·.2))).map (·.1)).length ≤ sizeLine := by rw [List.length_map, List.length_mergeSort]; exact hl
  refine q _ (I.laid (t' := s.toks) (fun b u e => ?_) (Nat.le_refl _) ⟨hlen2, out, e', vals_each h2, ?_⟩)
  · have hb : b < s.heap.objs.size := Heap.lt_size e
    rw [PyProof.Rows.sortedHeap_old (Nat.ne_of_lt hb) (by rw [size_push']; exact Nat.lt_succ_of_lt hb)]
    exact Heap.get?_push_of_some _ e
  · simpa using he'
theorem cr_sortedD (hc : X.calm = true) (hu : X.A.units + 66 < cLine) : CallR X (.builtin "sorted") (rSortedD X.K) := by
  intro pins s σ H vs us Q I r h
  obtain ⟨a, rfl, hs⟩ := h
  rw [Vals.ref1 r]
  refine Calls.call_function_entry PyProof.Rows.kind_sorted PyProof.Rows.plain_sorted PyProof.Rows.entry_sorted (PyProof.Rows.args_sorted1 _) ?_
  unfold Builtin.«sorted»
  refine wpAny_bind (m := checkCount "sorted" 1 1 _) (wpAny_pure ?_)
  have fin : ∀ (h' : Heap) (tk : Nat) (its : List Value) (bs : List (V × PyData)), SortRest X.K H Q bs → (∀ b o, s.heap.get? b = some o → h'.get? b = some o) → Vals (bs.map (·.1)) its → wpAny (model X.prog X.w) X.A.in1 (do
      let l ← newList its
      let _ ← holding [l] (call (.builtin "list.sort") [l] [])
      ret l) (fun r s' => ∃ v, r = .done (.ret v) ∧ EP X pins σ Q v s') X.xe { s with heap := h', toks := tk } := fun h' tk its bs hr hk2 rv => by
    obtain ⟨hd, hal, hk, hdp, hl, q⟩ := hr
    have I1 : Inv X pins σ H { s with heap := h', toks := tk } := I.kept hk2
    exact sort_new I1 (by show X.A.units + 1 + 65 < cLine; omega) rv hd hal hk hdp hl fun s' I2 => ⟨.ref _, _, I2, rfl, q _ (I1.hok.fresh (Nat.le_refl _))⟩
  rcases hs with ⟨kvs, e, hb⟩ | ⟨kvs, e, bs, hb, hr⟩
  · obtain ⟨z, lo, ks, pr, o, es, ep, ho, hx, hdt, ents, nn⟩ := dt_of I.hok e
    have l1 : es.size = ks.length := size_of_entries ents
    have l2 : kvs.length = ks.length := Paired.length pr
    obtain ⟨bs, hb1, hr⟩ := hb _ (isKeys_of pr)
    refine wpAny_bind (PySem.W.kdu_collect (A := X.A.in1) (dictSrc lo hx hdt) (I.ok.hd hc) ho (by omega) fun h' tk acc hk2 it => fin h' tk acc.toList bs hr hk2 ?_)
    rw [hb1]
    have ea : acc.toList = (ks.map fun x => x.2.1).map Value.ref := by
      have hl : acc.toList.length = ks.length := by rw [Array.length_toList, it.1]; exact l1
      refine List.ext_getElem? fun j => ?_
      rw [List.map_map, List.getElem?_map]
      cases hb : ks[j]? with
      | none =>
        have := List.getElem?_eq_none_iff.mp hb
        rw [List.getElem?_eq_none (by omega)]; rfl
      | some b =>
        have hj : j < acc.toList.length := by rw [hl]; exact (List.getElem?_eq_some_iff.mp hb).1
        obtain ⟨en, hen, hv⟩ := it.2 j acc.toList[j] (by rw [← Array.getElem?_toList]; exact List.getElem?_eq_getElem hj)
        have qe := entry_at ents j
        rw [hen, hb] at qe
        rw [List.getElem?_eq_getElem hj, hv, show en = entryOfKey (tupleKind (mixKind X.prog X.w)) b from Option.some.inj qe]
        rfl
    rw [ea]
    exact vals_refs _
  · obtain ⟨z, lo, ks, rel, dd⟩ := dk_of I.hok e
    obtain ⟨ep, hat⟩ := dd.dictAt
    have ek : (kvs.map fun kv => kV kv.1) = ks.map fun p => kV p.1 := by
      have e := congrArg (List.map kV) rel.keys
      rw [List.map_map, List.map_map] at e
      exact e
    refine wpAny_bind (PySem.W.kdu_collect (A := X.A.in1) (PySem.W.kdl_dict (knd := mixKind X.prog X.w) (kvs := ks) (ep := ep) lo) (I.ok.hd hc) hat (by rw [← rel.length]; exact z) fun h' tk acc hk2 hacc => fin h' tk acc.toList bs hr hk2 ?_)
    rw [hb, ek]
    exact keys_at (by rw [Array.length_toList]; exact hacc.1) fun j v e => hacc.2 j v (by rw [← Array.getElem?_toList]; exact e)
/-- a dict's keys as data -/
def keyVals (S : Store) : Val → Option (List Val)
  | .ref n => (match S[n]? with
    | some (.dt kvs) => some (keysL kvs)
    | some (.dk kvs) => some (kvs.map fun kv => kVal kv.1)
    | _ => none)
  | _ => none
open Classical in
noncomputable def fSortedD : Fn := fun vs S => match vs with
  | [x] => match keyVals S x with
    | some xs => if (∃ ds, toDs xs = some ds ∧ PySem.W.AllAlike ds ∧ PySem.W.Sortable ds ∧ ∀ d ∈ ds, d.depth ≤ 64) ∧ xs.length ≤ LIM then .ok (.ref S.length) (S ++ [.lst (xs.mergeSort leV)]) else .bad
    | none => .bad
  | _ => .bad
theorem reps_keysK {K : PySem.W.Frag} {ρ : List Addr} {H : Hp} : ∀ {ws : List (Key × V)} {kvs : List (Key × Val)}, RepK K ρ H ws kvs → Reps K ρ H (ws.map fun kv => kV kv.1) (kvs.map fun kv => kVal kv.1)
  | _, _, .nil => .nil
  | (a, _) :: _, (b, _) :: _, .cons h r => by
    obtain ⟨h1, _⟩ := h
    obtain rfl : a = b := h1
    refine .cons ?_ (reps_keysK r)
    cases a with
    | inl i => exact .int i
    | inr x => exact .str x
theorem sortRest_of {ρ : List Addr} {H : Hp} {S : Store} {W' : Value → Option Addr → Hp → Prop} {ws : List V} {ys : List Val} {ds : List PyData} {Q : VK} (hs : Sim X.K Y ρ H S) (r : Reps X.K ρ H ws ys) (e1 : toDs ys = some ds) (e2 : PySem.W.AllAlike ds) (e3 : PySem.W.Sortable ds) (e4 : ∀ d ∈ ds, d.depth ≤ 64) (hl : ys.length ≤ LIM)
    (h : Post X.K Y W' ρ H (RV X.K) Q (.ok (.ref S.length) (S ++ [.lst (ys.mergeSort leV)]))) : ∃ bs : List (V × PyData), bs.map (·.1) = ws ∧ SortRest X.K H Q bs := by
  have hz : (ws.zip ys).map (·.1) = ws := by rw [List.map_fst_zip]; rw [r.length]; exact Nat.le_refl _
  have hz2 : (ws.zip ys).map (·.2) = ys := by rw [List.map_snd_zip]; rw [r.length]; exact Nat.le_refl _
  let cs : List (V × Val) := ws.zip ys
  let bs : List (V × PyData) := cs.map fun p => (p.1, dOf p.2)
  have hb1 : bs.map (·.1) = ws := by
    show (cs.map _).map _ = _
    rw [List.map_map]
    exact hz
  have hb2 : bs.map (·.2) = ds := by
    show (cs.map _).map _ = _
    rw [List.map_map]
    have : cs.map ((fun (x : V × PyData) => x.2) ∘ fun (p : V × Val) => (p.1, dOf p.2)) = (cs.map (·.2)).map dOf := by rw [List.map_map]; rfl
    rw [this, show cs.map (·.2) = ys from hz2, toDs_map e1]
  have hrep : ∀ p ∈ cs, Rep X.K ρ H p.1 p.2 := fun p hp => by
    obtain ⟨i, hi⟩ := List.mem_iff_getElem?.mp hp
    have h1 : (cs.map (·.1))[i]? = some p.1 := by rw [List.getElem?_map, hi]; rfl
    have h2 : (cs.map (·.2))[i]? = some p.2 := by rw [List.getElem?_map, hi]; rfl
    rw [show cs.map (·.1) = ws from hz] at h1
    rw [show cs.map (·.2) = ys from hz2] at h2
    obtain ⟨v, h3, h4⟩ := r.get h2
    rw [h1] at h3
    cases h3
    exact h4
  have hsort : (bs.mergeSort (PySem.W.dataLe false (·.2))) = (cs.mergeSort (fun p q => leV p.2 q.2)).map fun p => (p.1, dOf p.2) :=
    (PySem.W.sort_maps (fun p : V × Val => (p.1, dOf p.2)) (l := cs) (r := fun p q => leV p.2 q.2) (s := PySem.W.dataLe false (·.2)) fun _ _ _ _ => rfl).symm
  have hsy : (cs.mergeSort (fun p q => leV p.2 q.2)).map (·.2) = ys.mergeSort leV := by
    rw [← hz2]
    exact PySem.W.sort_maps (fun p : V × Val => p.2) (l := cs) (r := fun p q => leV p.2 q.2) (s := leV) fun _ _ _ _ => rfl
  refine ⟨bs, hb1, fun p hp => ?_, by rw [hb2]; exact e2, by rw [hb2]; exact e3, fun p hp => ?_, ?_, fun p hn => ?_⟩
  · obtain ⟨c, hc, rfl⟩ := List.mem_map.mp hp
    have hy : c.2 ∈ ys := by rw [← hz2]; exact List.mem_map.mpr ⟨c, hc, rfl⟩
    obtain ⟨d, h1, _⟩ := toDs_all e1 c.2 hy
    exact toD_dp (hrep c hc) (by rw [dOf_of h1]; exact h1)
  · exact e4 p.2 (by rw [← hb2]; exact List.mem_map.mpr ⟨p, hp, rfl⟩)
  · have : bs.length = ys.length := by
      have h9 := congrArg List.length hb1
      rw [List.length_map] at h9
      exact h9.trans r.length
    rw [this]
    exact lim_le hl
  · have en := Ext.new (o := .lst ((bs.mergeSort (PySem.W.dataLe false (·.2))).map (·.1))) hn
    refine h _ (ρ ++ [p]) _ (Pre.snoc _ _) en (hs.new hn ⟨_, upd_same, ?_⟩) (rep_new hs.len.symm)
    rw [hsort, List.map_map]
    have hr : ∀ l : List (V × Val), (∀ p ∈ l, Rep X.K ρ H p.1 p.2) → Reps X.K ρ H (l.map ((fun (x : V × PyData) => x.1) ∘ fun (p : V × Val) => (p.1, dOf p.2))) (l.map (·.2)) := by
      intro l
      induction l with
      | nil => intro _; exact .nil
      | cons q l ih => intro hl; exact .cons (hl q (by simp)) (ih fun p hp => hl p (by simp [hp]))
    rw [← hsy]
    rw [hsort, List.map_map] at en
    exact (hr _ fun p hp => hrep p ((List.mergeSort_perm _ _).mem_iff.mp hp)).up (Pre.snoc _ _) en
theorem se_sortedD (hc : X.calm = true) (hu : X.A.units + 66 < cLine) (hg : Gl X "sorted") (hm : X.mg "sorted" = none) (ha : SA X Y W [e] ga) (he : starEach [e] X.env = [(false, eval e X.env)] := by rfl) : SE X Y W (.Call (.Name "sorted" p) [e] [] pos) (eCall fSortedD ga) := by
  refine se_b (cr_sortedD hc hu) (fun W' ρ H S vs xs Q hs rx h => ?_) hg hm (by decide +kernel) ha (he := he)
  unfold fSortedD at h
  split at h
  · split at h
    · rename_i ys ey
      split at h
      · rename_i hcc
        obtain ⟨⟨ds, e1, e2, e3, e4⟩, hl⟩ := hcc
        obtain ⟨v, rfl, rv⟩ := reps1 rx
        unfold keyVals at ey
        split at ey
        · rename_i n
          cases rv with
          | @ref a _ hn =>
          refine ⟨a, rfl, ?_⟩
          split at ey
          · rename_i kvs ek
            cases ey
            obtain ⟨ws, e5, r⟩ := hs.dt hn ek
            exact .inl ⟨ws, e5, fun cs hcs => sortRest_of hs (reps_keys r hcs) e1 e2 e3 e4 hl h⟩
          · rename_i kvs ek
            cases ey
            obtain ⟨ws, e5, r⟩ := hs.dk hn ek
            exact .inr ⟨ws, e5, sortRest_of hs (reps_keysK r) e1 e2 e3 e4 hl h⟩
          · cases ey
        · cases ey
      · exact h.elim
    · exact h.elim
  · exact h.elim
end
theorem fSortedD_of {S : Store} {x : Val} {xs : List Val} {l : Nat} {P : Val → Store → Prop} {E : XO} (h : keyVals S x = some xs) (hs : ∀ S', wO (fSorted [.ref S'.length] (S' ++ [.lst xs])) (fun v S2 => S2 = (S' ++ [.lst xs]) ++ [.lst (xs.mergeSort leV)]) noX) : wO (fSortedD [x] S) P E = P (.ref S.length) (S ++ [.lst (xs.mergeSort leV)]) := by
  have h1 := hs S
  unfold fSorted at h1
  simp only [getL_ref, List.getElem?_append_right (Nat.le_refl _), Nat.sub_self, List.getElem?_cons_zero] at h1
  unfold fSortedD
  simp only [h]
  split at h1
  · rename_i hcc
    simp only [if_pos hcc]
    rfl
  · exact h1.elim
end Mp

set_option Elab.async false
set_option linter.all false
set_option maxRecDepth 100000
set_option maxHeartbeats 4000000
/-! (x, ..) * n. -/
namespace Mp
open PySem PySem.Spec PyProof.Rows L2
theorem tuple_mul1 (l : Addr) (items : Array Value) (n : Nat) (dd : Option Addr) (sl : Array (Option Value)) (u : Tok) :
    Meets (Builtin.«tuple.__mul__» ⟨[.ref l, .int 1 u], []⟩) (fun _ R s => s.heap.get? l = some { cls := .type "tuple", dict := dd, data := .seq items n, slots := sl } ∧ R (.ok (.ret (.ref l))) s) :=
  .of_wp fun prog w A R s h => by
    obtain ⟨hp, g, d, tk, os⟩ := s
    obtain ⟨hl, h⟩ := h
    have f1 := AutoSeq1.idx_int
    wp_walk using wpAny_loadPart' hl
    exact ⟨_, rfl, h⟩
def rRep1 (K : PySem.W.Frag) : R2 := fun x y H Q => ∃ l xs, x = .ref l ∧ y = .int 1 ∧ SqT K H l xs ∧ Q (.ref l) H
section
variable {X : Cx} {Y : Sy} {W : WX} {a b : Expr} {fa fb : En → Store → Out Val} {pos : Pos}
theorem op_rep1 : OpR X (binaryOp .Mult) (rRep1 X.K) := by
  intro pins s σ H x y v u Q I rx ry h
  obtain ⟨l, xs, rfl, rfl, hT, q⟩ := h
  cases rx
  obtain ⟨t, rfl⟩ := ry
  obtain ⟨its, r, ⟨⟨cls, dd, data, sl⟩, ho, hc, n, hd⟩, hs⟩ := I.tuple hT
  simp only at hc hd
  subst hc hd
  refine wpAny_binaryOp_repeat_ref (T := "tuple") (U := "int") (by decide) ⟨_, ho, rfl⟩ (fun s' => typeIs_int s' 1 t) noFill_tuple_mul F.fills_int_mul F.slot_int_rmul repeat_tuple F.slot_int_index.lookup
    (call_meets F.slot_int_rmul (typeIs_int s 1 t) F.entry_int_rmul (F.args_int_rmul_2 _ _) (int_rmul_tuple 1 t l its.toArray n dd sl)
      ⟨ho, rfl, ⟨_, ho, rfl⟩, call_meets F.slot_tuple_mul ⟨_, ho, rfl⟩ F.entry_tuple_mul (F.args_tuple_mul_2 _ _) (tuple_mul1 l its.toArray n dd sl t) ⟨ho, ?_⟩⟩)
  exact ⟨.ref l, H, I, rfl, q⟩
/-- (x, ..) * n -/
def vRepT : BOp := fun x y S => match x, y with
  | .tup xs, .int n => if xs ≠ [] ∧ xs.length ≤ 1000 ∧ 1 ≤ n ∧ n ≤ 1000 then .ok (.tup (List.replicate n.toNat xs).flatten) S else .bad
  | _, _ => .bad
theorem Reps.rep {K : PySem.W.Frag} {ρ : List Addr} {H : Hp} {vs : List V} {xs : List Val} (r : Reps K ρ H vs xs) : ∀ n, Reps K ρ H (List.replicate n vs).flatten (List.replicate n xs).flatten
  | 0 => .nil
  | n + 1 => by
    rw [List.replicate_succ, List.replicate_succ, List.flatten_cons, List.flatten_cons]
    exact r.append (Reps.rep r n)
theorem vRepT_ok : OpS X Y (rOr (rRep1 X.K) (rRepT X.K)) vRepT := by
  intro W' ρ H S v w x y Q hs rx ry h
  unfold vRepT at h
  split at h
  · rename_i xs n
    split at h
    · rename_i hc
      obtain ⟨hne, hl, h1, h2⟩ := hc
      cases ry
      cases rx with
      | @tup c ws _ e r =>
        by_cases hn : n = 1
        · subst hn
          refine .inl ⟨c, ws, rfl, rfl, SqT.of e, h _ ρ H (Pre.refl _) (Ext.refl _) hs ?_⟩
          have := Rep.tup e r
          simpa using this
        · refine .inr ⟨c, n, ws, rfl, rfl, SqT.of e, fun z => hne (by
            have := r.length
            rw [z] at this
            exact List.eq_nil_of_length_eq_zero this.symm), by omega, h2, by rw [r.length]; exact hl, fun p hp => ?_⟩
          have en := Ext.new (o := .tup (List.replicate n.toNat ws).flatten) hp
          exact h _ ρ _ (Pre.refl _) en (hs.other hp) (.tup upd_same ((r.rep _).up (Pre.refl _) en))
    · exact h.elim
  · exact h.elim
theorem se_repT (ha : SE X Y W a fa) (hb : SE X Y W b fb) : SE X Y W (.BinOp a .Mult b pos) (eB2 vRepT fa fb) := se_op (OpR.or2 op_rep1 op_repT) vRepT_ok ha hb
end
section
variable {S : Store} {P : Val → Store → Prop} {E : XO}
theorem wO_vRepT {xs : List Val} {n : Int} (h : xs ≠ [] ∧ xs.length ≤ 1000 ∧ 1 ≤ n ∧ n ≤ 1000) : wO (vRepT (.tup xs) (.int n) S) P E = P (.tup (List.replicate n.toNat xs).flatten) S := by
  show wO (if _ then _ else _) _ _ = _
  rw [if_pos h]
  rfl
end
end Mp

set_option Elab.async false
set_option linter.all false
set_option maxRecDepth 100000
set_option maxHeartbeats 1000000
/-! C(), f(). -/
namespace Mp
open PySem PySem.Spec PyProof.Rows L2
section
variable {X : Cx} {Y : Sy} {W : WX} {kc k n : Nat} {c x : Str} {C f : Addr} {fd : FuncData} {ps : List Str} {g : Fn} {p pos : Pos}
theorem se_make0 (cc : Cc X Y W kc) (mk : Mk X.K C f) (fo : FnOk X.prog X.w X.K X.mg X.base (L2.CX X.prog X.w) k f fd ps (spOf X.K Y n g)) (har : Arity n g) (hk : k + 1 ≤ kc) (hc : Y.cl c = some C) (hg : Gl X x) (hm : X.mg x = some (.ref C)) (hb : Binds X.K fd ps [])
    (hdb : (x == ("__debug__" : Str)) = false := by decide) : SE X Y W (.Call (.Name x p) [] [] pos) (eCall (fMake c g) aNil) := by
  refine ⟨fun pins s σ H Q I h => ?_⟩
  refine wpAny_Call_Name_kw (ld_glob I hg hm ?_ hdb)
  let M : List V → Hp → Prop := fun vs J => ∀ a dx, J a = none → J dx = none → dx ≠ a → spOf X.K Y n g (.ref a :: vs) (upd (upd J dx (.own a)) a (.ins C dx [])) (fun v J2 => v = .non ∧ Q (.ref a) J2) (WE W σ)
  have h2 : M [] H := by
    obtain ⟨ρ, env, S1, he, hs, hp⟩ := h
    have hp : Post X.K Y (fun cls d H' => W cls d σ H') ρ H (RV X.K) Q (fMake c g [] S1) := hp
    intro a dx fa fd ne
    have fa2 : upd H dx (.own a) a = none := by rw [upd_ne (Ne.symm ne)]; exact fa
    have e1 : Ext H (upd H dx (.own a)) := Ext.new fd
    have s1 := hs.other (o := .own a) fd
    have s2 : Sim X.K Y (ρ ++ [a]) (upd (upd H dx (.own a)) a (.ins C dx [])) (S1 ++ [.ins c []]) := s1.new fa2 ⟨C, dx, [], hc, upd_same, .nil⟩
    have e2 : Ext H (upd (upd H dx (.own a)) a (.ins C dx [])) := e1.trans (Ext.new fa2)
    have rs : Reps X.K (ρ ++ [a]) (upd (upd H dx (.own a)) a (.ins C dx [])) [.ref a] [.ref S1.length] := .cons (rep_new hs.len.symm) .nil
    unfold fMake at hp
    refine ⟨?_, ρ ++ [a], _, _, rs, s2, ?_⟩
    · by_cases hl : ([Val.ref S1.length] : List Val).length = n
      · rw [rs.length]; exact hl
      · rw [har _ _ hl] at hp
        exact hp.elim
    · generalize g [.ref S1.length] (S1 ++ [.ins c []]) = oo at hp
      cases oo with
      | bad => exact hp
      | err c2 fs S2 => exact Post.up (R := RV X.K) (o := .err c2 fs S2) (Pre.snoc _ _) e2 hp
      | ok r S2 =>
        intro v ρ2 H2 p2 x2 s3 r3
        cases r3 <;> try (exact hp.elim)
        exact ⟨rfl, hp _ ρ2 H2 ((Pre.snoc _ _).trans p2) (e2.trans x2) s3 (.ref (p2 _ _ (by rw [← hs.len]; simp)))⟩
  exact PySem.W.callWith_K0 I.kIn mk.kp (made_run (E := WE W) mk fo (cc.room.mono hk) hb (passAt cc.tk σ) I .nil h2)
theorem sx_make0 (cc : Cc X Y W kc) (F : MkAt X.prog X.w X.K X.mg X.base Y k n c g) (hk : k + 1 ≤ kc) (hg : Gl X c) (hdb : (c == ("__debug__" : Str)) = false := by decide) : SE X Y W (.Call (.Name c p) [] [] pos) (eCall (fMake c g) aNil) := by
  obtain ⟨C, f, fd, ps, h1, h2, h3, h4, h5⟩ := F.ex
  exact se_make0 cc h3 h4 F.ar hk h1 hg h2 h5 hdb
theorem se_call0 (c : Cc X Y W kc) (F : FnOk X.prog X.w X.K X.mg X.base (L2.CX X.prog X.w) k f fd ps (spOf X.K Y n g)) (har : Arity n g) (hk : k ≤ kc) (hg : Gl X x) (hm : X.mg x = some (.ref f)) (kp : PySem.W.keepIn X.K (.ref f) = true) (hb : Binds X.K fd ps [])
    (hdb : (x == ("__debug__" : Str)) = false := by decide) : SE X Y W (.Call (.Name x p) [] [] pos) (eCall g aNil) := by
  refine ⟨fun pins s σ H Q I h => ?_⟩
  refine wpAny_Call_Name_kw (ld_glob I hg hm ?_ hdb)
  have q0 : spOf X.K Y n g [] H Q (WE W σ) := by
    obtain ⟨ρ, env, S, he, hs, hp⟩ := h
    have hp : Post X.K Y (fun cls d H' => W cls d σ H') ρ H (RV X.K) Q (g [] S) := hp
    refine ⟨?_, ρ, [], S, .nil, hs, hp⟩
    by_cases hl : ([] : List Val).length = n
    · exact hl
    · rw [har [] S hl] at hp
      exact hp.elim
  exact PySem.W.callWith_K0 I.kIn kp (run_fnS (E := WE W) (us := []) (vs := []) (F.mono hk) c.room hb (passAt c.tk σ) I .nil q0)
theorem sx_call0 (cc : Cc X Y W kc) (F : FnAt X.prog X.w X.K X.mg X.base Y k n x g) (hk : k ≤ kc) (hg : Gl X x) (hdb : (x == ("__debug__" : Str)) = false := by decide) : SE X Y W (.Call (.Name x p) [] [] pos) (eCall g aNil) := by
  obtain ⟨f, fd, ps, h1, h2, h3, h4⟩ := F.ex
  exact se_call0 cc h1 F.ar hk hg h2 h3 h4 hdb
end
end Mp

set_option Elab.async false
set_option linter.all false
set_option maxRecDepth 100000
set_option maxHeartbeats 1000000
/-! lists of pairs as dicts; what stays of a store; sorted(d). -/
namespace Mp
open PySem PySem.Spec PyProof.Rows L2
section
variable {κ β γ : Type} [DecidableEq κ]
def getA (l : List (κ × β)) (k : κ) : Option β := (l.find? fun p => decide (p.1 = k)).map (·.2)
def putA (l : List (κ × β)) (k : κ) (b : β) : List (κ × β) := if l.any (fun p => decide (p.1 = k)) then l.map (fun p => if p.1 = k then (p.1, b) else p) else l ++ [(k, b)]
def delA (l : List (κ × β)) (k : κ) : List (κ × β) := l.filter fun p => decide (p.1 ≠ k)
@[simp] theorem getA_nil {k : κ} : getA ([] : List (κ × β)) k = none := rfl
theorem getA_cons {p : κ × β} {l : List (κ × β)} {k : κ} : getA (p :: l) k = if p.1 = k then some p.2 else getA l k := by
  unfold getA
  by_cases h : p.1 = k <;> simp [h]
theorem getA_mem {l : List (κ × β)} {k : κ} {b : β} (h : getA l k = some b) : (k, b) ∈ l := by
  unfold getA at h
  obtain ⟨p, hp, rfl⟩ := Option.map_eq_some_iff.mp h
  have h1 := List.find?_some hp
  have h2 := List.mem_of_find?_eq_some hp
  have : p.1 = k := of_decide_eq_true h1
  rw [← this]; exact h2
theorem getA_of {l : List (κ × β)} {k : κ} {b : β} (nd : (l.map (·.1)).Nodup) (h : (k, b) ∈ l) : getA l k = some b := by
  induction l with
  | nil => cases h
  | cons p r ih =>
    rw [List.map_cons, List.nodup_cons] at nd
    rw [getA_cons]
    rcases List.mem_cons.mp h with rfl | h
    · simp
    · have : ¬ p.1 = k := fun z => nd.1 (by rw [z]; exact List.mem_map.mpr ⟨_, h, rfl⟩)
      rw [if_neg this]; exact ih nd.2 h
theorem getA_none {l : List (κ × β)} {k : κ} : getA l k = none ↔ k ∉ l.map (·.1) := by
  induction l with
  | nil => simp
  | cons p r ih =>
    rw [getA_cons]
    by_cases h : p.1 = k
    · simp [h]
    · rw [if_neg h, ih]; simp [Ne.symm h]
theorem getA_some {l : List (κ × β)} {k : κ} : (getA l k).isSome = true ↔ k ∈ l.map (·.1) := by
  cases h : getA l k with
  | none => simpa using getA_none.mp h
  | some b => simpa using ⟨b, getA_mem h⟩
theorem putA_cons {p : κ × β} {l : List (κ × β)} {k : κ} {b : β} : (p.1 = k → putA (p :: l) k b = (p.1, b) :: l.map (fun q => if q.1 = k then (q.1, b) else q)) ∧ (p.1 ≠ k → putA (p :: l) k b = p :: putA l k b) := by
  unfold putA
  refine ⟨fun h => by simp [h], fun h => ?_⟩
  by_cases h2 : l.any fun p => decide (p.1 = k)
  · simp [h, h2]
  · simp [h, h2]
theorem getA_put {l : List (κ × β)} {k k' : κ} {b : β} : getA (putA l k b) k' = if k' = k then some b else getA l k' := by
  induction l with
  | nil =>
    by_cases h : k' = k
    · subst h; simp [putA, getA_cons]
    · simp [putA, getA_cons, h, Ne.symm h]
  | cons p r ih =>
    by_cases h : p.1 = k
    · rw [(putA_cons (p := p) (l := r) (k := k) (b := b)).1 h, getA_cons]
      by_cases h2 : k' = k
      · subst h2; simp [h]
      · have h3 : ¬ p.1 = k' := fun z => h2 (z.symm.trans h)
        rw [if_neg h3, if_neg h2, getA_cons, if_neg h3]
        clear ih h h3
        induction r with
        | nil => rfl
        | cons q r ih =>
          rw [List.map_cons, getA_cons, getA_cons]
          by_cases h4 : q.1 = k
          · simp only [h4, if_true, Ne.symm h2, if_false]; exact ih
          · simp only [h4, if_false]
            split
            · rfl
            · exact ih
    · rw [(putA_cons (p := p) (l := r) (k := k) (b := b)).2 h, getA_cons, getA_cons]
      by_cases h2 : k' = k
      · subst h2
        rw [if_neg h, ih]; simp
      · rw [ih, if_neg h2, if_neg h2]
theorem getA_del {l : List (κ × β)} {k k' : κ} : getA (delA l k) k' = if k' = k then none else getA l k' := by
  induction l with
  | nil => simp [delA]
  | cons p r ih =>
    by_cases h : p.1 = k
    · have e : delA (p :: r) k = delA r k := List.filter_cons_of_neg (by simp [h])
      rw [e, ih, getA_cons]
      by_cases h2 : k' = k
      · simp [h2]
      · have : ¬ p.1 = k' := fun z => h2 (z.symm.trans h)
        simp [h2, this]
    · have e : delA (p :: r) k = p :: delA r k := List.filter_cons_of_pos (by simp [h])
      rw [e, getA_cons, getA_cons, ih]
      by_cases h2 : k' = k
      · subst h2; simp [h]
      · simp [h2]
theorem putA_keys {l : List (κ × β)} {k : κ} {b : β} : (putA l k b).map (·.1) = if k ∈ l.map (·.1) then l.map (·.1) else l.map (·.1) ++ [k] := by
  unfold putA
  have e : (l.any fun p => decide (p.1 = k)) = decide (k ∈ l.map (·.1)) := by
    rw [Bool.eq_iff_iff]; simp
  rw [e]
  by_cases h : k ∈ l.map (·.1)
  · rw [if_pos (decide_eq_true h), if_pos h, List.map_map]
    refine List.map_congr_left fun kv _ => ?_
    simp only [Function.comp]
    split <;> rfl
  · rw [if_neg (by simpa using h), if_neg h, List.map_append]
    rfl
theorem putA_nodup {l : List (κ × β)} {k : κ} {b : β} (h : (l.map (·.1)).Nodup) : ((putA l k b).map (·.1)).Nodup := by
  rw [putA_keys]
  split
  · exact h
  · rename_i c
    rw [List.nodup_append]
    exact ⟨h, by simp, fun a ha b hb z => by simp at hb; subst hb; subst z; exact c ha⟩
theorem delA_nodup {l : List (κ × β)} {k : κ} (h : (l.map (·.1)).Nodup) : ((delA l k).map (·.1)).Nodup := h.sublist ((List.filter_sublist).map _)
theorem mem_putA {l : List (κ × β)} {k : κ} {b : β} {p : κ × β} (h : p ∈ putA l k b) : p = (k, b) ∨ (p ∈ l ∧ p.1 ≠ k) := by
  unfold putA at h
  split at h
  · obtain ⟨q, hq, e⟩ := List.mem_map.mp h
    by_cases c : q.1 = k
    · rw [if_pos c] at e; exact .inl (by rw [← e, c])
    · rw [if_neg c] at e; exact .inr (e ▸ ⟨hq, c⟩)
  · rename_i hn
    rcases List.mem_append.mp h with h | h
    · refine .inr ⟨h, fun z => hn ?_⟩
      rw [List.any_eq_true]
      exact ⟨p, h, decide_eq_true z⟩
    · exact .inl (List.mem_singleton.mp h)
theorem mem_delA {l : List (κ × β)} {k : κ} {p : κ × β} : p ∈ delA l k ↔ p ∈ l ∧ p.1 ≠ k := by
  unfold delA
  simp
theorem putA_length {l : List (κ × β)} {k : κ} {b : β} : (putA l k b).length ≤ l.length + 1 := by
  have e := congrArg List.length (putA_keys (l := l) (k := k) (b := b))
  rw [List.length_map] at e
  rw [e]
  split <;> simp
theorem delA_length {l : List (κ × β)} {k : κ} : (delA l k).length ≤ l.length := List.length_filter_le _ _
theorem map_putA (f : β → γ) {l : List (κ × β)} {k : κ} {b : β} : (putA l k b).map (fun p => (p.1, f p.2)) = putA (l.map fun p => (p.1, f p.2)) k (f b) := by
  unfold putA
  have e : ((l.map fun p => (p.1, f p.2)).any fun p => decide (p.1 = k)) = l.any fun p => decide (p.1 = k) := by rw [List.any_map]; rfl
  rw [e]
  split
  · rw [List.map_map, List.map_map]
    refine List.map_congr_left fun p _ => ?_
    simp only [Function.comp]
    split <;> rfl
  · simp
theorem map_delA (f : β → γ) {l : List (κ × β)} {k : κ} : (delA l k).map (fun p => (p.1, f p.2)) = delA (l.map fun p => (p.1, f p.2)) k := by
  unfold delA
  rw [List.filter_map]
  rfl
theorem getA_map (f : β → γ) {l : List (κ × β)} {k : κ} : getA (l.map fun p => (p.1, f p.2)) k = (getA l k).map f := by
  induction l with
  | nil => rfl
  | cons p r ih =>
    rw [List.map_cons, getA_cons, getA_cons, ih]
    split <;> rfl
/-! as dicts -/
variable {κ' : Type} [DecidableEq κ'] {kf : κ → κ'} {vf : β → Val}
theorem lookK_enc (inj : ∀ a b, kf a = kf b → a = b) {l : List (κ × β)} {k : κ} : lookK (l.map fun p => (kf p.1, vf p.2)) (kf k) = (getA l k).map vf := by
  induction l with
  | nil => rfl
  | cons p r ih =>
    rw [getA_cons]
    by_cases h : p.1 = k
    · simp [lookK, h]
    · have h' : ¬ kf p.1 = kf k := fun z => h (inj _ _ z)
      have e : lookK ((p :: r).map fun p => (kf p.1, vf p.2)) (kf k) = lookK (r.map fun p => (kf p.1, vf p.2)) (kf k) := by
        simp [lookK, h']
      rw [e, ih, if_neg h]
theorem putD_enc (inj : ∀ a b, kf a = kf b → a = b) {l : List (κ × β)} {k : κ} {b : β} : putD (l.map fun p => (kf p.1, vf p.2)) (kf k) (vf b) = (putA l k b).map fun p => (kf p.1, vf p.2) := by
  have he : ∀ a : κ, kf a = kf k ↔ a = k := fun a => ⟨inj _ _, fun z => by rw [z]⟩
  unfold putD putA
  have e : ((l.map fun p => (kf p.1, vf p.2)).any fun p => decide (p.1 = kf k)) = l.any fun p => decide (p.1 = k) := by
    rw [List.any_map]
    congr 1
    funext p
    exact decide_eq_decide.mpr (he _)
  rw [e]
  split
  · rw [List.map_map, List.map_map]
    refine List.map_congr_left fun p _ => ?_
    simp only [Function.comp, he]
    split <;> rfl
  · simp
theorem dropD_enc (inj : ∀ a b, kf a = kf b → a = b) {l : List (κ × β)} {k : κ} : dropD (l.map fun p => (kf p.1, vf p.2)) (kf k) = (delA l k).map fun p => (kf p.1, vf p.2) := by
  have he : ∀ a : κ, kf a = kf k ↔ a = k := fun a => ⟨inj _ _, fun z => by rw [z]⟩
  unfold dropD delA
  rw [List.filter_map]
  congr 1
  refine List.filter_congr fun p _ => ?_
  simp only [Function.comp]
  exact decide_eq_decide.mpr (not_congr (he _))
end
/-! ### what stays -/
def KeepL (F : List Nat) (S S' : Store) : Prop := S.length ≤ S'.length ∧ ∀ j o, S[j]? = some o → j ∉ F → S'[j]? = some o
section
variable {F G : List Nat} {S S1 S2 : Store}
theorem KeepL.refl : KeepL F S S := ⟨Nat.le_refl _, fun _ _ h _ => h⟩
theorem KeepL.ex (a : Ex S S1) : KeepL F S S1 := ⟨a.le, fun _ _ h _ => a.at h⟩
theorem KeepL.trans (a : KeepL F S S1) (b : KeepL F S1 S2) : KeepL F S S2 := ⟨Nat.le_trans a.1 b.1, fun j o h n => b.2 j o (a.2 j o h n) n⟩
theorem KeepL.more (a : KeepL F S S1) (h : ∀ j ∈ F, j ∈ G) : KeepL G S S1 := ⟨a.1, fun j o e n => a.2 j o e fun z => n (h j z)⟩
theorem KeepL.set {i : Nat} {o : Ob} (h : i ∈ F) : KeepL F S (S.set i o) := ⟨by simp, fun j o' e n => by
  rw [List.getElem?_set_ne (fun z : i = j => n (z ▸ h))]; exact e⟩
/-- .. behind what stood, anything may change -/
theorem KeepL.setAt {i : Nat} {o : Ob} (a : KeepL F S S1) (h : i ∈ F ∨ S.length ≤ i) : KeepL F S (S1.set i o) := ⟨by simpa using a.1, fun j o' e n => by
  have : i ≠ j := fun z => by
    subst z
    rcases h with h | h
    · exact n h
    · have := (List.getElem?_eq_some_iff.mp e).1; omega
  rw [List.getElem?_set_ne this]; exact a.2 j o' e n⟩
theorem KeepL.at {j : Nat} {o : Ob} (a : KeepL F S S1) (e : S[j]? = some o) (n : j ∉ F) : S1[j]? = some o := a.2 j o e n
theorem at_set {i : Nat} {o : Ob} (h : i < S.length) : (S.set i o)[i]? = some o := List.getElem?_set_self h
theorem lt_at {i : Nat} {o : Ob} (h : S[i]? = some o) : i < S.length := (List.getElem?_eq_some_iff.mp h).1
end
/-- a comprehension over values as they are, with a test -/
theorem wO_lcTV {ck : Store → Prop} {t : Tgt} {tst : En → Store → Out Bool} {el : En → Store → Out Val} {env : En} {S0 : Store} {P : Val → Store → Prop} {E : XO} {xs : List Val} (p : Val → Bool) (f : Val → Val) (hl : xs.length ≤ LIM) (hc : ∀ S', Ex S0 S' → ck S')
    (h : ∀ x ∈ xs, ∀ S', Ex S0 S' → ∃ e, t x env = some e ∧ Pu (tst e S') S' (p x) ∧ (p x = true → Pu (el e S') S' (f x))) (hP : ∀ S', Ex S0 S' → S'[S0.length]? = some (.lst ((xs.filter p).map f)) → P (.ref S0.length) S') :
    wO (lcX ck t tst el S0.length env xs [] (S0 ++ [.lst []])) P E := by
  have := wO_lcT (ck := ck) (t := t) (tst := tst) (el := el) (env := env) (S0 := S0) (P := P) (E := E) (xs := xs) id p f hl hc h hP
  simpa using this
/-! ### sorted(d) -/
theorem wO_sortedD_pairs {S : Store} {q : Nat} {β : Type} {l : List ((Nat × Nat) × β)} {vf : β → Val} {P : Val → Store → Prop} {E : XO} (h : S[q]? = some (.dt (l.map fun p => ([.inl (p.1.1 : Int), .inl (p.1.2 : Int)], vf p.2)))) (hl : l.length ≤ LIM) :
    wO (fSortedD [.ref q] S) P E = P (.ref S.length) (S ++ [.lst ((((l.map fun p => [(p.1.1 : Int), (p.1.2 : Int)]).mergeSort fun a b => decide (a ≤ b))).map tI)]) := by
  have hk : keyVals S (.ref q) = some ((l.map fun p => [(p.1.1 : Int), (p.1.2 : Int)]).map tI) := by
    simp only [keyVals, h, keysL, List.map_map]
    rfl
  have c : (∃ ds, toDs ((l.map fun p => [(p.1.1 : Int), (p.1.2 : Int)]).map tI) = some ds ∧ PySem.W.AllAlike ds ∧ PySem.W.Sortable ds ∧ ∀ d ∈ ds, d.depth ≤ 64) ∧ ((l.map fun p => [(p.1.1 : Int), (p.1.2 : Int)]).map tI).length ≤ LIM := by
    refine ⟨⟨_, toDs_rows _, fun d hd d' hd' => ?_, .inl fun d hd => ?_, fun d hd => ?_⟩, by simpa using hl⟩
    · obtain ⟨a, _, rfl⟩ := List.mem_map.mp hd
      obtain ⟨b, _, rfl⟩ := List.mem_map.mp hd'
      show PySem.W.alike (.tuple (a.map .int)) (.tuple (b.map .int)) = true
      unfold PySem.W.alike
      exact alikeAll_ints a b
    · obtain ⟨a, ha, rfl⟩ := List.mem_map.mp hd
      obtain ⟨p, _, rfl⟩ := List.mem_map.mp ha
      exact ⟨_, _, rfl⟩
    · obtain ⟨a, _, rfl⟩ := List.mem_map.mp hd
      show (PyData.tuple (a.map .int)).depth ≤ 64
      simp [PyData.depth, depthAll_ints]
  simp only [fSortedD, hk, if_pos c, wO_okE]
  rw [List.map_mergeSort (r := fun a b => decide (a ≤ b)) (s := leV) (f := tI) fun a _ b _ => (leV_tI a b).symm]
end Mp

set_option Elab.async false
set_option linter.all false
set_option maxHeartbeats 1000000
namespace Mp
open PySem PySem.Spec PyProof.Rows L2
/-- a comprehension, by what stands between its turns -/
theorem wO_lcI {ck : Store → Prop} {t : Tgt} {tst : En → Store → Out Bool} {el : En → Store → Out Val} {env : En} {n : Nat} {P : Val → Store → Prop} {E : XO} (xs : List Val) (I : Nat → List Val → Store → Prop) {acc : List Val} {S : Store} (h0 : I 0 acc S)
    (hs : ∀ i x acc S, xs[i]? = some x → I i acc S → ck S ∧ ∃ e, t x env = some e ∧ wO (tst e S) (fun b S1 => if b = true then wO (el e S1) (fun y S2 => S2[n]? = some (.lst acc) ∧ acc.length < LIM ∧ I (i + 1) (acc ++ [y]) (S2.set n (.lst (acc ++ [y])))) noX else I (i + 1) acc S1) noX)
    (hn : ∀ acc S, I xs.length acc S → ck S ∧ P (.ref n) S) : wO (lcX ck t tst el n env xs acc S) P E := by
  induction xs generalizing acc S I with
  | nil =>
    obtain ⟨h1, h2⟩ := hn acc S h0
    simp only [lcX, if_pos h1]
    exact h2
  | cons x r ih =>
    obtain ⟨h1, e, h2, h3⟩ := hs 0 x acc S rfl h0
    have step : ∀ acc S, I 1 acc S → wO (lcX ck t tst el n env r acc S) P E := fun acc S h => ih (fun i => I (i + 1)) h (fun i y acc S hy hI => hs (i + 1) y acc S (by simpa using hy) hI) (fun acc S hI => hn acc S (by simpa using hI))
    simp only [lcX, if_pos h1, h2]
    rw [wO_tie]
    refine (h3.imp fun b S1 hb => ?_)
    cases b with
    | false => simp only [Bool.false_eq_true, if_false] at hb ⊢; exact step _ _ hb
    | true =>
      simp only [if_true] at hb ⊢
      rw [wO_tie]
      refine (hb.imp fun y S2 hy => ?_)
      rw [if_pos ⟨hy.1, hy.2.1⟩]
      exact step _ _ hy.2.2
end Mp

set_option Elab.async false
set_option linter.all false
set_option maxHeartbeats 1000000
namespace Mp
open PySem PySem.Spec PyProof.Rows L2
/-! ### {k: o.f[k] for k in o.f}, keys that are tuples -/
open Classical in
noncomputable def eCpT (cs : List Str) (f : Str) (i j : Nat) : En → Store → Out Val := fun env S => match (match env[i]? with
    | some (some x) => fldOf cs f (insOf S x)
    | _ => none) with
  | some (.ref n) => (match S[n]? with
    | some (.dt kvs) => if (kvs.map (·.1)).Nodup ∧ kvs.length < LIM ∧ j < env.length then .ok (.ref S.length) (S ++ [.dt kvs]) else .bad
    | _ => .bad)
  | _ => .bad
theorem RepK.keys {κ : Type} {K : PySem.W.Frag} {ρ : List Addr} {H : Hp} : ∀ {gs : List (κ × V)} {fs : List (κ × Val)}, RepK K ρ H gs fs → gs.map (·.1) = fs.map (·.1)
  | _, _, .nil => rfl
  | _, _, .cons h r => by rw [List.map_cons, List.map_cons, h.1, RepK.keys r]
theorem valV_at {κ : Type} [DecidableEq κ] : ∀ {ws : List (κ × V)} {t : Nat} {k : κ} {v : V}, (ws.map (·.1)).Nodup → ws[t]? = some (k, v) → valV ws k = some v
  | [], t, k, v, _, h => by cases h
  | (k', v') :: r, t, k, v, nd, h => by
    rw [List.map_cons, List.nodup_cons] at nd
    cases t with
    | zero =>
      cases h
      simp [valV]
    | succ t =>
      have ne : ¬ k' = k := fun z => nd.1 (by
        rw [show (k', v').1 = k from z]
        exact List.mem_map.mpr ⟨(k, v), List.mem_of_getElem? h, rfl⟩)
      have ih := valV_at nd.2 (t := t) (k := k) (v := v) h
      unfold valV at ih ⊢
      rw [List.find?_cons_of_neg (by simpa using ne)]
      exact ih
theorem putK_at {κ : Type} [DecidableEq κ] {ws : List (κ × V)} {t : Nat} {k : κ} {v : V} (nd : (ws.map (·.1)).Nodup) (h : ws[t]? = some (k, v)) : putK (ws.take t) k v = ws.take (t + 1) := by
  have hi := (List.getElem?_eq_some_iff.mp h).1
  have e : ws[t] = (k, v) := (List.getElem?_eq_some_iff.mp h).2
  have no : ¬ (((ws.take t).any fun kv => decide (kv.1 = k)) = true) := by
    rw [List.any_eq_true]
    rintro ⟨p, hp, hk⟩
    obtain ⟨u, hu, ep⟩ := List.mem_take_iff_getElem.mp hp
    have hu' : u < t := by omega
    have hul : u < (ws.map (·.1)).length := by rw [List.length_map]; omega
    have e1 : (ws.map (·.1))[u]? = (ws.map (·.1))[t]? := by
      rw [List.getElem?_map, List.getElem?_map, h, List.getElem?_eq_getElem (by omega : u < ws.length), ep]
      simpa using hk
    have := (List.getElem?_inj hul nd).mp e1
    omega
  unfold putK
  rw [if_neg no, List.take_succ_eq_append_getElem hi, e]
section
variable {X : Cx} {Y : Sy} {W : WX} {k : Nat}
theorem se_cpt {cs : List Str} {f sf x : Str} {i j : Nat} {scope : Scope} {pos q1 q2 p1 p2 p3 p4 pk pt : Pos} (c : Cc X Y W k) (hK : Kls X.K Y) (hn : NoF X.K Y cs f) (ok : BlkOk X.N X.env.scope scope [(x, j)]) (hij : i ≠ j)
    (h1 : PE X (.Name sf q1) (tVar i)) (hb1 : attributeBase (.Name sf q1) f X.env (eval (.Name sf q1) X.env) = eval (.Name sf q1) X.env)
    (h3 : ∀ (s : Shared) (H : Hp) (C : Addr) (cl : List (Str × Addr)) (fp : List Addr), Cc (X.blk s H scope (compEnvC scope cl C X.env) fp) Y W0 k → PG (X.blk s H scope (compEnvC scope cl C X.env) fp) (.Name x pt) (gName j))
    (h4 : ∀ (s : Shared) (H : Hp) (C : Addr) (cl : List (Str × Addr)) (fp : List Addr), Cc (X.blk s H scope (compEnvC scope cl C X.env) fp) Y W0 k → PE (X.blk s H scope (compEnvC scope cl C X.env) fp) (.Name x pk) (tVar j))
    (h2 : ∀ (s : Shared) (H : Hp) (C : Addr) (cl : List (Str × Addr)) (fp : List Addr), Cc (X.blk s H scope (compEnvC scope cl C X.env) fp) Y W0 k → PE (X.blk s H scope (compEnvC scope cl C X.env) fp) (.Subscript (.Attribute (.Name sf p1) f p2) (.Name x p3) p4) (tOp rIxD (tFld X.K (tVar i) f) (tVar j))) :
    SE X Y W (.DictComp (.Name x pk) (.Subscript (.Attribute (.Name sf p1) f p2) (.Name x p3) p4) [⟨.Name x pt, .Attribute (.Name sf q1) f q2, [], 0⟩] scope pos) (eCpT cs f i j) := by
  refine PE.imp (pe_lock (pe_dm (emp := .dT []) .t c.u1 c.calm c.nd (pi_keys (pe_fld h1 hb1)) ok (fun s H C cl fp => h3 s H C cl fp (c.blk ..)) (fun s H C cl fp => pts_nil) (fun s H C cl fp => h4 s H C cl fp (c.blk ..)) (fun s H C cl fp => h2 s H C cl fp (c.blk ..)))) fun σ H Q h => ?_
  obtain ⟨ρ, env, S, he, hs, h⟩ := h
  unfold eCpT at h
  split at h
  · rename_i n e1
    split at h
    · rename_i kvs e2
      split at h
      · rename_i hnd
        obtain ⟨nd, hl, hj⟩ := hnd
        split at e1
        · rename_i xv hxv
          obtain ⟨v0, hv0, r0⟩ := he.at_ i xv hxv
          unfold fldOf at e1
          obtain ⟨⟨c', fs⟩, hins, e3⟩ := Option.bind_eq_some_iff.mp e1
          dsimp only at e3
          split at e3
          · rename_i hcs
            obtain ⟨m, a, C, dx, gs, rfl, e2', rfl, hi', hC, ea, rk⟩ := insOf_rep hs r0 hins
            obtain ⟨u, l, ru⟩ := rk.xlook e3
            cases ru with
            | @ref d _ hd =>
            obtain ⟨ws, ew, rw'⟩ := hs.dt hd e2
            have ek := RepK.keys rw'
            have ndw : (ws.map (·.1)).Nodup := by rw [ek]; exact nd
            have wl : ws.length = kvs.length := rw'.length
            have ad : a ≠ d := by rintro rfl; rw [ea] at ew; cases ew
            refine ⟨d, .dT ws, ew, trivial, fun od => ?_⟩
            have h1d : upd H d (.frz od (.dT ws)) d = some (.frz od (.dT ws)) := upd_same
            have h1a : upd H d (.frz od (.dT ws)) a = some (.ins C dx gs) := (upd_ne ad).trans ea
            refine ⟨.ref a, hv0, a, C, dx, gs, .ref d, rfl, h1a, (hK _ C hC).cls, hn _ C hcs hC, l, d, od, rfl, .inr ⟨ws, h1d, fun D hD => ?_⟩⟩
            have Dd : D ≠ d := by rintro rfl; rw [h1d] at hD; cases hD
            have Da : D ≠ a := by rintro rfl; rw [h1a] at hD; cases hD
            have HD : H D = none := (upd_ne Dd).symm.trans hD
            refine ⟨fun i m H' => m = ws.length - i ∧ i ≤ ws.length ∧ H' = upd (upd H d (.frz od (.dT ws))) D (.dT (ws.take i)), ⟨ws.length, by omega, by omega, by simp⟩, fun t m H' hw => ?_⟩
            obtain ⟨rfl, ht, rfl⟩ := hw
            have hd' : upd (upd H d (.frz od (.dT ws))) D (.dT (ws.take t)) d = some (.frz od (.dT ws)) := (upd_ne Dd.symm).trans h1d
            have ha' : upd (upd H d (.frz od (.dT ws))) D (.dT (ws.take t)) a = some (.ins C dx gs) := (upd_ne Da.symm).trans h1a
            have hD' : upd (upd H d (.frz od (.dT ws))) D (.dT (ws.take t)) D = some (.dT (ws.take t)) := upd_same
            by_cases hlt : t < ws.length
            · refine .inr ⟨⟨hd', hlt⟩, fun H' => H' = upd (upd H d (.frz od (.dT ws))) D (.dT (ws.take (t + 1))), fun H' e => ⟨ws.length - (t + 1), by omega, rfl, by omega, e⟩, fun y H' hy => ?_⟩
              obtain ⟨rfl, kk, v, q, hk, rfl, hq⟩ := hy
              have jl : j < (L2.wipe σ [j]).length := by rw [L2.wipe_length, he.len]; exact hj
              have sj : ((L2.wipe σ [j]).set j (some (.ref q)))[j]? = some (some (.ref q)) := List.getElem?_set_self jl
              have si : ((L2.wipe σ [j]).set j (some (.ref q)))[i]? = some (some (.ref a)) := by
                rw [List.getElem?_set_ne (Ne.symm hij), L2.wipe_out (by simpa using hij)]; exact hv0
              refine ⟨wipe_same (L := [j]) ⟨by simp, fun z hz => ?_⟩ (by simp), ?_⟩
              · exact List.getElem?_set_ne (fun w => hz (by simp [w]))
              · unfold tYes
                dsimp only
                rw [if_pos rfl]
                refine ⟨.ref q, sj, .ref a, si, a, C, dx, gs, .ref d, rfl, ha', (hK _ C hC).cls, hn _ C hcs hC, l, .ref q, sj, d, v, rfl, ?_, _, DPut.t hD' hq (by rw [List.length_take]; have := lim_lt hl; omega), ?_⟩
                · exact .inr ⟨ws, kk, q, .inr ⟨od, hd'⟩, rfl, hq, (valV_at ndw hk).symm⟩
                · rw [putK_at ndw hk]
                  exact upd_upd
            · have et : t = ws.length := by omega
              subst et
              refine .inl ⟨⟨hd', Nat.le_refl _⟩, hd', ?_⟩
              have eH : upd (upd (upd H d (.frz od (.dT ws))) D (.dT (ws.take ws.length))) d (.dT ws) = upd H D (.dT ws) := by
                funext b
                by_cases b1 : b = d
                · subst b1
                  rw [upd_same, upd_ne Dd.symm, ew]
                · rw [upd_ne b1]
                  by_cases b2 : b = D
                  · subst b2
                    rw [upd_same, upd_same, List.take_length]
                  · rw [upd_ne b2, upd_ne b1, upd_ne b2]
              rw [eH]
              have ex : Ext H (upd H D (.dT ws)) := Ext.new HD
              refine h (.ref D) (ρ ++ [D]) _ (Pre.snoc _ _) ex (hs.new HD ⟨ws, upd_same, rw'.up (Pre.snoc _ _) ex⟩) (.ref ?_)
              rw [← hs.len]; simp
          · cases e3
        · cases e1
      · exact h.elim
    · exact h.elim
  · exact h.elim
/-- dict(d), keys ints and texts -/
def fDictC : Fn := fun vs S => match vs with
  | [.ref n] => match S[n]? with
    | some (.dk kvs) => .ok (.ref S.length) (S ++ [.dk kvs])
    | _ => .bad
  | _ => .bad
theorem se_dictC {e : Expr} {ga : En → Store → Out (List Val)} {p pos : Pos} (hc : X.calm = true) (hg : Gl X "dict") (hm : X.mg "dict" = none) (ha : SA X Y W [e] ga) (he : starEach [e] X.env = [(false, eval e X.env)] := by rfl) : SE X Y W (.Call (.Name "dict" p) [e] [] pos) (eCall fDictC ga) := by
  refine se_ty (call_dictD) (fun W' ρ H S vs xs Q hs rx h => ?_) hg hm (by decide +kernel) ha (he := he)
  unfold fDictC at h
  split at h
  · rename_i n
    split at h
    · rename_i kvs e
      obtain ⟨v, rfl, r⟩ := reps1 rx
      cases r with
      | @ref d _ hd =>
      obtain ⟨ws, ew, rw'⟩ := hs.dk hd e
      exact ⟨d, ws, rfl, .inl ew, fun q hq => h _ (ρ ++ [q]) _ (Pre.snoc _ _) (Ext.new hq) (hs.new hq ⟨ws, upd_same, rw'.up (Pre.snoc _ _) (Ext.new hq)⟩) (rep_new hs.len.symm)⟩
    · exact h.elim
  · exact h.elim
end
section
variable {S : Store} {P : Val → Store → Prop} {E : XO}
theorem wO_dictC {n : Nat} {kvs : List (Key × Val)} (h : S[n]? = some (.dk kvs)) : wO (fDictC [.ref n] S) P E = P (.ref S.length) (S ++ [.dk kvs]) := by
  simp only [fDictC, h]
  rfl
theorem wO_cpt {cs : List Str} {f : Str} {i j n : Nat} {env : En} {x : Val} {kvs : List (List Key × Val)} (h1 : env[i]? = some (some x)) (h2 : fldOf cs f (insOf S x) = some (.ref n)) (h3 : S[n]? = some (.dt kvs)) (nd : (kvs.map (·.1)).Nodup) (hl : kvs.length < LIM) (hj : j < env.length) :
    wO (eCpT cs f i j env S) P E = P (.ref S.length) (S ++ [.dt kvs]) := by
  unfold eCpT
  simp only [h1, h2, h3]
  rw [if_pos ⟨nd, hl, hj⟩]
  rfl
end
end Mp

set_option Elab.async false
set_option linter.all false
set_option maxHeartbeats 1000000
namespace Mp
open PySem PySem.Spec PyProof.Rows L2
/-- a comprehension of a dict, by what stands between its turns -/
theorem wO_dcI {ck : Store → Prop} {t : Tgt} {tst : En → Store → Out Bool} {ek ev : En → Store → Out Val} {env : En} {n : Nat} {P : Val → Store → Prop} {E : XO} (xs : List Val) (I : Nat → Store → Prop) {S : Store} (h0 : I 0 S)
    (hs : ∀ i x S, xs[i]? = some x → I i S → ck S ∧ ∃ e, t x env = some e ∧ wO (tst e S) (fun b S1 => if b = true then wO (ek e S1) (fun k S2 => wO (ev e S2) (fun y S3 => isD S3 n = true ∧ ∃ S4, putIx (.ref n) k y S3 = some S4 ∧ I (i + 1) S4) noX) noX else I (i + 1) S1) noX)
    (hn : ∀ S, I xs.length S → ck S ∧ P (.ref n) S) : wO (dcX ck t tst ek ev n env xs S) P E := by
  induction xs generalizing S I with
  | nil =>
    obtain ⟨h1, h2⟩ := hn S h0
    simp only [dcX, if_pos h1]
    exact h2
  | cons x r ih =>
    obtain ⟨h1, e, h2, h3⟩ := hs 0 x S rfl h0
    have step : ∀ S, I 1 S → wO (dcX ck t tst ek ev n env r S) P E := fun S h => ih (fun i => I (i + 1)) h (fun i y S hy hI => hs (i + 1) y S (by simpa using hy) hI) (fun S hI => hn S (by simpa using hI))
    simp only [dcX, if_pos h1, h2]
    rw [wO_tie]
    refine (h3.imp fun b S1 hb => ?_)
    cases b with
    | false => simp only [Bool.false_eq_true, if_false] at hb ⊢; exact step _ hb
    | true =>
      simp only [if_true] at hb ⊢
      rw [wO_tie]
      refine (hb.imp fun k S2 hk => ?_)
      rw [wO_tie]
      refine (hk.imp fun y S3 hy => ?_)
      obtain ⟨a1, S4, a2, a3⟩ := hy
      rw [if_pos a1, a2]
      exact step _ a3
end Mp

set_option Elab.async false
set_option linter.all false
set_option maxRecDepth 100000
set_option maxHeartbeats 1000000
/-! xs.pop(), xs.extend(ys), d.pop(k), isinstance(x, (T1, T2)). -/
namespace Mp
open PySem PySem.Spec PyProof.Rows L2
section
variable {X : Cx} {Y : Sy} {W : WX} {k : Nat} {o e a b : Expr} {es : List Expr} {f fa fb fo fk : En → Store → Out Val} {ga : En → Store → Out (List Val)} {p pos cpos apos : Pos} {x : Str}
/-! ### lists -/
def lPop : Lm := fun i xs ys S => match ys with
  | [] => (match xs.getLast? with
    | some y => .ok y (S.set i (.lst xs.dropLast))
    | none => .bad)
  | _ => .bad
theorem lPop_ok : LmS X Y rPop lPop := by
  intro W' ρ H S a i ws vs xs ys Q hs hi ex ew rw' ry hp
  unfold lPop at hp
  split at hp
  · split at hp
    · rename_i y ey
      cases ry
      have ey2 : xs[xs.length - 1]? = some y := by rw [← List.getLast?_eq_getElem?]; exact ey
      obtain ⟨u, eu, ru⟩ := rw'.get ey2
      obtain ⟨q1, q2⟩ := put_lst hs hi ew rw'.dropLast
      refine ⟨a, ws, u, rfl, rfl, ew, by rw [rw'.length]; exact eu, ?_⟩
      exact hp _ ρ _ (Pre.refl _) q1 q2 (ru.up (Pre.refl _) q1)
    · exact hp.elim
  · exact hp.elim
def aNil0 : En → Store → Out (List Val) := fun _ S => .ok [] S
theorem tBM0_of {r : V → List V → Hp → VK → Prop} {g : Lm} (ok : LmS X Y r g) {σ : L2.St} {H : Hp} {Q : VK} (h : tG X.K Y W (RV X.K) (eLm g fo aNil0) σ H Q) : tBM0 X.K "list" r (tG X.K Y W (RV X.K) fo) σ H Q := by
  refine tG.bind (k := lmA g aNil0) h fun ρ env v x H1 S1 he hs rx hp => ?_
  unfold lmA at hp
  split at hp
  · rename_i i
    cases rx with
    | @ref a _ hi =>
    split at hp
    · rename_i zs ez
      obtain ⟨us, eu, ru⟩ := hs.lst hi ez
      refine ⟨.inl ⟨rfl, us, SqL.of eu⟩, ?_⟩
      have hp2 : Post X.K Y (fun cls d H' => W cls d σ H') ρ H1 (RV X.K) Q (lmK g i [] S1) := hp
      unfold lmK at hp2
      rw [ez] at hp2
      exact ok _ ρ H1 S1 a i us [] zs [] Q hs hi ez eu ru .nil hp2
    · exact hp.elim
  · exact hp.elim
theorem se_pop0 (ho : SE X Y W o fo) (hbase : attributeBase o "pop" X.env (eval o X.env) = eval o X.env := by rfl) (hline : (apos.endLine == cpos.line) = true := by rfl) : SE X Y W (.Call (.Attribute o "pop" apos) [] [] cpos) (eLm lPop fo aNil0) :=
  PE.imp (pe_bm0 PySem.F.plainAttrs_list PySem.F.slot_list_pop PySem.F.type_list_pop mt_pop ho hbase hline) fun _ _ _ h => tBM0_of lPop_ok h
def lExtend : Lm := fun i xs ys S => match ys with
  | [.ref j] => (match S[j]? with
    | some (.lst zs) => if xs.length + zs.length ≤ LIM then .ok .non (S.set i (.lst (xs ++ zs))) else .bad
    | _ => .bad)
  | _ => .bad
theorem lExtend_ok : LmS X Y rExtend lExtend := by
  intro W' ρ H S a i ws vs xs ys Q hs hi ex ew rw' ry hp
  unfold lExtend at hp
  split at hp
  · rename_i j
    split at hp
    · rename_i zs ez
      split at hp
      · rename_i hl
        obtain ⟨v, rfl, rv⟩ := reps1 ry
        cases rv with
        | @ref b _ hj =>
        obtain ⟨us, eu, ru⟩ := hs.lst hj ez
        refine ⟨a, b, ws, us, rfl, rfl, ew, eu, by rw [rw'.length, ru.length]; exact lim_le hl, ?_⟩
        obtain ⟨q1, q2⟩ := put_lst hs hi ew (rw'.append ru)
        exact hp _ ρ _ (Pre.refl _) q1 q2 .non
      · exact hp.elim
    · exact hp.elim
  · exact hp.elim
theorem se_extend (ho : SE X Y W o fo) (ha : SA X Y W [e] ga) (hbase : attributeBase o "extend" X.env (eval o X.env) = eval o X.env := by rfl)
    (hfew : ((backTo cpos (starEach [e] X.env)).all (fun x => !x.1) && (backToKw cpos (keywordEach [] X.env)).all (fun x => x.1.isSome)
      && decide ([e].length + ([] : List Keyword).length + (if ([] : List Keyword).isEmpty then 0 else 1) < 30)) = true := by rfl)
    (hline : (apos.endLine == cpos.line) = true := by rfl) (hs : starEach [e] X.env = (false, eval e X.env) :: starEach [] X.env := by rfl) : SE X Y W (.Call (.Attribute o "extend" apos) [e] [] cpos) (eLm lExtend fo ga) :=
  PE.imp (pe_bm PySem.F.plainAttrs_list PySem.F.slot_list_extend PySem.F.type_list_extend mt_extend ho ha hbase hfew hline hs) fun _ _ _ h => tBM_of lExtend_ok h

/-! ### d.pop(k) -/
def dPop (d k : Val) (S : Store) : Option (Val × Store) := match d with
  | .ref n => match S[n]? with
    | some (.dk kvs) => (keyOf k).bind fun k => (lookK kvs k).map fun v => (v, S.set n (.dk (dropD kvs k)))
    | _ => none
  | _ => none
def kDPop (d k : Val) (S : Store) : Out Val := match dPop d k S with
  | some p => .ok p.1 p.2
  | none => .bad
def eDPop (fo fk : En → Store → Out Val) : En → Store → Out Val := fun env S => (fo env S).bind fun x S1 => if isDct S1 x = true then (fk env S1).bind fun y S2 => kDPop x y S2 else .bad
theorem se_dpop (ho : SE X Y W o fo) (he : SE X Y W e fk) (m : M1 X o "pop" apos e cpos) : SE X Y W (.Call (.Attribute o "pop" apos) [e] [] cpos) (eDPop fo fk) := by
  refine PE.imp (pe_dpop1 ho he m) fun σ H Q h => ?_
  refine tG.bind (k := fun env x S1 => if isDct S1 x = true then (fk env S1).bind fun y S2 => kDPop x y S2 else .bad) h fun ρ env v x H1 S1 he1 hs1 rx hp => ?_
  split at hp
  · rename_i hd
    obtain ⟨a, rfl, id⟩ := isDct_rep hs1 rx hd
    refine ⟨a, rfl, id, ?_⟩
    refine tG.go he1 hs1 hp fun ρ2 w y H2 S2 p2 e2 he2 hs2 ry hp2 => ?_
    unfold kDPop at hp2
    split at hp2
    · rename_i q eq
      unfold dPop at eq
      split at eq
      · rename_i n
        cases rx with
        | @ref _ _ hn =>
        have hn2 := p2 _ _ hn
        split at eq
        · rename_i kvs ex
          obtain ⟨k, ek, eq⟩ := Option.bind_eq_some_iff.mp eq
          obtain ⟨z, ez, eq⟩ := Option.map_eq_some_iff.mp eq
          subst eq
          obtain ⟨ws, ew, r⟩ := hs2.dk hn2 ex
          have e3 := keyOf_rep ry ek
          subst e3
          have e1 : Ext H2 (upd H2 a (.dK (dropK ws k))) := Ext.mut ew (fun z => z)
          obtain ⟨q1, q2⟩ := hs2.put (u := .dK (dropK ws k)) (o := .dk (dropD kvs k)) hn2 ⟨_, upd_same, (r.drop k).up (Pre.refl _) e1⟩
          rcases r.look k with ⟨h1, h2⟩ | ⟨v, x, h1, h2, h3⟩
          · rw [ez] at h1; cases h1
          · rw [ez] at h1; cases h1
            exact ⟨ws, k, v, ew, rfl, h2, hp2 v ρ2 _ (Pre.refl _) q1 q2 (h3.up (Pre.refl _) q1)⟩
        · cases eq
      · cases eq
    · exact hp2.elim
  · exact hp.elim

/-! ### isinstance(x, (T1, T2)) -/
def eIsT2 (T U : String) (f : En → Store → Out Val) : En → Store → Out Val := fun env S => (f env S).bind fun x S1 => match tyOf S1 x with
  | some t => if t ∈ tyNames then .ok (.bl (subTy t T || subTy t U)) S1 else .bad
  | none => .bad
theorem tyX_up {K : PySem.W.Frag} {H : Hp} {v : V} {t : Value} {p : Addr} {o : HO} (hn : H p = none) (h : TyX K H v t) : TyX K (upd H p o) v t := by
  have ne : ∀ {a : Addr} {u : HO}, H a = some u → upd H p o a = some u := fun {a u} q => by rw [upd_ne (ne_of_none q hn)]; exact q
  cases h with
  | base b =>
    refine .base ?_
    cases b with
    | non => exact .non
    | bl b => exact .bl b
    | int i => exact .int i
    | str i => exact .str i
    | flt i => exact .flt i
    | lst e => exact .lst (ne e)
    | frz e => exact .frz (ne e)
    | tup e => exact .tup (ne e)
    | dK e => exact .dK (ne e)
    | dT e => exact .dT (ne e)
    | ins e cl ha hn htk hm => exact .ins (ne e) cl ha hn htk hm
  | byt b => exact .byt b
  | set e => exact .set (ne e)
  | kList e c => exact .kList e c
  | kTuple e c => exact .kTuple e c
  | kDict e c => exact .kDict e c
  | fTuple e => exact .fTuple (ne e)
  | fDict e => exact .fDict (ne e)
theorem se_isT2 {T U : String} {tn un : Str} {p2 p3 p4 : Pos} {x1} (hT : ∀ t ∈ tyNames, kitB t T = some (subTy t T)) (hU : ∀ t ∈ tyNames, kitB t U = some (subTy t U)) (hg : Gl X "isinstance") (hm : X.mg "isinstance" = none) (hg2 : Gl X tn) (hm2 : X.mg tn = none) (hv : bootBuiltins tn = some (.type T))
    (hg3 : Gl X un) (hm3 : X.mg un = none) (hv3 : bootBuiltins un = some (.type U)) (ha : SE X Y W e f)
    (hn : tn ≠ "__name__" := by decide) (hdb : (tn == ("__debug__" : Str)) = false := by decide) (hn3 : un ≠ "__name__" := by decide) (hdb3 : (un == ("__debug__" : Str)) = false := by decide)
    (he : starEach [e, .Tuple [.Name tn p2, .Name un p3] x1 p4] X.env = (false, eval e X.env) :: starEach [.Tuple [.Name tn p2, .Name un p3] x1 p4] X.env := by rfl) (hpl : (backTo pos (starEach [.Tuple [.Name tn p2, .Name un p3] x1 p4] X.env)).any (·.1) = false := by rfl)
    (h2 : starEach [.Tuple [.Name tn p2, .Name un p3] x1 p4] X.env = (false, eval (.Tuple [.Name tn p2, .Name un p3] x1 p4) X.env) :: starEach [] X.env := by rfl)
    (h3 : starEach [.Name tn p2, .Name un p3] X.env = (false, eval (.Name tn p2) X.env) :: starEach [.Name un p3] X.env := by rfl) (h4 : starEach [.Name un p3] X.env = (false, eval (.Name un p3) X.env) :: starEach [] X.env := by rfl) :
    SE X Y W (.Call (.Name "isinstance" p) [e, .Tuple [.Name tn p2, .Name un p3] x1 p4] [] pos) (eIsT2 T U f) := by
  refine PE.imp (pe_callB (call_isiT (X := X)) hg hm (by decide +kernel) (pa_cons ha (pa_cons (pe_tup (pa_cons (pe_bltn (v := .ty T) hg2 hm2 hv rfl hn hdb) (pa_cons (pe_bltn (v := .ty U) hg3 hm3 hv3 rfl hn3 hdb3) pa_nil h4) h3)) pa_nil h2) he) (he := he) (hpl := hpl)) fun σ H Q h => ?_
  refine tG.bind (k := fun _ x S1 => match tyOf S1 x with | some t => if t ∈ tyNames then Out.ok (Val.bl (subTy t T || subTy t U)) S1 else Out.bad | none => Out.bad) h fun ρ env v x H1 S1 he hs rx hp => ?_
  split at hp
  · rename_i t et
    split at hp
    · rename_i ht
      refine ⟨by show 2 ≤ sizeLine; decide, fun t2 hn2 => ?_⟩
      refine ⟨v, t2, [.ty T, .ty U], .type t, [.type T, .type U], (subTy t T || subTy t U), rfl, upd_same, .cons (.ty T) (.cons (.ty U) .nil), tyX_up hn2 (tyOf_rep hs rx et), ?_, hp _ ρ (upd H1 t2 (.tup [.ty T, .ty U])) (Pre.refl _) (Ext.new hn2) (hs.other hn2) (.bl _)⟩
      refine kitAny_cons (kit_ty (hT t ht)) (fun hf => kitAny_cons (kit_ty (hU t ht)) (fun hf2 => ?_) fun ht2 => ?_) fun ht2 => by rw [ht2]; rfl
      · rw [hf, hf2]; exact kitAny_nil
      · rw [ht2, Bool.or_true]
    · exact hp.elim
  · exact hp.elim
end
/-! ### words -/
section
variable {env : En} {S : Store} {P : Val → Store → Prop} {E : XO} {n : Nat} {xs : List Val}
@[simp] theorem wO_lPop : wO (lPop n xs [] S) P E = wP xs.getLast? fun y => P y (S.set n (.lst xs.dropLast)) := by
  simp only [lPop]; cases xs.getLast? <;> rfl
@[simp] theorem wO_aNil0 {P : List Val → Store → Prop} : wO (aNil0 env S) P E = P [] S := rfl
@[simp] theorem wO_lExtend {j : Nat} {zs : List Val} (h : S[j]? = some (.lst zs)) : wO (lExtend n xs [.ref j] S) P E = (xs.length + zs.length ≤ LIM ∧ P .non (S.set n (.lst (xs ++ zs)))) := by
  simp only [lExtend, h]; by_cases h : xs.length + zs.length ≤ LIM <;> simp [h]
@[simp] theorem wO_eDPop {fo fk : En → Store → Out Val} : wO (eDPop fo fk env S) P E = wO (fo env S) (fun x S1 => isDct S1 x = true ∧ wO (fk env S1) (fun y S2 => wP (dPop x y S2) fun q => P q.1 q.2) E) E := by
  refine wO_bind.trans (wO_ext fun x S1 => ?_)
  by_cases h : isDct S1 x = true
  · simp only [h, if_true, true_and]
    refine wO_bind.trans (wO_ext fun y S2 => ?_)
    unfold kDPop
    cases dPop x y S2 <;> rfl
  · have h' : isDct S1 x = false := by simpa using h
    simp only [h', Bool.false_eq_true, if_false, false_and]
    rfl
@[simp] theorem wO_eIsT2 {T U : String} {f : En → Store → Out Val} : wO (eIsT2 T U f env S) P E = wO (f env S) (fun x S1 => wP (tyOf S1 x) fun t => t ∈ tyNames ∧ P (.bl (subTy t T || subTy t U)) S1) E := by
  refine wO_bind.trans (wO_ext fun x S1 => ?_)
  cases h : tyOf S1 x with
  | none => rfl
  | some t => by_cases q : t ∈ tyNames <;> simp [q]
end
end Mp

namespace Mp
open PySem PySem.Spec PyProof.Rows L2
/-! ### list(d.keys()), the keys ints and texts -/
def tLKeysK (td : TE) : TE := fun σ H Q => td σ H fun x H1 => ∃ d kvs, x = V.ref d ∧ H1 d = some (.dK kvs) ∧ ∀ p, H1 p = none → Q (.ref p) (upd H1 p (.lst (kvs.map fun kv => kV kv.1)))
theorem pe_lkeysK {X : Cx} {e : Expr} {te : TE} {p apos cpos pos : Pos} (hc : X.calm = true) (hg : Gl X "list") (hm : X.mg "list" = none) (he : PE X e te) (hbase : attributeBase e "keys" X.env (eval e X.env) = eval e X.env := by rfl) (hline : (apos.endLine == cpos.line) = true := by rfl)
    (na : starEach [.Call (.Attribute e "keys" apos) [] [] cpos] X.env = (false, eval (.Call (.Attribute e "keys" apos) [] [] cpos) X.env) :: starEach [] X.env := by rfl) :
    PE X (.Call (.Name "list" p) [.Call (.Attribute e "keys" apos) [] [] cpos] [] pos) (tLKeysK te) := by
  refine ⟨fun pins s σ H Q I h => ?_⟩
  refine Call_ (ld_blt I hg hm boot_list (PyProof.Rows.callWith_type1 (args_cons ?_ na) na rfl))
  refine wpAny_Call_method (T := "dict") (id := "dict.keys") hbase rfl hline F.plainAttrs_dict F.slot_dict_keys F.type_dict_keys (thn (he.run pins s σ H _ I h) fun u s1 ⟨x, H1, I1, rx, d, kvs, ex, hd, q⟩ => ?_)
  subst ex
  obtain rfl : u = Value.ref d := rx
  obtain ⟨t1, t2, lo⟩ := isD_at I1 (.inl ⟨kvs, .inl hd⟩)
  obtain ⟨z, _, ks, rel, dd⟩ := dk_of I1.hok hd
  obtain ⟨ep, hat⟩ := dd.dictAt
  refine ⟨t1, t2, ?_⟩
  have I2 : Inv X pins σ H1 { s1 with heap := s1.heap.push { cls := .type "dict_keys", data := .fields #[.ref d] } } := I1.kept (t' := s1.toks) fun b ob q => Heap.get?_push_of_some _ q
  have hat2 := (PySem.W.kdl_dict (knd := mixKind X.prog X.w) (kvs := ks) (ep := ep) lo).keep _ (s1.heap.push { cls := .type "dict_keys", data := .fields #[.ref d] }) hat (fun a _ o q => Heap.get?_push_of_some _ q)
  show wpAny _ _ (callWith cpos (.builtin "dict.keys") [.ref d] [] []) _ X.xe s1
  refine method_meetsIn F.slot_dict_keys F.entry_dict_keys rfl (PySem.evalArgs_none ⟨rfl, t1, F.args_dict_keys_1 _, _, keysCall lo, t1, ?_⟩)
  refine args_nil ?_
  refine PySem.W.kdl_call (PySem.W.kdl_keys (knd := mixKind X.prog X.w) (kvs := ks) (ep := ep)) (I2.ok.hd hc) ⟨⟨_, Heap.get?_push_size _ rfl, rfl, rfl⟩, hat2⟩ (by rw [← rel.length]; exact z) fun h' tk acc c' kp e2 hacc => ?_
  have ek : (kvs.map fun kv => kV kv.1) = ks.map fun p => kV p.1 := by
    have e := congrArg (List.map kV) rel.keys
    rw [List.map_map, List.map_map] at e
    exact e
  have rv : Vals (kvs.map fun kv => kV kv.1) acc.toList := by
    rw [ek]
    exact keys_at (by rw [Array.length_toList]; exact hacc.1) fun j v e => hacc.2 j v (by rw [← Array.getElem?_toList]; exact e)
  exact ⟨.ref _, _, I2.laid (t' := tk) (o := .lst (kvs.map fun kv => kV kv.1)) kp (Nat.le_refl _) ⟨by rw [List.length_map]; exact z, acc.toList, c', rv, by rw [Array.toArray_toList]; exact e2⟩, rfl, q _ (I2.hok.fresh (Nat.le_refl _))⟩
def eLKeysK (f : En → Store → Out Val) : En → Store → Out Val := fun env S => (f env S).bind fun x S1 => match x with
  | .ref n => (match S1[n]? with
    | some (.dk kvs) => .ok (.ref S1.length) (S1 ++ [.lst (kvs.map fun kv => kVal kv.1)])
    | _ => .bad)
  | _ => .bad
theorem se_lkeysK {X : Cx} {Y : Sy} {W : WX} {k : Nat} {e : Expr} {f : En → Store → Out Val} {p apos cpos pos : Pos} (c : Cc X Y W k) (hg : Gl X "list") (hm : X.mg "list" = none) (he : SE X Y W e f) (hbase : attributeBase e "keys" X.env (eval e X.env) = eval e X.env := by rfl) (hline : (apos.endLine == cpos.line) = true := by rfl)
    (na : starEach [.Call (.Attribute e "keys" apos) [] [] cpos] X.env = (false, eval (.Call (.Attribute e "keys" apos) [] [] cpos) X.env) :: starEach [] X.env := by rfl) :
    SE X Y W (.Call (.Name "list" p) [.Call (.Attribute e "keys" apos) [] [] cpos] [] pos) (eLKeysK f) := by
  refine PE.imp (pe_lkeysK c.calm hg hm he hbase hline na) fun σ H Q h => ?_
  refine tG.bind (k := fun _ x S1 => match x with | .ref n => (match S1[n]? with | some (.dk kvs) => Out.ok (Val.ref S1.length) (S1 ++ [.lst (kvs.map fun kv => kVal kv.1)]) | _ => Out.bad) | _ => Out.bad) h fun ρ env v x H1 S1 he hs rx hp => ?_
  cases rx <;> try (exact hp.elim)
  rename_i a n hn
  dsimp only at hp
  split at hp
  · rename_i kvs ek
    obtain ⟨ws, e2, r2⟩ := hs.dk hn ek
    refine ⟨a, ws, rfl, e2, fun q hq => ?_⟩
    have en := Ext.new (o := .lst (ws.map fun kv => kV kv.1)) hq
    exact hp _ (ρ ++ [q]) _ (Pre.snoc _ _) en (hs.new hq ⟨_, upd_same, (reps_keysK r2).up (Pre.snoc _ _) en⟩) (rep_new hs.len.symm)
  · exact hp.elim
theorem wO_lkeysK {f : En → Store → Out Val} {env : En} {S : Store} {P : Val → Store → Prop} {E : XO} : wO (eLKeysK f env S) P E = wO (f env S) (fun x S1 => wP (match x with | .ref n => (match S1[n]? with | some (.dk kvs) => some kvs | _ => none) | _ => none) fun kvs => P (.ref S1.length) (S1 ++ [.lst (kvs.map fun kv => kVal kv.1)])) E := by
  refine wO_bind.trans (wO_ext fun x S1 => ?_)
  cases x with
  | ref n =>
    dsimp only
    cases h : S1[n]? with
    | none => rfl
    | some b => cases b <;> rfl
  | _ => rfl
end Mp

namespace Mp
open PySem PySem.Spec PyProof.Rows L2
/-! ### a value of any kind as a test -/
def truV (S : Store) : Val → Option Bool
  | .non => some false
  | .bl b => some b
  | .int i => some (i != 0)
  | .str y => if y.length ≤ LIM then some ((y.length : Int) != 0) else none
  | .tup xs => some (!xs.isEmpty)
  | .frz xs => some (!xs.isEmpty)
  | .ref n => match S[n]? with
    | some (.lst xs) => some (!xs.isEmpty)
    | some (.dk xs) => some (!xs.isEmpty)
    | _ => none
theorem empty_len {α β : Type} {xs : List α} {ys : List β} (h : xs.length = ys.length) : (!xs.isEmpty) = !ys.isEmpty := by
  cases xs <;> cases ys <;> simp_all
theorem truV_rep {K : PySem.W.Frag} {Y : Sy} {ρ : List Addr} {H : Hp} {S : Store} {v : V} {x : Val} {k : Bool} (hs : Sim K Y ρ H S) (r : Rep K ρ H v x) (h : truV S x = some k) : TruV K v H k := by
  cases r with
  | non => simp only [truV, Option.some.injEq] at h; exact h.symm
  | bl b => simp only [truV, Option.some.injEq] at h; exact h.symm
  | int i => simp only [truV, Option.some.injEq] at h; exact h.symm
  | str y =>
    simp only [truV] at h
    split at h
    · rename_i hl
      simp only [Option.some.injEq] at h
      exact ⟨lim_le hl, h.symm⟩
    · cases h
  | tup e r => simp only [truV, Option.some.injEq] at h; exact .inr (.inl ⟨_, .inl (.inl e), by rw [← h]; exact (empty_len r.length).symm⟩)
  | frz e r => simp only [truV, Option.some.injEq] at h; exact .inl ⟨_, e.sq, by rw [← h]; exact (empty_len r.length).symm⟩
  | @ref a i hi =>
    simp only [truV] at h
    split at h
    · rename_i xs e
      simp only [Option.some.injEq] at h
      obtain ⟨vs, e2, r⟩ := hs.lst hi e
      exact .inl ⟨vs, SqL.of e2, by rw [← h]; exact (empty_len r.length).symm⟩
    · rename_i xs e
      simp only [Option.some.injEq] at h
      obtain ⟨vs, e2, r⟩ := hs.dk hi e
      exact .inr (.inr ⟨vs, e2, by rw [← h]; exact (empty_len r.length).symm⟩)
    · cases h
def kTr (x : Val) (S : Store) : Out Bool := match truV S x with
  | some k => .ok k S
  | none => .bad
def bTr (f : En → Store → Out Val) : En → Store → Out Bool := fun env S => (f env S).bind kTr
theorem st_truth {X : Cx} {Y : Sy} {W : WX} {e : Expr} {f : En → Store → Out Val} (h : SE X Y W e f) (he : ∀ whole, isTrue e X.env whole = (do let v ← whole; standAt e.pos; holding [v] (truthy v)) := by intro _; rfl) : ST X Y W e (bTr f) := by
  refine PT.imp (pt_truth h he) fun σ H Q hh => ?_
  refine tG.bind (k := fun _ => kTr) hh fun ρ env v x H1 S1 he hs rx hp => ?_
  unfold kTr at hp
  split at hp
  · rename_i k ek
    exact ⟨k, truV_rep hs rx ek, hp k ρ H1 (Pre.refl _) (Ext.refl _) hs rfl⟩
  · exact hp.elim
@[simp] theorem wO_bTr {f : En → Store → Out Val} {env : En} {S : Store} {P : Bool → Store → Prop} {E : XO} : wO (bTr f env S) P E = wO (f env S) (fun x S1 => wP (truV S1 x) fun k => P k S1) E := by
  refine wO_bind.trans (wO_ext fun x S1 => ?_)
  unfold kTr
  cases truV S1 x <;> rfl
end Mp

namespace Mp
open PySem PySem.Spec PyProof.Rows L2
/-! ### great constants, closed to the kernel (it would count them down) -/
theorem bigI_ex (n : Int) : ∃ x : Int, x = n := ⟨n, rfl⟩
noncomputable def bigI (n : Int) : Int := Classical.choose (bigI_ex n)
theorem bigI_eq (n : Int) : bigI n = n := Classical.choose_spec (bigI_ex n)
theorem sx_conB {X : Cx} {Y : Sy} {W : WX} {x : Str} {pos : Pos} {i : Int} (hg : Gl X x) (hm : ∃ t, X.mg x = some (.int i t)) (hd : (x == ("__debug__" : Str)) = false := by decide) : SE X Y W (.Name x pos) (eC (.int (bigI i))) := by
  rw [bigI_eq]; exact sx_con hg hm hd
end Mp

set_option Elab.async false
set_option linter.all false
set_option maxRecDepth 100000
set_option maxHeartbeats 1000000
/-! Clean data with truth values among it: equal to itself. -/
namespace Mp
open PySem PySem.Spec PyProof.Rows L2
mutual
def clb : Val → Bool
  | .non => true
  | .bl _ => true
  | .int _ => true
  | .str s => PyData.strOk s
  | .tup xs => clbs xs
  | _ => false
def clbs : List Val → Bool
  | [] => true
  | x :: xs => clb x && clbs xs
end
@[simp] theorem clb_non : clb .non = true := by simp [clb]
@[simp] theorem clb_bl {b : Bool} : clb (.bl b) = true := by simp [clb]
@[simp] theorem clb_int {i : Int} : clb (.int i) = true := by simp [clb]
@[simp] theorem clb_tup {xs : List Val} : clb (.tup xs) = clbs xs := by simp [clb]
@[simp] theorem clbs_nil : clbs [] = true := by simp [clbs]
@[simp] theorem clbs_cons {x : Val} {xs : List Val} : clbs (x :: xs) = (clb x && clbs xs) := by simp [clbs]
@[simp] theorem dep_bl {i : Bool} : dep (.bl i) = 0 := by simp [dep]
theorem clbs_iff {xs : List Val} : clbs xs = true ↔ ∀ x ∈ xs, clb x = true := by
  induction xs with
  | nil => simp
  | cons x r ih => simp [ih]
theorem dep_mem {y : Val} : ∀ {l : List Val}, y ∈ l → dep y ≤ deps l
  | z :: r, h => by
    rcases List.mem_cons.mp h with rfl | h
    · simp; omega
    · simp; have := dep_mem h; omega
mutual
theorem toD_clb : ∀ x : Val, clb x = true → ∃ d, toD x = some d ∧ d.canLay0 = true ∧ d.depth = dep x ∧ PyData.eqv d d = true
  | .non, _ => ⟨_, rfl, by simp [PyData.canLay0], by simp [PyData.depth], by simp [PyData.eqv]⟩
  | .bl _, _ => ⟨_, rfl, by simp [PyData.canLay0], by simp [PyData.depth], by simp [PyData.eqv]⟩
  | .int _, _ => ⟨_, rfl, by simp [PyData.canLay0], by simp [PyData.depth], by simp [PyData.eqv]⟩
  | .str s, h => ⟨_, rfl, by simpa [PyData.canLay0, clb] using h, by simp [PyData.depth], by simp [PyData.eqv]⟩
  | .tup xs, h => by
    obtain ⟨ds, e, h1, h2, h3⟩ := toDs_clb xs (by simpa using h)
    exact ⟨.tuple ds, by simp [toD, e], by simp [PyData.canLay0, h1], by simp [PyData.depth, h2], by simpa [PyData.eqv] using h3⟩
  | .frz _, h => by simp [clb] at h
  | .ref _, h => by simp [clb] at h
theorem toDs_clb : ∀ xs : List Val, clbs xs = true → ∃ ds, toDs xs = some ds ∧ PyData.canLayAll0 ds = true ∧ PyData.depthAll ds = deps xs ∧ PyData.eqvAll ds ds = true
  | [], _ => ⟨[], by simp [toDs], by simp [PyData.canLayAll0], by simp [PyData.depthAll], by simp [PyData.eqvAll]⟩
  | x :: r, h => by
    simp only [clbs_cons, Bool.and_eq_true] at h
    obtain ⟨d, e1, h1, h2, h3⟩ := toD_clb x h.1
    obtain ⟨ds, e2, k1, k2, k3⟩ := toDs_clb r h.2
    exact ⟨d :: ds, by simp [toDs, e1, e2], by simp [PyData.canLayAll0, h1, k1], by simp [PyData.depthAll, h2, k2], by simp [PyData.eqvAll, h3, k3]⟩
end
theorem eqv1_self {S : Store} {x : Val} (hx : clb x = true) (dx : dep x ≤ 64) : eqv1 S x x = some true := by
  obtain ⟨d, e1, h1, h2, h3⟩ := toD_clb x hx
  have e : toD1 S x = some d := by
    rw [← e1]
    cases x <;> first | rfl | simp [clb] at hx
  have sh : SeqAt.shaped d = true := by simp [SeqAt.shaped, h1, h2, dx]
  simp only [eqv1, e, Option.bind_some, sh, and_self, if_true, h3]
/-- two lists of the same clean things -/
theorem eqv1_lists {S : Store} {a b : Nat} {xs : List Val} (ha : S[a]? = some (.lst xs)) (hb : S[b]? = some (.lst xs)) (hx : clbs xs = true) (dx : deps xs < 64) : eqv1 S (.ref a) (.ref b) = some true := by
  obtain ⟨ds, e1, h1, h2, h3⟩ := toDs_clb xs hx
  have ea : toD1 S (.ref a) = some (.list ds) := by simp [toD1, ha, e1]
  have eb : toD1 S (.ref b) = some (.list ds) := by simp [toD1, hb, e1]
  have sh : SeqAt.shaped (.list ds) = true := by simp [SeqAt.shaped, PyData.canLay0, PyData.depth, h1, h2]; omega
  simp only [eqv1, ea, eb, Option.bind_some, sh, and_self, if_true]
  simp [PyData.eqv, h3]
end Mp

set_option Elab.async false
set_option linter.all false
set_option maxRecDepth 100000
set_option maxHeartbeats 4000000
/-! leastroads_k30_whole_links_and_their_sta: the meaning of each def, and that the code has it. Printed by gen.py. -/
namespace K30
open PySem PySem.Spec PyProof.Rows L2 Mp
noncomputable section
abbrev PW : Program := PySem.Challenge.pw_leastroads_k30_whole_links_and_their_sta
def top (i : Nat) : Stmt := PW.main.body.getD i (.Pass ⟨0, 0, 0, 0⟩)
abbrev s_NoNumber_init : Stmt := (clsBody (top 2)).getD 0 (.Pass ⟨0, 0, 0, 0⟩)
abbrev s_NoState_init : Stmt := (clsBody (top 3)).getD 0 (.Pass ⟨0, 0, 0, 0⟩)
abbrev s_is_number : Stmt := top 5
abbrev s_is_thing : Stmt := top 9
abbrev s_is_link_number : Stmt := top 10
abbrev s_is_pair : Stmt := top 11
abbrev s_Outgoing_init : Stmt := (clsBody (top 12)).getD 0 (.Pass ⟨0, 0, 0, 0⟩)
abbrev s_Outgoing_put : Stmt := (clsBody (top 12)).getD 1 (.Pass ⟨0, 0, 0, 0⟩)
abbrev s_Outgoing_known : Stmt := (clsBody (top 12)).getD 2 (.Pass ⟨0, 0, 0, 0⟩)
abbrev s_Outgoing_waiting : Stmt := (clsBody (top 12)).getD 3 (.Pass ⟨0, 0, 0, 0⟩)
abbrev s_Outgoing_many_put : Stmt := (clsBody (top 12)).getD 4 (.Pass ⟨0, 0, 0, 0⟩)
abbrev s_Outgoing_state : Stmt := (clsBody (top 12)).getD 5 (.Pass ⟨0, 0, 0, 0⟩)
abbrev s_Outgoing_copy : Stmt := (clsBody (top 12)).getD 6 (.Pass ⟨0, 0, 0, 0⟩)
abbrev s_is_outgoing_state : Stmt := top 13
abbrev s_outgoing_of : Stmt := top 14
abbrev s_Incoming_init : Stmt := (clsBody (top 15)).getD 0 (.Pass ⟨0, 0, 0, 0⟩)
abbrev s_Incoming_take : Stmt := (clsBody (top 15)).getD 1 (.Pass ⟨0, 0, 0, 0⟩)
abbrev s_Incoming_taken : Stmt := (clsBody (top 15)).getD 2 (.Pass ⟨0, 0, 0, 0⟩)
abbrev s_Incoming_held : Stmt := (clsBody (top 15)).getD 3 (.Pass ⟨0, 0, 0, 0⟩)
abbrev s_Incoming_state : Stmt := (clsBody (top 15)).getD 4 (.Pass ⟨0, 0, 0, 0⟩)
abbrev s_Incoming_copy : Stmt := (clsBody (top 15)).getD 5 (.Pass ⟨0, 0, 0, 0⟩)
abbrev s_are_held : Stmt := top 16
abbrev s_is_incoming_state : Stmt := top 17
abbrev s_incoming_of : Stmt := top 18
abbrev s_law_hand : Stmt := top 20
abbrev s_law_take : Stmt := top 21
abbrev s_law_pick : Stmt := top 22
abbrev s_law_is_integer : Stmt := top 23
abbrev s_law_same : Stmt := top 24
abbrev s_law_item : Stmt := top 25
abbrev s_law_thing : Stmt := top 26
abbrev s_law_heard : Stmt := top 27
abbrev s_law_ends_right : Stmt := top 28
abbrev s_law_deed : Stmt := top 29
abbrev s_law_drained : Stmt := top 30
abbrev s_law_first : Stmt := top 31
abbrev s_law_is_within : Stmt := top 32
abbrev s_law_odd : Stmt := top 33
abbrev s_law_is_thing : Stmt := top 34
abbrev s_law_some_thing : Stmt := top 35
abbrev s_law_out_state : Stmt := top 36
abbrev s_law_in_state : Stmt := top 37
abbrev s_law_spoilt : Stmt := top 38
abbrev s_law_is_out : Stmt := top 39
abbrev s_law_is_in : Stmt := top 40
abbrev s_law_out_told : Stmt := top 41
abbrev s_law_in_told : Stmt := top 42
abbrev s_law_judged : Stmt := top 43
abbrev s_law_goes_on : Stmt := top 44
abbrev s_law_second : Stmt := top 45
abbrev s_law : Stmt := top 46
def errs : List Str := ["NoNumber", "NoState"]
def owns : List Str := ["Outgoing", "Incoming"]
abbrev YY (K : PySem.W.Frag) : Sy := YYg owns errs K
structure Txt (K : PySem.W.Frag) (mg : Str → Option Value) : Prop where
  b_all : mg "all" = none
  b_bool : mg "bool" = none
  b_dict : mg "dict" = none
  b_enumerate : mg "enumerate" = none
  b_int : mg "int" = none
  b_isinstance : mg "isinstance" = none
  b_len : mg "len" = none
  b_list : mg "list" = none
  b_max : mg "max" = none
  b_range : mg "range" = none
  b_sorted : mg "sorted" = none
  b_str : mg "str" = none
  b_tuple : mg "tuple" = none
  b_zip : mg "zip" = none
  con_NUMBER_LIMIT : ∃ t, mg "NUMBER_LIMIT" = some (.int (4294967296) t)
  con_WINDOW : ∃ t, mg "WINDOW" = some (.int (1000) t)
  kls : Kls K (YY K)
  nf_ahead : NoF K (YY K) ["Incoming"] "ahead"
  nf_many_known : NoF K (YY K) ["Outgoing"] "many_known"
  nf_many_taken : NoF K (YY K) ["Incoming"] "many_taken"
  nf_things : NoF K (YY K) ["Outgoing"] "things"
  hd_NoState : HdAt K mg (YY K) "NoState" (fun q => q == "NoState")
section
variable {P : Program} {w : World} {K : PySem.W.Frag} {mg : Str → Option Value} {base : Heap}

/-! ### is_number -/
def g_is_number_s : En → Store → Res := (sRet (eAnd (eIsT "int" (eV 0)) (eAnd (eNot (eIsT "bool" (eV 0))) (eB2 vGe (eV 0) (eC (.int 0))))))
def g_is_number : Fn := fnB 1 1 g_is_number_s
theorem sc_is_number : FnScope ["thing"] ["thing"] (defScope s_is_number) := ⟨rfl, rfl, rfl, by decide +kernel, rfl, by decide +kernel, by decide +kernel⟩
theorem ok_is_number {f : Addr} {fd : FuncData} (T : Txt K mg) (F : FunS K "is_number" "is_number" s_is_number f fd) (hm : mg "is_number" = some (.ref f)) : FnAt P w K mg base (YY K) 1 1 "is_number" g_is_number :=
  FnAt.of (k := 0) (g := g_is_number_s) F hm sc_is_number (fun _ _ _ _ _ _ us hl => match us, hl with | [_], _ => rfl) rfl fun cdv A outer s H E c =>
    (ss_one (ss_ret (se_and (se_isT (T := "int") (by decide +kernel) rfl T.b_isinstance rfl T.b_int (by decide +kernel) (se_v 0)) (se_and (se_not (se_isT (T := "bool") (by decide +kernel) rfl T.b_isinstance rfl T.b_bool (by decide +kernel) (se_v 0))) (se_one (se_ge (se_v 0) se_int))))))

/-! ### is_thing -/
def g_is_thing_b1 : En → Store → Res := (sIf (bV (eIsT "tuple" (eV 3))) (sExpr (eLm lAppend (eV 1) (aCons (eV 3) aNil))) (sIf (bAnd (bV (eB2 vIsN (eV 3) (eC .non))) (bNot (bV (eIsT2 "int" "str" (eV 3))))) (sRet (eC (.bl false))) sNil))
def g_is_thing_b2 : En → Store → Res := (sSeq (sSet 2 (eLm lPop (eV 1) aNil0)) (sFor (iSeq (eV 2)) (gN 3) g_is_thing_b1))
def g_is_thing_s : En → Store → Res := (sSeq (sIf (bNot (bV (eIsT "tuple" (eV 0)))) (sRet (eC (.bl false))) sNil) (sSeq (sSet 1 (eLst (aCons (eV 0) aNil))) (sSeq (sWhile (bTr (eV 1)) g_is_thing_b2) (sRet (eC (.bl true))))))
def g_is_thing : Fn := fnB 4 1 g_is_thing_s
theorem sc_is_thing : FnScope ["thing", "rows", "row", "item"] ["thing"] (defScope s_is_thing) := ⟨rfl, rfl, rfl, by decide +kernel, rfl, by decide +kernel, by decide +kernel⟩
theorem ok_is_thing {f : Addr} {fd : FuncData} (T : Txt K mg) (F : FunS K "is_thing" "is_thing" s_is_thing f fd) (hm : mg "is_thing" = some (.ref f)) : FnAt P w K mg base (YY K) 1 1 "is_thing" g_is_thing :=
  FnAt.of (k := 0) (g := g_is_thing_s) F hm sc_is_thing (fun _ _ _ _ _ _ us hl => match us, hl with | [_], _ => rfl) rfl fun cdv A outer s H E c =>
    (ss_cons (ss_if (st_not (st_val (se_isT (T := "tuple") (by decide +kernel) rfl T.b_isinstance rfl T.b_tuple (by decide +kernel) (se_v 0)))) (ss_one (ss_ret se_bl)) ss_nil)
    (ss_cons (ss_set (i := 1) c.xi c.nd rfl (by first | exact Or.inl rfl | exact Or.inr rfl) (se_lst (sa_cons (se_v 0) sa_nil)))
    (ss_cons (ss_while c.hp (st_truth (se_v 1)) (ss_cons (ss_set (i := 2) c.xi c.nd rfl (by first | exact Or.inl rfl | exact Or.inr rfl) (se_pop0 (se_v 1)))
    (ss_one (ss_for c.hp c.calm (si_seq (se_v 2)) (sg_name (i := 3) c.xi c.nd rfl (by first | exact Or.inl rfl | exact Or.inr rfl)) (ss_one (ss_if (st_val (se_isT (T := "tuple") (by decide +kernel) rfl T.b_isinstance rfl T.b_tuple (by decide +kernel) (se_v 3))) (ss_one (ss_expr (se_append (se_v 1) (sa_cons (se_v 3) sa_nil)))) (ss_one (ss_if (SW.st (sw_and (st_isN (se_v 3) se_non) (sw_and1 (st_not (st_val (se_isT2 (T := "int") (U := "str") (by decide +kernel) (by decide +kernel) rfl T.b_isinstance rfl T.b_int (by decide +kernel) rfl T.b_str (by decide +kernel) (se_v 3))))))) (ss_one (ss_ret se_bl)) ss_nil))))))))
    (ss_one (ss_ret se_bl)))))

/-! ### is_link_number -/
def g_is_link_number_s : En → Store → Res := (sRet (eAnd (eCall g_is_number (aCons (eV 0) aNil)) (eB2 vLt (eV 0) (eC (.int (bigI (4294967296)))))))
def g_is_link_number : Fn := fnB 1 1 g_is_link_number_s
theorem sc_is_link_number : FnScope ["thing"] ["thing"] (defScope s_is_link_number) := ⟨rfl, rfl, rfl, by decide +kernel, rfl, by decide +kernel, by decide +kernel⟩
theorem ok_is_link_number {f : Addr} {fd : FuncData} (T : Txt K mg) (F : FunS K "is_link_number" "is_link_number" s_is_link_number f fd) (hm : mg "is_link_number" = some (.ref f)) (h_is_number : FnAt P w K mg base (YY K) 1 1 "is_number" g_is_number) : FnAt P w K mg base (YY K) 2 1 "is_link_number" g_is_link_number :=
  FnAt.of (k := 1) (g := g_is_link_number_s) F hm sc_is_link_number (fun _ _ _ _ _ _ us hl => match us, hl with | [_], _ => rfl) rfl fun cdv A outer s H E c =>
    (ss_one (ss_ret (se_and (sx_call c h_is_number (by omega) rfl (sa_cons (se_v 0) sa_nil)) (se_one (se_lt c.u0 (se_v 0) (sx_conB rfl T.con_NUMBER_LIMIT))))))

/-! ### is_pair -/
def g_is_pair_s : En → Store → Res := (sRet (eAnd (eIsT "tuple" (eV 0)) (eB2 vEq (eCall fLen (aCons (eV 0) aNil)) (eC (.int 2)))))
def g_is_pair : Fn := fnB 1 1 g_is_pair_s
theorem sc_is_pair : FnScope ["thing"] ["thing"] (defScope s_is_pair) := ⟨rfl, rfl, rfl, by decide +kernel, rfl, by decide +kernel, by decide +kernel⟩
theorem ok_is_pair {f : Addr} {fd : FuncData} (T : Txt K mg) (F : FunS K "is_pair" "is_pair" s_is_pair f fd) (hm : mg "is_pair" = some (.ref f)) : FnAt P w K mg base (YY K) 1 1 "is_pair" g_is_pair :=
  FnAt.of (k := 0) (g := g_is_pair_s) F hm sc_is_pair (fun _ _ _ _ _ _ us hl => match us, hl with | [_], _ => rfl) rfl fun cdv A outer s H E c =>
    (ss_one (ss_ret (se_and (se_isT (T := "tuple") (by decide +kernel) rfl T.b_isinstance rfl T.b_tuple (by decide +kernel) (se_v 0)) (se_one (se_eq c.u64 (se_len rfl T.b_len (sa_cons (se_v 0) sa_nil)) se_int)))))

/-! ### Outgoing.__init__ -/
def g_Outgoing_init_s : En → Store → Res := (sSeq (sFldS ["Outgoing"] "many_known" (eC (.int 0)) (eV 0)) (sFldS ["Outgoing"] "things" (eLst aNil) (eV 0)))
def g_Outgoing_init : Fn := fnB 1 1 g_Outgoing_init_s
theorem sc_Outgoing_init : FnScope ["self"] ["self"] (defScope s_Outgoing_init) := ⟨rfl, rfl, rfl, by decide +kernel, rfl, by decide +kernel, by decide +kernel⟩
theorem ok_Outgoing_init {C f : Addr} {fd : FuncData} (T : Txt K mg) (F : FunS K "__init__" "Outgoing.__init__" s_Outgoing_init f fd) (hm : mg "Outgoing" = some (.ref C)) (hc : (YY K).cl "Outgoing" = some C) (mk : Mk K C f) : MkAt P w K mg base (YY K) 1 1 "Outgoing" g_Outgoing_init :=
  MkAt.of (k := 0) (g := g_Outgoing_init_s) F hm hc mk sc_Outgoing_init (fun _ _ _ _ _ _ us hl => match us, hl with | [_], _ => rfl) rfl fun cdv A outer s H E c =>
    (ss_cons (ss_fld T.kls T.nf_many_known (se_v 0) se_int)
    (ss_one (ss_fld T.kls T.nf_things (se_v 0) (se_lst sa_nil))))

/-! ### Outgoing.many_put -/
def g_Outgoing_many_put_s : En → Store → Res := (sRet (eB2 vAdd (eFld ["Outgoing"] "many_known" (eV 0)) (eCall fLen (aCons (eFld ["Outgoing"] "things" (eV 0)) aNil))))
def g_Outgoing_many_put : Fn := fnB 1 1 g_Outgoing_many_put_s
theorem sc_Outgoing_many_put : FnScope ["self"] ["self"] (defScope s_Outgoing_many_put) := ⟨rfl, rfl, rfl, by decide +kernel, rfl, by decide +kernel, by decide +kernel⟩
theorem ok_Outgoing_many_put {C f : Addr} {fd : FuncData} (T : Txt K mg) (F : FunS K "many_put" "Outgoing.many_put" s_Outgoing_many_put f fd) (hc : (YY K).cl "Outgoing" = some C) (mt : Meth K C "many_put" f) : MeAt P w K mg base (YY K) 1 1 "Outgoing" "many_put" g_Outgoing_many_put :=
  MeAt.of (k := 0) (g := g_Outgoing_many_put_s) F hc mt sc_Outgoing_many_put (fun _ _ _ _ _ _ us hl => match us, hl with | [_], _ => rfl) rfl fun cdv A outer s H E c =>
    (ss_one (ss_ret (se_add (se_fld T.kls T.nf_many_known (se_v 0)) (se_len rfl T.b_len (sa_cons (se_fld T.kls T.nf_things (se_v 0)) sa_nil)))))

/-! ### Outgoing.put -/
def g_Outgoing_put_s : En → Store → Res := (sSeq (sExpr (eLm lAppend (eFld ["Outgoing"] "things" (eV 0)) (aCons (eV 1) aNil))) (sRet (eB2 vSub (eMeth "many_put" [("Outgoing", g_Outgoing_many_put)] (eV 0) aNil) (eC (.int 1)))))
def g_Outgoing_put : Fn := fnB 2 2 g_Outgoing_put_s
theorem sc_Outgoing_put : FnScope ["self", "thing"] ["self", "thing"] (defScope s_Outgoing_put) := ⟨rfl, rfl, rfl, by decide +kernel, rfl, by decide +kernel, by decide +kernel⟩
theorem ok_Outgoing_put {C f : Addr} {fd : FuncData} (T : Txt K mg) (F : FunS K "put" "Outgoing.put" s_Outgoing_put f fd) (hc : (YY K).cl "Outgoing" = some C) (mt : Meth K C "put" f) (h_Outgoing_many_put : MeAt P w K mg base (YY K) 1 1 "Outgoing" "many_put" g_Outgoing_many_put) : MeAt P w K mg base (YY K) 2 2 "Outgoing" "put" g_Outgoing_put :=
  MeAt.of (k := 1) (g := g_Outgoing_put_s) F hc mt sc_Outgoing_put (fun _ _ _ _ _ _ us hl => match us, hl with | [_, _], _ => rfl) rfl fun cdv A outer s H E c =>
    (ss_cons (ss_expr (se_append (se_fld T.kls T.nf_things (se_v 0)) (sa_cons (se_v 1) sa_nil)))
    (ss_one (ss_ret (se_sub (se_meth0 (m := "many_put") (l := [("Outgoing", g_Outgoing_many_put)]) c T.kls (mel_cons h_Outgoing_many_put (by omega) mel_nil) (se_v 0)) se_int))))

/-! ### Outgoing.known -/
def g_Outgoing_known_s : En → Store → Res := (sSeq (sIf (bOr (bNot (bV (eCall g_is_number (aCons (eV 1) aNil)))) (bV (eB2 vGt (eV 1) (eMeth "many_put" [("Outgoing", g_Outgoing_many_put)] (eV 0) aNil)))) (sRaise0 "NoNumber") sNil) (sSeq (sSet 2 (eCall fMax2 (aCons (eC (.int 0)) (aCons (eB2 vSub (eV 1) (eFld ["Outgoing"] "many_known" (eV 0))) aNil)))) (sSeq (sFldS ["Outgoing"] "things" (eSl (eFld ["Outgoing"] "things" (eV 0)) (pSome (eV 2)) pNo) (eV 0)) (sSeq (sFldInc ["Outgoing"] "many_known" (eV 0) (eV 2)) (sRet (eV 2))))))
def g_Outgoing_known : Fn := fnB 3 2 g_Outgoing_known_s
theorem sc_Outgoing_known : FnScope ["self", "number", "gone"] ["self", "number"] (defScope s_Outgoing_known) := ⟨rfl, rfl, rfl, by decide +kernel, rfl, by decide +kernel, by decide +kernel⟩
theorem ok_Outgoing_known {C f : Addr} {fd : FuncData} (T : Txt K mg) (F : FunS K "known" "Outgoing.known" s_Outgoing_known f fd) (hc : (YY K).cl "Outgoing" = some C) (mt : Meth K C "known" f) (h_is_number : FnAt P w K mg base (YY K) 1 1 "is_number" g_is_number) (h_Outgoing_many_put : MeAt P w K mg base (YY K) 1 1 "Outgoing" "many_put" g_Outgoing_many_put) (h_NoNumber : Er0At P w K mg base (YY K) "NoNumber") : MeAt P w K mg base (YY K) 3 2 "Outgoing" "known" g_Outgoing_known :=
  MeAt.of (k := 2) (g := g_Outgoing_known_s) F hc mt sc_Outgoing_known (fun _ _ _ _ _ _ us hl => match us, hl with | [_, _], _ => rfl) rfl fun cdv A outer s H E c =>
    (ss_cons (ss_if (SW.st (sw_or (st_not (st_val (sx_call c h_is_number (by omega) rfl (sa_cons (se_v 1) sa_nil)))) (sw_or1 (st_gt c.u0 (se_v 1) (se_meth0 (m := "many_put") (l := [("Outgoing", g_Outgoing_many_put)]) c T.kls (mel_cons h_Outgoing_many_put (by omega) mel_nil) (se_v 0)))))) (ss_one (sx_raise0 c h_NoNumber (by omega) rfl)) ss_nil)
    (ss_cons (ss_set (i := 2) c.xi c.nd rfl (by first | exact Or.inl rfl | exact Or.inr rfl) (se_max2 c.calm rfl T.b_max (sa_cons se_int (sa_cons (se_sub (se_v 1) (se_fld T.kls T.nf_many_known (se_v 0))) sa_nil))))
    (ss_cons (ss_fld T.kls T.nf_things (se_v 0) (se_sl (se_fld T.kls T.nf_things (se_v 0)) (so_some (se_v 2)) so_no))
    (ss_cons (ss_fldinc T.kls T.nf_many_known (se_v 0) (se_v 2))
    (ss_one (ss_ret (se_v 2)))))))

/-! ### Outgoing.waiting -/
def g_Outgoing_waiting_e1 : En → Store → Out Val := (eTup (aCons (eB2 vAdd (eFld ["Outgoing"] "many_known" (eV 0)) (eV 1)) (aCons (eV 2) aNil)))
def g_Outgoing_waiting_s : En → Store → Res := (sRet (eLc (iEnS (aCons (eFld ["Outgoing"] "things" (eV 0)) aNil)) (gT 2 (gCo (gN 1) (gCo (gN 2) gNo))) bYes g_Outgoing_waiting_e1 [1, 2]))
def g_Outgoing_waiting : Fn := fnB 3 1 g_Outgoing_waiting_s
theorem sc_Outgoing_waiting : FnScope ["self", "at", "thing"] ["self"] (defScope s_Outgoing_waiting) := ⟨rfl, rfl, rfl, by decide +kernel, rfl, by decide +kernel, by decide +kernel⟩
theorem ok_Outgoing_waiting {C f : Addr} {fd : FuncData} (T : Txt K mg) (F : FunS K "waiting" "Outgoing.waiting" s_Outgoing_waiting f fd) (hc : (YY K).cl "Outgoing" = some C) (mt : Meth K C "waiting" f) : MeAt P w K mg base (YY K) 1 1 "Outgoing" "waiting" g_Outgoing_waiting :=
  MeAt.of (k := 0) (g := g_Outgoing_waiting_s) F hc mt sc_Outgoing_waiting (fun _ _ _ _ _ _ us hl => match us, hl with | [_], _ => rfl) rfl fun cdv A outer s H E c =>
    (ss_one (ss_ret (se_lc c (si_enum rfl T.b_enumerate (sa_cons (se_fld T.kls T.nf_things (se_v 0)) sa_nil)) (own := [("at", 1), ("thing", 2)]) (blk_ok (N := ["self", "at", "thing"]) (sc := defScope s_Outgoing_waiting) rfl rfl rfl (by decide +kernel)) (by decide) (fun _ _ _ _ _ c' => (sg_tup c'.calm (sgs_cons (sg_name (i := 1) c'.xi c'.nd rfl (by first | exact Or.inl rfl | exact Or.inr rfl)) (sgs_cons (sg_name (i := 2) c'.xi c'.nd rfl (by first | exact Or.inl rfl | exact Or.inr rfl)) sgs_nil)))) (fun _ _ _ _ _ c' => sp_nil) (fun _ _ _ _ _ c' => (se_tup (sa_cons (se_add (se_fld T.kls T.nf_many_known (se_v 0)) (se_v 1)) (sa_cons (se_v 2) sa_nil)))))))

/-! ### Outgoing.state -/
def g_Outgoing_state_s : En → Store → Res := (sRet (eTup (aCons (eFld ["Outgoing"] "many_known" (eV 0)) (aCons (eCall fTuple (aCons (eFld ["Outgoing"] "things" (eV 0)) aNil)) aNil))))
def g_Outgoing_state : Fn := fnB 1 1 g_Outgoing_state_s
theorem sc_Outgoing_state : FnScope ["self"] ["self"] (defScope s_Outgoing_state) := ⟨rfl, rfl, rfl, by decide +kernel, rfl, by decide +kernel, by decide +kernel⟩
theorem ok_Outgoing_state {C f : Addr} {fd : FuncData} (T : Txt K mg) (F : FunS K "state" "Outgoing.state" s_Outgoing_state f fd) (hc : (YY K).cl "Outgoing" = some C) (mt : Meth K C "state" f) : MeAt P w K mg base (YY K) 1 1 "Outgoing" "state" g_Outgoing_state :=
  MeAt.of (k := 0) (g := g_Outgoing_state_s) F hc mt sc_Outgoing_state (fun _ _ _ _ _ _ us hl => match us, hl with | [_], _ => rfl) rfl fun cdv A outer s H E c =>
    (ss_one (ss_ret (se_tup (sa_cons (se_fld T.kls T.nf_many_known (se_v 0)) (sa_cons (se_tuple rfl T.b_tuple (sa_cons (se_fld T.kls T.nf_things (se_v 0)) sa_nil)) sa_nil)))))

/-! ### Outgoing.copy -/
def g_Outgoing_copy_s : En → Store → Res := (sSeq (sSet 1 (eCall (fMake "Outgoing" g_Outgoing_init) aNil)) (sSeq (sFldS ["Outgoing"] "many_known" (eFld ["Outgoing"] "many_known" (eV 0)) (eV 1)) (sSeq (sFldS ["Outgoing"] "things" (eCall fList (aCons (eFld ["Outgoing"] "things" (eV 0)) aNil)) (eV 1)) (sRet (eV 1)))))
def g_Outgoing_copy : Fn := fnB 2 1 g_Outgoing_copy_s
theorem sc_Outgoing_copy : FnScope ["self", "other"] ["self"] (defScope s_Outgoing_copy) := ⟨rfl, rfl, rfl, by decide +kernel, rfl, by decide +kernel, by decide +kernel⟩
theorem ok_Outgoing_copy {C f : Addr} {fd : FuncData} (T : Txt K mg) (F : FunS K "copy" "Outgoing.copy" s_Outgoing_copy f fd) (hc : (YY K).cl "Outgoing" = some C) (mt : Meth K C "copy" f) (h_Outgoing : MkAt P w K mg base (YY K) 1 1 "Outgoing" g_Outgoing_init) : MeAt P w K mg base (YY K) 3 1 "Outgoing" "copy" g_Outgoing_copy :=
  MeAt.of (k := 2) (g := g_Outgoing_copy_s) F hc mt sc_Outgoing_copy (fun _ _ _ _ _ _ us hl => match us, hl with | [_], _ => rfl) rfl fun cdv A outer s H E c =>
    (ss_cons (ss_set (i := 1) c.xi c.nd rfl (by first | exact Or.inl rfl | exact Or.inr rfl) (sx_make0 c h_Outgoing (by omega) rfl))
    (ss_cons (ss_fld T.kls T.nf_many_known (se_v 1) (se_fld T.kls T.nf_many_known (se_v 0)))
    (ss_cons (ss_fld T.kls T.nf_things (se_v 1) (se_list rfl T.b_list (sa_cons (se_fld T.kls T.nf_things (se_v 0)) sa_nil)))
    (ss_one (ss_ret (se_v 1))))))

/-! ### is_outgoing_state -/
def g_is_outgoing_state_e1 : En → Store → Out Val := (eCall g_is_thing (aCons (eV 1) aNil))
def g_is_outgoing_state_s : En → Store → Res := (sSeq (sIf (bOr (bNot (bV (eCall g_is_pair (aCons (eV 0) aNil)))) (bOr (bNot (bV (eCall g_is_link_number (aCons (eB2 vIx (eV 0) (eC (.int 0))) aNil)))) (bNot (bV (eIsT "tuple" (eB2 vIx (eV 0) (eC (.int 1)))))))) (sRet (eC (.bl false))) sNil) (sRet (eCall fAll (aCons (eLc (iSeq (eB2 vIx (eV 0) (eC (.int 1)))) (gN 1) bYes g_is_outgoing_state_e1 [1]) aNil))))
def g_is_outgoing_state : Fn := fnB 2 1 g_is_outgoing_state_s
theorem sc_is_outgoing_state : FnScope ["thing", "item"] ["thing"] (defScope s_is_outgoing_state) := ⟨rfl, rfl, rfl, by decide +kernel, rfl, by decide +kernel, by decide +kernel⟩
theorem ok_is_outgoing_state {f : Addr} {fd : FuncData} (T : Txt K mg) (F : FunS K "is_outgoing_state" "is_outgoing_state" s_is_outgoing_state f fd) (hm : mg "is_outgoing_state" = some (.ref f)) (h_is_pair : FnAt P w K mg base (YY K) 1 1 "is_pair" g_is_pair) (h_is_link_number : FnAt P w K mg base (YY K) 2 1 "is_link_number" g_is_link_number) (h_is_thing : FnAt P w K mg base (YY K) 1 1 "is_thing" g_is_thing) : FnAt P w K mg base (YY K) 3 1 "is_outgoing_state" g_is_outgoing_state :=
  FnAt.of (k := 2) (g := g_is_outgoing_state_s) F hm sc_is_outgoing_state (fun _ _ _ _ _ _ us hl => match us, hl with | [_], _ => rfl) rfl fun cdv A outer s H E c =>
    (ss_cons (ss_if (SW.st (sw_or (st_not (st_val (sx_call c h_is_pair (by omega) rfl (sa_cons (se_v 0) sa_nil)))) (sw_or (st_not (st_val (sx_call c h_is_link_number (by omega) rfl (sa_cons (se_ix c.u1 (se_v 0) se_int) sa_nil)))) (sw_or1 (st_not (st_val (se_isT (T := "tuple") (by decide +kernel) rfl T.b_isinstance rfl T.b_tuple (by decide +kernel) (se_ix c.u1 (se_v 0) se_int)))))))) (ss_one (ss_ret se_bl)) ss_nil)
    (ss_one (ss_ret (se_all c.calm rfl T.b_all (sa_cons (se_lc c (si_seq (se_ix c.u1 (se_v 0) se_int)) (own := [("item", 1)]) (blk_ok (N := ["thing", "item"]) (sc := defScope s_is_outgoing_state) rfl rfl rfl (by decide +kernel)) (by decide) (fun _ _ _ _ _ c' => (sg_name (i := 1) c'.xi c'.nd rfl (by first | exact Or.inl rfl | exact Or.inr rfl))) (fun _ _ _ _ _ c' => sp_nil) (fun _ _ _ _ _ c' => (sx_call c' h_is_thing (by omega) rfl (sa_cons (se_v 1) sa_nil)))) sa_nil)))))

/-! ### outgoing_of -/
def g_outgoing_of_s : En → Store → Res := (sSeq (sIf (bNot (bV (eCall g_is_outgoing_state (aCons (eV 0) aNil)))) (sRaise0 "NoState") sNil) (sSeq (sSet 1 (eCall (fMake "Outgoing" g_Outgoing_init) aNil)) (sSeq (sFldS ["Outgoing"] "many_known" (eB2 vIx (eV 0) (eC (.int 0))) (eV 1)) (sSeq (sFldS ["Outgoing"] "things" (eCall fList (aCons (eB2 vIx (eV 0) (eC (.int 1))) aNil)) (eV 1)) (sRet (eV 1))))))
def g_outgoing_of : Fn := fnB 2 1 g_outgoing_of_s
theorem sc_outgoing_of : FnScope ["state", "end"] ["state"] (defScope s_outgoing_of) := ⟨rfl, rfl, rfl, by decide +kernel, rfl, by decide +kernel, by decide +kernel⟩
theorem ok_outgoing_of {f : Addr} {fd : FuncData} (T : Txt K mg) (F : FunS K "outgoing_of" "outgoing_of" s_outgoing_of f fd) (hm : mg "outgoing_of" = some (.ref f)) (h_is_outgoing_state : FnAt P w K mg base (YY K) 3 1 "is_outgoing_state" g_is_outgoing_state) (h_NoState : Er0At P w K mg base (YY K) "NoState") (h_Outgoing : MkAt P w K mg base (YY K) 1 1 "Outgoing" g_Outgoing_init) : FnAt P w K mg base (YY K) 4 1 "outgoing_of" g_outgoing_of :=
  FnAt.of (k := 3) (g := g_outgoing_of_s) F hm sc_outgoing_of (fun _ _ _ _ _ _ us hl => match us, hl with | [_], _ => rfl) rfl fun cdv A outer s H E c =>
    (ss_cons (ss_if (st_not (st_val (sx_call c h_is_outgoing_state (by omega) rfl (sa_cons (se_v 0) sa_nil)))) (ss_one (sx_raise0 c h_NoState (by omega) rfl)) ss_nil)
    (ss_cons (ss_set (i := 1) c.xi c.nd rfl (by first | exact Or.inl rfl | exact Or.inr rfl) (sx_make0 c h_Outgoing (by omega) rfl))
    (ss_cons (ss_fld T.kls T.nf_many_known (se_v 1) (se_ix c.u1 (se_v 0) se_int))
    (ss_cons (ss_fld T.kls T.nf_things (se_v 1) (se_list rfl T.b_list (sa_cons (se_ix c.u1 (se_v 0) se_int) sa_nil)))
    (ss_one (ss_ret (se_v 1)))))))

/-! ### Incoming.__init__ -/
def g_Incoming_init_s : En → Store → Res := (sSeq (sFldS ["Incoming"] "many_taken" (eC (.int 0)) (eV 0)) (sFldS ["Incoming"] "ahead" eDk (eV 0)))
def g_Incoming_init : Fn := fnB 1 1 g_Incoming_init_s
theorem sc_Incoming_init : FnScope ["self"] ["self"] (defScope s_Incoming_init) := ⟨rfl, rfl, rfl, by decide +kernel, rfl, by decide +kernel, by decide +kernel⟩
theorem ok_Incoming_init {C f : Addr} {fd : FuncData} (T : Txt K mg) (F : FunS K "__init__" "Incoming.__init__" s_Incoming_init f fd) (hm : mg "Incoming" = some (.ref C)) (hc : (YY K).cl "Incoming" = some C) (mk : Mk K C f) : MkAt P w K mg base (YY K) 1 1 "Incoming" g_Incoming_init :=
  MkAt.of (k := 0) (g := g_Incoming_init_s) F hm hc mk sc_Incoming_init (fun _ _ _ _ _ _ us hl => match us, hl with | [_], _ => rfl) rfl fun cdv A outer s H E c =>
    (ss_cons (ss_fld T.kls T.nf_many_taken (se_v 0) se_int)
    (ss_one (ss_fld T.kls T.nf_ahead (se_v 0) se_dk)))

/-! ### Incoming.take -/
def g_Incoming_take_b1 : En → Store → Res := (sSeq (sExpr (eLm lAppend (eV 3) (aCons (eDPop (eFld ["Incoming"] "ahead" (eV 0)) (eFld ["Incoming"] "many_taken" (eV 0))) aNil))) (sFldInc ["Incoming"] "many_taken" (eV 0) (eC (.int 1))))
def g_Incoming_take_s : En → Store → Res := (sSeq (sIf (bNot (bV (eCall g_is_link_number (aCons (eV 1) aNil)))) (sRaise0 "NoNumber") sNil) (sSeq (sIf (bAnd (bV (eCh vLe vLt (eFld ["Incoming"] "many_taken" (eV 0)) (eV 1) (eB2 vAdd (eFld ["Incoming"] "many_taken" (eV 0)) (eC (.int 1000))))) (bV (eB2 (vIn true) (eV 1) (eFld ["Incoming"] "ahead" (eV 0))))) (sPutIx (eV 2) (eFld ["Incoming"] "ahead" (eV 0)) (eV 1)) sNil) (sSeq (sSet 3 (eLst aNil)) (sSeq (sWhile (bV (eB2 (vIn false) (eFld ["Incoming"] "many_taken" (eV 0)) (eFld ["Incoming"] "ahead" (eV 0)))) g_Incoming_take_b1) (sRet (eV 3))))))
def g_Incoming_take : Fn := fnB 4 3 g_Incoming_take_s
theorem sc_Incoming_take : FnScope ["self", "number", "thing", "found"] ["self", "number", "thing"] (defScope s_Incoming_take) := ⟨rfl, rfl, rfl, by decide +kernel, rfl, by decide +kernel, by decide +kernel⟩
theorem ok_Incoming_take {C f : Addr} {fd : FuncData} (T : Txt K mg) (F : FunS K "take" "Incoming.take" s_Incoming_take f fd) (hc : (YY K).cl "Incoming" = some C) (mt : Meth K C "take" f) (h_is_link_number : FnAt P w K mg base (YY K) 2 1 "is_link_number" g_is_link_number) (h_NoNumber : Er0At P w K mg base (YY K) "NoNumber") : MeAt P w K mg base (YY K) 3 3 "Incoming" "take" g_Incoming_take :=
  MeAt.of (k := 2) (g := g_Incoming_take_s) F hc mt sc_Incoming_take (fun _ _ _ _ _ _ us hl => match us, hl with | [_, _, _], _ => rfl) rfl fun cdv A outer s H E c =>
    (ss_cons (ss_if (st_not (st_val (sx_call c h_is_link_number (by omega) rfl (sa_cons (se_v 1) sa_nil)))) (ss_one (sx_raise0 c h_NoNumber (by omega) rfl)) ss_nil)
    (ss_cons (ss_if (SW.st (sw_and (st_ch (op_vLe c.u0) vOrd_ok vOrd_flag (op_vLt c.u0) vOrd_ok (se_fld T.kls T.nf_many_taken (se_v 0)) (se_v 1) (se_add (se_fld T.kls T.nf_many_taken (se_v 0)) (sx_con rfl T.con_WINDOW))) (sw_and1 (st_notIn c.u65 (se_v 1) (se_fld T.kls T.nf_ahead (se_v 0)))))) (ss_one (ss_putIx c.u1 (se_v 2) (se_fld T.kls T.nf_ahead (se_v 0)) (se_v 1))) ss_nil)
    (ss_cons (ss_set (i := 3) c.xi c.nd rfl (by first | exact Or.inl rfl | exact Or.inr rfl) (se_lst sa_nil))
    (ss_cons (ss_while c.hp (st_in c.u65 (se_fld T.kls T.nf_many_taken (se_v 0)) (se_fld T.kls T.nf_ahead (se_v 0))) (ss_cons (ss_expr (se_append (se_v 3) (sa_cons (se_dpop (se_fld T.kls T.nf_ahead (se_v 0)) (se_fld T.kls T.nf_many_taken (se_v 0)) ⟨rfl, rfl, rfl, rfl⟩) sa_nil)))
    (ss_one (ss_fldinc T.kls T.nf_many_taken (se_v 0) se_int))))
    (ss_one (ss_ret (se_v 3)))))))

/-! ### Incoming.taken -/
def g_Incoming_taken_s : En → Store → Res := (sRet (eFld ["Incoming"] "many_taken" (eV 0)))
def g_Incoming_taken : Fn := fnB 1 1 g_Incoming_taken_s
theorem sc_Incoming_taken : FnScope ["self"] ["self"] (defScope s_Incoming_taken) := ⟨rfl, rfl, rfl, by decide +kernel, rfl, by decide +kernel, by decide +kernel⟩
theorem ok_Incoming_taken {C f : Addr} {fd : FuncData} (T : Txt K mg) (F : FunS K "taken" "Incoming.taken" s_Incoming_taken f fd) (hc : (YY K).cl "Incoming" = some C) (mt : Meth K C "taken" f) : MeAt P w K mg base (YY K) 1 1 "Incoming" "taken" g_Incoming_taken :=
  MeAt.of (k := 0) (g := g_Incoming_taken_s) F hc mt sc_Incoming_taken (fun _ _ _ _ _ _ us hl => match us, hl with | [_], _ => rfl) rfl fun cdv A outer s H E c =>
    (ss_one (ss_ret (se_fld T.kls T.nf_many_taken (se_v 0))))

/-! ### Incoming.held -/
def g_Incoming_held_s : En → Store → Res := (sRet (eCall fTuple (aCons (eCall fSortedD (aCons (eFld ["Incoming"] "ahead" (eV 0)) aNil)) aNil)))
def g_Incoming_held : Fn := fnB 1 1 g_Incoming_held_s
theorem sc_Incoming_held : FnScope ["self"] ["self"] (defScope s_Incoming_held) := ⟨rfl, rfl, rfl, by decide +kernel, rfl, by decide +kernel, by decide +kernel⟩
theorem ok_Incoming_held {C f : Addr} {fd : FuncData} (T : Txt K mg) (F : FunS K "held" "Incoming.held" s_Incoming_held f fd) (hc : (YY K).cl "Incoming" = some C) (mt : Meth K C "held" f) : MeAt P w K mg base (YY K) 1 1 "Incoming" "held" g_Incoming_held :=
  MeAt.of (k := 0) (g := g_Incoming_held_s) F hc mt sc_Incoming_held (fun _ _ _ _ _ _ us hl => match us, hl with | [_], _ => rfl) rfl fun cdv A outer s H E c =>
    (ss_one (ss_ret (se_tuple rfl T.b_tuple (sa_cons (se_sortedD c.calm c.u66 rfl T.b_sorted (sa_cons (se_fld T.kls T.nf_ahead (se_v 0)) sa_nil)) sa_nil))))

/-! ### Incoming.state -/
def g_Incoming_state_e1 : En → Store → Out Val := (eTup (aCons (eV 1) (aCons (eB2 vIx (eFld ["Incoming"] "ahead" (eV 0)) (eV 1)) aNil)))
def g_Incoming_state_s : En → Store → Res := (sRet (eTup (aCons (eFld ["Incoming"] "many_taken" (eV 0)) (aCons (eCall fTuple (aCons (eLc (iSeq (eMeth "held" [("Incoming", g_Incoming_held)] (eV 0) aNil)) (gN 1) bYes g_Incoming_state_e1 [1]) aNil)) aNil))))
def g_Incoming_state : Fn := fnB 2 1 g_Incoming_state_s
theorem sc_Incoming_state : FnScope ["self", "number"] ["self"] (defScope s_Incoming_state) := ⟨rfl, rfl, rfl, by decide +kernel, rfl, by decide +kernel, by decide +kernel⟩
theorem ok_Incoming_state {C f : Addr} {fd : FuncData} (T : Txt K mg) (F : FunS K "state" "Incoming.state" s_Incoming_state f fd) (hc : (YY K).cl "Incoming" = some C) (mt : Meth K C "state" f) (h_Incoming_held : MeAt P w K mg base (YY K) 1 1 "Incoming" "held" g_Incoming_held) : MeAt P w K mg base (YY K) 2 1 "Incoming" "state" g_Incoming_state :=
  MeAt.of (k := 1) (g := g_Incoming_state_s) F hc mt sc_Incoming_state (fun _ _ _ _ _ _ us hl => match us, hl with | [_], _ => rfl) rfl fun cdv A outer s H E c =>
    (ss_one (ss_ret (se_tup (sa_cons (se_fld T.kls T.nf_many_taken (se_v 0)) (sa_cons (se_tuple rfl T.b_tuple (sa_cons (se_lc c (si_seq (se_meth0 (m := "held") (l := [("Incoming", g_Incoming_held)]) c T.kls (mel_cons h_Incoming_held (by omega) mel_nil) (se_v 0))) (own := [("number", 1)]) (blk_ok (N := ["self", "number"]) (sc := defScope s_Incoming_state) rfl rfl rfl (by decide +kernel)) (by decide) (fun _ _ _ _ _ c' => (sg_name (i := 1) c'.xi c'.nd rfl (by first | exact Or.inl rfl | exact Or.inr rfl))) (fun _ _ _ _ _ c' => sp_nil) (fun _ _ _ _ _ c' => (se_tup (sa_cons (se_v 1) (sa_cons (se_ix c'.u1 (se_fld T.kls T.nf_ahead (se_v 0)) (se_v 1)) sa_nil))))) sa_nil)) sa_nil)))))

/-! ### Incoming.copy -/
def g_Incoming_copy_s : En → Store → Res := (sSeq (sSet 1 (eCall (fMake "Incoming" g_Incoming_init) aNil)) (sSeq (sFldS ["Incoming"] "many_taken" (eFld ["Incoming"] "many_taken" (eV 0)) (eV 1)) (sSeq (sFldS ["Incoming"] "ahead" (eCall fDictC (aCons (eFld ["Incoming"] "ahead" (eV 0)) aNil)) (eV 1)) (sRet (eV 1)))))
def g_Incoming_copy : Fn := fnB 2 1 g_Incoming_copy_s
theorem sc_Incoming_copy : FnScope ["self", "other"] ["self"] (defScope s_Incoming_copy) := ⟨rfl, rfl, rfl, by decide +kernel, rfl, by decide +kernel, by decide +kernel⟩
theorem ok_Incoming_copy {C f : Addr} {fd : FuncData} (T : Txt K mg) (F : FunS K "copy" "Incoming.copy" s_Incoming_copy f fd) (hc : (YY K).cl "Incoming" = some C) (mt : Meth K C "copy" f) (h_Incoming : MkAt P w K mg base (YY K) 1 1 "Incoming" g_Incoming_init) : MeAt P w K mg base (YY K) 3 1 "Incoming" "copy" g_Incoming_copy :=
  MeAt.of (k := 2) (g := g_Incoming_copy_s) F hc mt sc_Incoming_copy (fun _ _ _ _ _ _ us hl => match us, hl with | [_], _ => rfl) rfl fun cdv A outer s H E c =>
    (ss_cons (ss_set (i := 1) c.xi c.nd rfl (by first | exact Or.inl rfl | exact Or.inr rfl) (sx_make0 c h_Incoming (by omega) rfl))
    (ss_cons (ss_fld T.kls T.nf_many_taken (se_v 1) (se_fld T.kls T.nf_many_taken (se_v 0)))
    (ss_cons (ss_fld T.kls T.nf_ahead (se_v 1) (se_dictC c.calm rfl T.b_dict (sa_cons (se_fld T.kls T.nf_ahead (se_v 0)) sa_nil)))
    (ss_one (ss_ret (se_v 1))))))

/-! ### are_held -/
def g_are_held_b1 : En → Store → Res := (sSeq (sIf (bOr (bNot (bV (eCall g_is_pair (aCons (eV 3) aNil)))) (bOr (bNot (bV (eCall g_is_number (aCons (eB2 vIx (eV 3) (eC (.int 0))) aNil)))) (bNot (bV (eCall g_is_thing (aCons (eB2 vIx (eV 3) (eC (.int 1))) aNil)))))) (sRet (eC (.bl false))) sNil) (sSeq (sIf (bNot (bV (eCh vLe vLt (eV 2) (eB2 vIx (eV 3) (eC (.int 0))) (eB2 vAdd (eV 0) (eC (.int 1000)))))) (sRet (eC (.bl false))) sNil) (sSet 2 (eB2 vAdd (eB2 vIx (eV 3) (eC (.int 0))) (eC (.int 1))))))
def g_are_held_s : En → Store → Res := (sSeq (sIf (bNot (bV (eIsT "tuple" (eV 1)))) (sRet (eC (.bl false))) sNil) (sSeq (sSet 2 (eB2 vAdd (eV 0) (eC (.int 1)))) (sSeq (sFor (iSeq (eV 1)) (gN 3) g_are_held_b1) (sRet (eC (.bl true))))))
def g_are_held : Fn := fnB 4 2 g_are_held_s
theorem sc_are_held : FnScope ["taken", "thing", "least", "pair"] ["taken", "thing"] (defScope s_are_held) := ⟨rfl, rfl, rfl, by decide +kernel, rfl, by decide +kernel, by decide +kernel⟩
theorem ok_are_held {f : Addr} {fd : FuncData} (T : Txt K mg) (F : FunS K "are_held" "are_held" s_are_held f fd) (hm : mg "are_held" = some (.ref f)) (h_is_pair : FnAt P w K mg base (YY K) 1 1 "is_pair" g_is_pair) (h_is_number : FnAt P w K mg base (YY K) 1 1 "is_number" g_is_number) (h_is_thing : FnAt P w K mg base (YY K) 1 1 "is_thing" g_is_thing) : FnAt P w K mg base (YY K) 2 2 "are_held" g_are_held :=
  FnAt.of (k := 1) (g := g_are_held_s) F hm sc_are_held (fun _ _ _ _ _ _ us hl => match us, hl with | [_, _], _ => rfl) rfl fun cdv A outer s H E c =>
    (ss_cons (ss_if (st_not (st_val (se_isT (T := "tuple") (by decide +kernel) rfl T.b_isinstance rfl T.b_tuple (by decide +kernel) (se_v 1)))) (ss_one (ss_ret se_bl)) ss_nil)
    (ss_cons (ss_set (i := 2) c.xi c.nd rfl (by first | exact Or.inl rfl | exact Or.inr rfl) (se_add (se_v 0) se_int))
    (ss_cons (ss_for c.hp c.calm (si_seq (se_v 1)) (sg_name (i := 3) c.xi c.nd rfl (by first | exact Or.inl rfl | exact Or.inr rfl)) (ss_cons (ss_if (SW.st (sw_or (st_not (st_val (sx_call c h_is_pair (by omega) rfl (sa_cons (se_v 3) sa_nil)))) (sw_or (st_not (st_val (sx_call c h_is_number (by omega) rfl (sa_cons (se_ix c.u1 (se_v 3) se_int) sa_nil)))) (sw_or1 (st_not (st_val (sx_call c h_is_thing (by omega) rfl (sa_cons (se_ix c.u1 (se_v 3) se_int) sa_nil)))))))) (ss_one (ss_ret se_bl)) ss_nil)
    (ss_cons (ss_if (st_not (st_ch (op_vLe c.u0) vOrd_ok vOrd_flag (op_vLt c.u0) vOrd_ok (se_v 2) (se_ix c.u1 (se_v 3) se_int) (se_add (se_v 0) (sx_con rfl T.con_WINDOW)))) (ss_one (ss_ret se_bl)) ss_nil)
    (ss_one (ss_set (i := 2) c.xi c.nd rfl (by first | exact Or.inl rfl | exact Or.inr rfl) (se_add (se_ix c.u1 (se_v 3) se_int) se_int))))))
    (ss_one (ss_ret se_bl)))))

/-! ### is_incoming_state -/
def g_is_incoming_state_s : En → Store → Res := (sRet (eAnd (eCall g_is_pair (aCons (eV 0) aNil)) (eAnd (eCall g_is_link_number (aCons (eB2 vIx (eV 0) (eC (.int 0))) aNil)) (eCall g_are_held (aCons (eB2 vIx (eV 0) (eC (.int 0))) (aCons (eB2 vIx (eV 0) (eC (.int 1))) aNil))))))
def g_is_incoming_state : Fn := fnB 1 1 g_is_incoming_state_s
theorem sc_is_incoming_state : FnScope ["thing"] ["thing"] (defScope s_is_incoming_state) := ⟨rfl, rfl, rfl, by decide +kernel, rfl, by decide +kernel, by decide +kernel⟩
theorem ok_is_incoming_state {f : Addr} {fd : FuncData} (T : Txt K mg) (F : FunS K "is_incoming_state" "is_incoming_state" s_is_incoming_state f fd) (hm : mg "is_incoming_state" = some (.ref f)) (h_is_pair : FnAt P w K mg base (YY K) 1 1 "is_pair" g_is_pair) (h_is_link_number : FnAt P w K mg base (YY K) 2 1 "is_link_number" g_is_link_number) (h_are_held : FnAt P w K mg base (YY K) 2 2 "are_held" g_are_held) : FnAt P w K mg base (YY K) 3 1 "is_incoming_state" g_is_incoming_state :=
  FnAt.of (k := 2) (g := g_is_incoming_state_s) F hm sc_is_incoming_state (fun _ _ _ _ _ _ us hl => match us, hl with | [_], _ => rfl) rfl fun cdv A outer s H E c =>
    (ss_one (ss_ret (se_and (sx_call c h_is_pair (by omega) rfl (sa_cons (se_v 0) sa_nil)) (se_and (sx_call c h_is_link_number (by omega) rfl (sa_cons (se_ix c.u1 (se_v 0) se_int) sa_nil)) (se_one (sx_call c h_are_held (by omega) rfl (sa_cons (se_ix c.u1 (se_v 0) se_int) (sa_cons (se_ix c.u1 (se_v 0) se_int) sa_nil))))))))

/-! ### incoming_of -/
def g_incoming_of_s : En → Store → Res := (sSeq (sIf (bNot (bV (eCall g_is_incoming_state (aCons (eV 0) aNil)))) (sRaise0 "NoState") sNil) (sSeq (sSet 1 (eCall (fMake "Incoming" g_Incoming_init) aNil)) (sSeq (sFldS ["Incoming"] "many_taken" (eB2 vIx (eV 0) (eC (.int 0))) (eV 1)) (sSeq (sFldS ["Incoming"] "ahead" (eDc false (iSeq (eB2 vIx (eV 0) (eC (.int 1)))) (gT 2 (gCo (gN 2) (gCo (gN 3) gNo))) bYes (eV 2) (eV 3) [2, 3]) (eV 1)) (sRet (eV 1))))))
def g_incoming_of : Fn := fnB 4 1 g_incoming_of_s
theorem sc_incoming_of : FnScope ["state", "end", "number", "thing"] ["state"] (defScope s_incoming_of) := ⟨rfl, rfl, rfl, by decide +kernel, rfl, by decide +kernel, by decide +kernel⟩
theorem ok_incoming_of {f : Addr} {fd : FuncData} (T : Txt K mg) (F : FunS K "incoming_of" "incoming_of" s_incoming_of f fd) (hm : mg "incoming_of" = some (.ref f)) (h_is_incoming_state : FnAt P w K mg base (YY K) 3 1 "is_incoming_state" g_is_incoming_state) (h_NoState : Er0At P w K mg base (YY K) "NoState") (h_Incoming : MkAt P w K mg base (YY K) 1 1 "Incoming" g_Incoming_init) : FnAt P w K mg base (YY K) 4 1 "incoming_of" g_incoming_of :=
  FnAt.of (k := 3) (g := g_incoming_of_s) F hm sc_incoming_of (fun _ _ _ _ _ _ us hl => match us, hl with | [_], _ => rfl) rfl fun cdv A outer s H E c =>
    (ss_cons (ss_if (st_not (st_val (sx_call c h_is_incoming_state (by omega) rfl (sa_cons (se_v 0) sa_nil)))) (ss_one (sx_raise0 c h_NoState (by omega) rfl)) ss_nil)
    (ss_cons (ss_set (i := 1) c.xi c.nd rfl (by first | exact Or.inl rfl | exact Or.inr rfl) (sx_make0 c h_Incoming (by omega) rfl))
    (ss_cons (ss_fld T.kls T.nf_many_taken (se_v 1) (se_ix c.u1 (se_v 0) se_int))
    (ss_cons (ss_fld T.kls T.nf_ahead (se_v 1) (se_dc false c (si_seq (se_ix c.u1 (se_v 0) se_int)) (own := [("number", 2), ("thing", 3)]) (blk_ok (N := ["state", "end", "number", "thing"]) (sc := defScope s_incoming_of) rfl rfl rfl (by decide +kernel)) (by decide) (fun _ _ _ _ _ c' => (sg_tup c'.calm (sgs_cons (sg_name (i := 2) c'.xi c'.nd rfl (by first | exact Or.inl rfl | exact Or.inr rfl)) (sgs_cons (sg_name (i := 3) c'.xi c'.nd rfl (by first | exact Or.inl rfl | exact Or.inr rfl)) sgs_nil)))) (fun _ _ _ _ _ c' => sp_nil) (fun _ _ _ _ _ c' => (se_v 2)) (fun _ _ _ _ _ c' => (se_v 3))))
    (ss_one (ss_ret (se_v 1)))))))

/-! ### _law_hand -/
def g_law_hand_s : En → Store → Res := (sRet (eLst (aCons (eCall fList (aCons (eV 0) aNil)) (aCons (eC (.int 0)) (aCons (eC (.int 0)) (aCons (eC (.int 1)) (aCons (eC (.int 0)) aNil)))))))
def g_law_hand : Fn := fnB 1 1 g_law_hand_s
theorem sc_law_hand : FnScope ["_law_script"] ["_law_script"] (defScope s_law_hand) := ⟨rfl, rfl, rfl, by decide +kernel, rfl, by decide +kernel, by decide +kernel⟩
theorem ok_law_hand {f : Addr} {fd : FuncData} (T : Txt K mg) (F : FunS K "_law_hand" "_law_hand" s_law_hand f fd) (hm : mg "_law_hand" = some (.ref f)) : FnAt P w K mg base (YY K) 1 1 "_law_hand" g_law_hand :=
  FnAt.of (k := 0) (g := g_law_hand_s) F hm sc_law_hand (fun _ _ _ _ _ _ us hl => match us, hl with | [_], _ => rfl) rfl fun cdv A outer s H E c =>
    (ss_one (ss_ret (se_lst (sa_cons (se_list rfl T.b_list (sa_cons (se_v 0) sa_nil)) (sa_cons se_int (sa_cons se_int (sa_cons se_int (sa_cons se_int sa_nil))))))))

/-! ### _law_take -/
def g_law_take_s : En → Store → Res := (sSeq (sPutIx (eB2 vAdd (eB2 vIx (eV 0) (eC (.int 4))) (eC (.int 1))) (eV 0) (eC (.int 4))) (sSeq (sIf (bAnd (bV (eB2 vEq (eB2 vIx (eV 0) (eC (.int 2))) (eC (.int 0)))) (bV (eB2 vLt (eB2 vIx (eV 0) (eC (.int 1))) (eCall fLen (aCons (eB2 vIx (eV 0) (eC (.int 0))) aNil))))) (sSeq (sSet 2 (eCall fInt (aCons (eB2 vIx (eB2 vIx (eV 0) (eC (.int 0))) (eB2 vIx (eV 0) (eC (.int 1)))) aNil))) (sSeq (sPutIx (eB2 vAdd (eB2 vIx (eV 0) (eC (.int 1))) (eC (.int 1))) (eV 0) (eC (.int 1))) (sIf (bV (eB2 vGe (eV 2) (eB2 vPow (eC (.int 10)) (eC (.int 18))))) (sPutIx (eV 2) (eV 0) (eC (.int 2))) (sPutIx (eB2 vMod (eCall fInt (aCons (eB2 vAdd (eB2 vAdd (eB2 vMul (eB2 vIx (eV 0) (eC (.int 3))) (eC (.int 48271))) (eB2 vMod (eCall fInt (aCons (eV 2) aNil)) (eC (.int 2147483647)))) (eC (.int 1))) aNil)) (eC (.int 2147483647))) (eV 0) (eC (.int 3)))))) sNil) (sSeq (sIf (bV (eB2 vGt (eB2 vIx (eV 0) (eC (.int 2))) (eC (.int 0)))) (sSeq (sSet 3 (eB2 vMod (eCall fInt (aCons (eB2 vIx (eV 0) (eC (.int 2))) aNil)) (eV 1))) (sSeq (sPutIx (eB2 vFdiv (eCall fInt (aCons (eB2 vIx (eV 0) (eC (.int 2))) aNil)) (eV 1)) (eV 0) (eC (.int 2))) (sRet (eV 3)))) sNil) (sSeq (sPutIx (eB2 vMod (eCall fInt (aCons (eB2 vAdd (eB2 vMul (eB2 vIx (eV 0) (eC (.int 3))) (eC (.int 69621))) (eB2 vMul (eC (.int 7919)) (eB2 vIx (eV 0) (eC (.int 4))))) aNil)) (eC (.int 2147483647))) (eV 0) (eC (.int 3))) (sSeq (sSet 4 (eB2 vMod (eCall fInt (aCons (eB2 vMul (eB2 vIx (eV 0) (eC (.int 3))) (eB2 vAdd (eB2 vFdiv (eB2 vIx (eV 0) (eC (.int 3))) (eC (.int 1009))) (eC (.int 69621)))) aNil)) (eC (.int 2147483647)))) (sSeq (sSet 4 (eB2 vMod (eCall fInt (aCons (eB2 vMul (eV 4) (eB2 vAdd (eB2 vFdiv (eV 4) (eC (.int 2003))) (eC (.int 40692)))) aNil)) (eC (.int 2147483399)))) (sRet (eB2 vMod (eCall fInt (aCons (eB2 vFdiv (eV 4) (eC (.int 16))) aNil)) (eV 1)))))))))
def g_law_take : Fn := fnB 5 2 g_law_take_s
theorem sc_law_take : FnScope ["_law_hand_here", "_law_many", "_law_cell", "_law_found", "_law_number"] ["_law_hand_here", "_law_many"] (defScope s_law_take) := ⟨rfl, rfl, rfl, by decide +kernel, rfl, by decide +kernel, by decide +kernel⟩
theorem ok_law_take {f : Addr} {fd : FuncData} (T : Txt K mg) (F : FunS K "_law_take" "_law_take" s_law_take f fd) (hm : mg "_law_take" = some (.ref f)) : FnAt P w K mg base (YY K) 1 2 "_law_take" g_law_take :=
  FnAt.of (k := 0) (g := g_law_take_s) F hm sc_law_take (fun _ _ _ _ _ _ us hl => match us, hl with | [_, _], _ => rfl) rfl fun cdv A outer s H E c =>
    (ss_cons (ss_putIx c.u1 (se_add (se_ix c.u1 (se_v 0) se_int) se_int) (se_v 0) se_int)
    (ss_cons (ss_if (SW.st (sw_and (st_eq c.u64 (se_ix c.u1 (se_v 0) se_int) se_int) (sw_and1 (st_lt c.u0 (se_ix c.u1 (se_v 0) se_int) (se_len rfl T.b_len (sa_cons (se_ix c.u1 (se_v 0) se_int) sa_nil)))))) (ss_cons (ss_set (i := 2) c.xi c.nd rfl (by first | exact Or.inl rfl | exact Or.inr rfl) (se_int1 rfl T.b_int (sa_cons (se_ix c.u1 (se_ix c.u1 (se_v 0) se_int) (se_ix c.u1 (se_v 0) se_int)) sa_nil)))
    (ss_cons (ss_putIx c.u1 (se_add (se_ix c.u1 (se_v 0) se_int) se_int) (se_v 0) se_int)
    (ss_one (ss_if (st_ge (se_v 2) (se_pow se_int se_int)) (ss_one (ss_putIx c.u1 (se_v 2) (se_v 0) se_int)) (ss_one (ss_putIx c.u1 (se_mod (se_int1 rfl T.b_int (sa_cons (se_add (se_add (se_mul (se_ix c.u1 (se_v 0) se_int) se_int) (se_mod (se_int1 rfl T.b_int (sa_cons (se_v 2) sa_nil)) se_int)) se_int) sa_nil)) se_int) (se_v 0) se_int)))))) ss_nil)
    (ss_cons (ss_if (st_gt c.u0 (se_ix c.u1 (se_v 0) se_int) se_int) (ss_cons (ss_set (i := 3) c.xi c.nd rfl (by first | exact Or.inl rfl | exact Or.inr rfl) (se_mod (se_int1 rfl T.b_int (sa_cons (se_ix c.u1 (se_v 0) se_int) sa_nil)) (se_v 1)))
    (ss_cons (ss_putIx c.u1 (se_fdiv (se_int1 rfl T.b_int (sa_cons (se_ix c.u1 (se_v 0) se_int) sa_nil)) (se_v 1)) (se_v 0) se_int)
    (ss_one (ss_ret (se_v 3))))) ss_nil)
    (ss_cons (ss_putIx c.u1 (se_mod (se_int1 rfl T.b_int (sa_cons (se_add (se_mul (se_ix c.u1 (se_v 0) se_int) se_int) (se_mul se_int (se_ix c.u1 (se_v 0) se_int))) sa_nil)) se_int) (se_v 0) se_int)
    (ss_cons (ss_set (i := 4) c.xi c.nd rfl (by first | exact Or.inl rfl | exact Or.inr rfl) (se_mod (se_int1 rfl T.b_int (sa_cons (se_mul (se_ix c.u1 (se_v 0) se_int) (se_add (se_fdiv (se_ix c.u1 (se_v 0) se_int) se_int) se_int)) sa_nil)) se_int))
    (ss_cons (ss_set (i := 4) c.xi c.nd rfl (by first | exact Or.inl rfl | exact Or.inr rfl) (se_mod (se_int1 rfl T.b_int (sa_cons (se_mul (se_v 4) (se_add (se_fdiv (se_v 4) se_int) se_int)) sa_nil)) se_int))
    (ss_one (ss_ret (se_mod (se_int1 rfl T.b_int (sa_cons (se_fdiv (se_v 4) se_int) sa_nil)) (se_v 1))))))))))

/-! ### _law_pick -/
def g_law_pick_s : En → Store → Res := (sRet (eB2 vIx (eV 1) (eCall g_law_take (aCons (eV 0) (aCons (eCall fLen (aCons (eV 1) aNil)) aNil)))))
def g_law_pick : Fn := fnB 2 2 g_law_pick_s
theorem sc_law_pick : FnScope ["_law_hand_here", "_law_things"] ["_law_hand_here", "_law_things"] (defScope s_law_pick) := ⟨rfl, rfl, rfl, by decide +kernel, rfl, by decide +kernel, by decide +kernel⟩
theorem ok_law_pick {f : Addr} {fd : FuncData} (T : Txt K mg) (F : FunS K "_law_pick" "_law_pick" s_law_pick f fd) (hm : mg "_law_pick" = some (.ref f)) (h_law_take : FnAt P w K mg base (YY K) 1 2 "_law_take" g_law_take) : FnAt P w K mg base (YY K) 2 2 "_law_pick" g_law_pick :=
  FnAt.of (k := 1) (g := g_law_pick_s) F hm sc_law_pick (fun _ _ _ _ _ _ us hl => match us, hl with | [_, _], _ => rfl) rfl fun cdv A outer s H E c =>
    (ss_one (ss_ret (se_ix c.u1 (se_v 1) (sx_call c h_law_take (by omega) rfl (sa_cons (se_v 0) (sa_cons (se_len rfl T.b_len (sa_cons (se_v 1) sa_nil)) sa_nil))))))

/-! ### _law_is_integer -/
def g_law_is_integer_s : En → Store → Res := (sRet (eAnd (eIsT "int" (eV 0)) (eNot (eIsT "bool" (eV 0)))))
def g_law_is_integer : Fn := fnB 1 1 g_law_is_integer_s
theorem sc_law_is_integer : FnScope ["_law_thing_here"] ["_law_thing_here"] (defScope s_law_is_integer) := ⟨rfl, rfl, rfl, by decide +kernel, rfl, by decide +kernel, by decide +kernel⟩
theorem ok_law_is_integer {f : Addr} {fd : FuncData} (T : Txt K mg) (F : FunS K "_law_is_integer" "_law_is_integer" s_law_is_integer f fd) (hm : mg "_law_is_integer" = some (.ref f)) : FnAt P w K mg base (YY K) 1 1 "_law_is_integer" g_law_is_integer :=
  FnAt.of (k := 0) (g := g_law_is_integer_s) F hm sc_law_is_integer (fun _ _ _ _ _ _ us hl => match us, hl with | [_], _ => rfl) rfl fun cdv A outer s H E c =>
    (ss_one (ss_ret (se_and (se_isT (T := "int") (by decide +kernel) rfl T.b_isinstance rfl T.b_int (by decide +kernel) (se_v 0)) (se_one (se_not (se_isT (T := "bool") (by decide +kernel) rfl T.b_isinstance rfl T.b_bool (by decide +kernel) (se_v 0)))))))

/-! ### _law_same -/
def g_law_same_b1 (rec : Fn) : En → Store → Res := (sIf (bNot (bV (eCall rec (aCons (eV 2) (aCons (eV 3) aNil))))) (sRet (eC (.bl false))) sNil)
def g_law_same_s (rec : Fn) : En → Store → Res := (sSeq (sIf (bV (eB2 vIs (eV 1) (eC .non))) (sRet (eB2 vIs (eV 0) (eC .non))) sNil) (sSeq (sIf (bV (eB2 vIs (eV 1) (eC (.bl true)))) (sRet (eB2 vIs (eV 0) (eC (.bl true)))) sNil) (sSeq (sIf (bV (eB2 vIs (eV 1) (eC (.bl false)))) (sRet (eB2 vIs (eV 0) (eC (.bl false)))) sNil) (sSeq (sIf (bV (eIsT "int" (eV 1))) (sRet (eAnd (eCall g_law_is_integer (aCons (eV 0) aNil)) (eB2 vEq (eV 0) (eV 1)))) sNil) (sSeq (sIf (bV (eIsT "str" (eV 1))) (sRet (eAnd (eIsT "str" (eV 0)) (eB2 vEq (eV 0) (eV 1)))) sNil) (sSeq (sIf (bOr (bV (eB2 vNe (eIsT "tuple" (eV 1)) (eIsT "tuple" (eV 0)))) (bV (eB2 vNe (eIsT "list" (eV 1)) (eIsT "list" (eV 0))))) (sRet (eC (.bl false))) sNil) (sSeq (sIf (bV (eB2 vNe (eCall fLen (aCons (eV 0) aNil)) (eCall fLen (aCons (eV 1) aNil)))) (sRet (eC (.bl false))) sNil) (sSeq (sFor (iZip2 (aCons (eV 0) (aCons (eV 1) aNil))) (gT 2 (gCo (gN 2) (gCo (gN 3) gNo))) (g_law_same_b1 rec)) (sRet (eC (.bl true)))))))))))
def g_law_same : Nat → Fn
  | 0 => fun _ _ => .bad
  | d + 1 => fnB 4 2 (g_law_same_s (g_law_same d))
theorem sc_law_same : FnScope ["_law_actual", "_law_due", "_law_one", "_law_other"] ["_law_actual", "_law_due"] (defScope s_law_same) := ⟨rfl, rfl, rfl, by decide +kernel, rfl, by decide +kernel, by decide +kernel⟩
theorem ok_law_same_step {f : Addr} {fd : FuncData} {rec : Fn} {kk : Nat} (T : Txt K mg) (F : FunS K "_law_same" "_law_same" s_law_same f fd) (hm : mg "_law_same" = some (.ref f)) (h_law_is_integer : FnAt P w K mg base (YY K) 1 1 "_law_is_integer" g_law_is_integer) (hkk : 1 ≤ kk) (ih : FnAt P w K mg base (YY K) kk 2 "_law_same" rec) : FnAt P w K mg base (YY K) (kk + 1) 2 "_law_same" (fnB 4 2 (g_law_same_s rec)) :=
  FnAt.of (k := kk) (g := g_law_same_s rec) F hm sc_law_same (fun _ _ _ _ _ _ us hl => match us, hl with | [_, _], _ => rfl) rfl fun cdv A outer s H E c =>
    (ss_cons (ss_if (st_is (se_v 1) se_non) (ss_one (ss_ret (se_is (se_v 0) se_non))) ss_nil)
    (ss_cons (ss_if (st_is (se_v 1) se_bl) (ss_one (ss_ret (se_is (se_v 0) se_bl))) ss_nil)
    (ss_cons (ss_if (st_is (se_v 1) se_bl) (ss_one (ss_ret (se_is (se_v 0) se_bl))) ss_nil)
    (ss_cons (ss_if (st_val (se_isT (T := "int") (by decide +kernel) rfl T.b_isinstance rfl T.b_int (by decide +kernel) (se_v 1))) (ss_one (ss_ret (se_and (sx_call c h_law_is_integer (by omega) rfl (sa_cons (se_v 0) sa_nil)) (se_one (se_eq c.u64 (se_v 0) (se_v 1)))))) ss_nil)
    (ss_cons (ss_if (st_val (se_isT (T := "str") (by decide +kernel) rfl T.b_isinstance rfl T.b_str (by decide +kernel) (se_v 1))) (ss_one (ss_ret (se_and (se_isT (T := "str") (by decide +kernel) rfl T.b_isinstance rfl T.b_str (by decide +kernel) (se_v 0)) (se_one (se_eq c.u64 (se_v 0) (se_v 1)))))) ss_nil)
    (ss_cons (ss_if (SW.st (sw_or (st_ne c.u64 (se_isT (T := "tuple") (by decide +kernel) rfl T.b_isinstance rfl T.b_tuple (by decide +kernel) (se_v 1)) (se_isT (T := "tuple") (by decide +kernel) rfl T.b_isinstance rfl T.b_tuple (by decide +kernel) (se_v 0))) (sw_or1 (st_ne c.u64 (se_isT (T := "list") (by decide +kernel) rfl T.b_isinstance rfl T.b_list (by decide +kernel) (se_v 1)) (se_isT (T := "list") (by decide +kernel) rfl T.b_isinstance rfl T.b_list (by decide +kernel) (se_v 0)))))) (ss_one (ss_ret se_bl)) ss_nil)
    (ss_cons (ss_if (st_ne c.u64 (se_len rfl T.b_len (sa_cons (se_v 0) sa_nil)) (se_len rfl T.b_len (sa_cons (se_v 1) sa_nil))) (ss_one (ss_ret se_bl)) ss_nil)
    (ss_cons (ss_for c.hp c.calm (si_zip rfl T.b_zip (sa_cons (se_v 0) (sa_cons (se_v 1) sa_nil))) (sg_tup c.calm (sgs_cons (sg_name (i := 2) c.xi c.nd rfl (by first | exact Or.inl rfl | exact Or.inr rfl)) (sgs_cons (sg_name (i := 3) c.xi c.nd rfl (by first | exact Or.inl rfl | exact Or.inr rfl)) sgs_nil))) (ss_one (ss_if (st_not (st_val (sx_call c ih (by omega) rfl (sa_cons (se_v 2) (sa_cons (se_v 3) sa_nil))))) (ss_one (ss_ret se_bl)) ss_nil)))
    (ss_one (ss_ret se_bl))))))))))
theorem ok_law_same {f : Addr} {fd : FuncData} (T : Txt K mg) (F : FunS K "_law_same" "_law_same" s_law_same f fd) (hm : mg "_law_same" = some (.ref f)) (h_law_is_integer : FnAt P w K mg base (YY K) 1 1 "_law_is_integer" g_law_is_integer) : ∀ d, FnAt P w K mg base (YY K) (2 + d) 2 "_law_same" (g_law_same d)
  | 0 => FnAt.none F hm (ps := ["_law_actual", "_law_due"]) (fun _ _ _ _ _ _ us hl => match us, hl with | [_, _], _ => rfl) rfl
  | d + 1 => ok_law_same_step (kk := 2 + d) T F hm h_law_is_integer (by omega) (ok_law_same T F hm h_law_is_integer d)

/-! ### _law_item -/
def g_law_item_e1 (rec : Fn) : En → Store → Out Val := (eCall rec (aCons (eV 0) (aCons (eB2 vSub (eV 1) (eC (.int 1))) aNil)))
def g_law_item_s (rec : Fn) : En → Store → Res := (sSeq (sSet 2 (eCall g_law_take (aCons (eV 0) (aCons (eC (.int 8)) aNil)))) (sSeq (sIf (bAnd (bV (eB2 vEq (eV 2) (eC (.int 0)))) (bV (eB2 vGt (eV 1) (eC (.int 0))))) (sRet (eCall fTuple (aCons (eLc (iR1 (aCons (eCall g_law_take (aCons (eV 0) (aCons (eC (.int 3)) aNil))) aNil)) (gN 3) bYes (g_law_item_e1 rec) [3]) aNil))) sNil) (sSeq (sIf (bV (eB2 vLt (eV 2) (eC (.int 3)))) (sRet (eB2 vIx (eLst (aCons (eC .non) (aCons (eC (.bl true)) (aCons (eC (.bl false)) (aCons (eC (.str "")) (aCons (eC (.str "task")) (aCons (eC (.str "answer")) aNil))))))) (eCall g_law_take (aCons (eV 0) (aCons (eC (.int 6)) aNil))))) sNil) (sRet (eCall g_law_pick (aCons (eV 0) (aCons (eLst (aCons (eCall g_law_take (aCons (eV 0) (aCons (eC (.int 9)) aNil))) (aCons (eCall g_law_take (aCons (eV 0) (aCons (eB2 vPow (eC (.int 10)) (eC (.int 6))) aNil))) (aCons (eB2 vSub (eNeg (eC (.int 1))) (eCall g_law_take (aCons (eV 0) (aCons (eC (.int 9)) aNil)))) (aCons (eB2 vPow (eC (.int 10)) (eC (.int 19))) aNil))))) aNil)))))))
def g_law_item : Nat → Fn
  | 0 => fun _ _ => .bad
  | d + 1 => fnB 4 2 (g_law_item_s (g_law_item d))
theorem sc_law_item : FnScope ["_law_hand_here", "_law_deep", "_law_way", "_law_k"] ["_law_hand_here", "_law_deep"] (defScope s_law_item) := ⟨rfl, rfl, rfl, by decide +kernel, rfl, by decide +kernel, by decide +kernel⟩
theorem ok_law_item_step {f : Addr} {fd : FuncData} {rec : Fn} {kk : Nat} (T : Txt K mg) (F : FunS K "_law_item" "_law_item" s_law_item f fd) (hm : mg "_law_item" = some (.ref f)) (h_law_take : FnAt P w K mg base (YY K) 1 2 "_law_take" g_law_take) (h_law_pick : FnAt P w K mg base (YY K) 2 2 "_law_pick" g_law_pick) (hkk : 2 ≤ kk) (ih : FnAt P w K mg base (YY K) kk 2 "_law_item" rec) : FnAt P w K mg base (YY K) (kk + 1) 2 "_law_item" (fnB 4 2 (g_law_item_s rec)) :=
  FnAt.of (k := kk) (g := g_law_item_s rec) F hm sc_law_item (fun _ _ _ _ _ _ us hl => match us, hl with | [_, _], _ => rfl) rfl fun cdv A outer s H E c =>
    (ss_cons (ss_set (i := 2) c.xi c.nd rfl (by first | exact Or.inl rfl | exact Or.inr rfl) (sx_call c h_law_take (by omega) rfl (sa_cons (se_v 0) (sa_cons se_int sa_nil))))
    (ss_cons (ss_if (SW.st (sw_and (st_eq c.u64 (se_v 2) se_int) (sw_and1 (st_gt c.u0 (se_v 1) se_int)))) (ss_one (ss_ret (se_tuple rfl T.b_tuple (sa_cons (se_lc c (si_r1 rfl T.b_range (sa_cons (sx_call c h_law_take (by omega) rfl (sa_cons (se_v 0) (sa_cons se_int sa_nil))) sa_nil)) (own := [("_law_k", 3)]) (blk_ok (N := ["_law_hand_here", "_law_deep", "_law_way", "_law_k"]) (sc := defScope s_law_item) rfl rfl rfl (by decide +kernel)) (by decide) (fun _ _ _ _ _ c' => (sg_name (i := 3) c'.xi c'.nd rfl (by first | exact Or.inl rfl | exact Or.inr rfl))) (fun _ _ _ _ _ c' => sp_nil) (fun _ _ _ _ _ c' => (sx_call c' ih (by omega) rfl (sa_cons (se_v 0) (sa_cons (se_sub (se_v 1) se_int) sa_nil))))) sa_nil)))) ss_nil)
    (ss_cons (ss_if (st_lt c.u0 (se_v 2) se_int) (ss_one (ss_ret (se_ix c.u1 (se_lst (sa_cons se_non (sa_cons se_bl (sa_cons se_bl (sa_cons se_str (sa_cons se_str (sa_cons se_str sa_nil))))))) (sx_call c h_law_take (by omega) rfl (sa_cons (se_v 0) (sa_cons se_int sa_nil)))))) ss_nil)
    (ss_one (ss_ret (sx_call c h_law_pick (by omega) rfl (sa_cons (se_v 0) (sa_cons (se_lst (sa_cons (sx_call c h_law_take (by omega) rfl (sa_cons (se_v 0) (sa_cons se_int sa_nil))) (sa_cons (sx_call c h_law_take (by omega) rfl (sa_cons (se_v 0) (sa_cons (se_pow se_int se_int) sa_nil))) (sa_cons (se_sub (se_neg se_int) (sx_call c h_law_take (by omega) rfl (sa_cons (se_v 0) (sa_cons se_int sa_nil)))) (sa_cons (se_pow se_int se_int) sa_nil))))) sa_nil))))))))
theorem ok_law_item {f : Addr} {fd : FuncData} (T : Txt K mg) (F : FunS K "_law_item" "_law_item" s_law_item f fd) (hm : mg "_law_item" = some (.ref f)) (h_law_take : FnAt P w K mg base (YY K) 1 2 "_law_take" g_law_take) (h_law_pick : FnAt P w K mg base (YY K) 2 2 "_law_pick" g_law_pick) : ∀ d, FnAt P w K mg base (YY K) (3 + d) 2 "_law_item" (g_law_item d)
  | 0 => FnAt.none F hm (ps := ["_law_hand_here", "_law_deep"]) (fun _ _ _ _ _ _ us hl => match us, hl with | [_, _], _ => rfl) rfl
  | d + 1 => ok_law_item_step (kk := 3 + d) T F hm h_law_take h_law_pick (by omega) (ok_law_item T F hm h_law_take h_law_pick d)

/-! ### _law_thing -/
def g_law_thing_e1 : En → Store → Out Val := (eCall (g_law_item 5) (aCons (eV 0) (aCons (eC (.int 3)) aNil)))
def g_law_thing_s : En → Store → Res := (sRet (eCall fTuple (aCons (eLc (iR1 (aCons (eCall g_law_take (aCons (eV 0) (aCons (eC (.int 4)) aNil))) aNil)) (gN 1) bYes g_law_thing_e1 [1]) aNil)))
def g_law_thing : Fn := fnB 2 1 g_law_thing_s
theorem sc_law_thing : FnScope ["_law_hand_here", "_law_k"] ["_law_hand_here"] (defScope s_law_thing) := ⟨rfl, rfl, rfl, by decide +kernel, rfl, by decide +kernel, by decide +kernel⟩
theorem ok_law_thing {f : Addr} {fd : FuncData} (T : Txt K mg) (F : FunS K "_law_thing" "_law_thing" s_law_thing f fd) (hm : mg "_law_thing" = some (.ref f)) (h_law_take : FnAt P w K mg base (YY K) 1 2 "_law_take" g_law_take) (h_law_item : FnAt P w K mg base (YY K) 8 2 "_law_item" (g_law_item 5)) : FnAt P w K mg base (YY K) 9 1 "_law_thing" g_law_thing :=
  FnAt.of (k := 8) (g := g_law_thing_s) F hm sc_law_thing (fun _ _ _ _ _ _ us hl => match us, hl with | [_], _ => rfl) rfl fun cdv A outer s H E c =>
    (ss_one (ss_ret (se_tuple rfl T.b_tuple (sa_cons (se_lc c (si_r1 rfl T.b_range (sa_cons (sx_call c h_law_take (by omega) rfl (sa_cons (se_v 0) (sa_cons se_int sa_nil))) sa_nil)) (own := [("_law_k", 1)]) (blk_ok (N := ["_law_hand_here", "_law_k"]) (sc := defScope s_law_thing) rfl rfl rfl (by decide +kernel)) (by decide) (fun _ _ _ _ _ c' => (sg_name (i := 1) c'.xi c'.nd rfl (by first | exact Or.inl rfl | exact Or.inr rfl))) (fun _ _ _ _ _ c' => sp_nil) (fun _ _ _ _ _ c' => (sx_call c' h_law_item (by omega) rfl (sa_cons (se_v 0) (sa_cons se_int sa_nil))))) sa_nil))))

/-! ### _law_heard -/
def g_law_heard_b1 : En → Store → Res := (sSeq (sIf (bV (eB2 (vIn true) (eB2 vIx (eV 0) (eC (.str "taken"))) (eB2 vIx (eV 0) (eC (.str "held"))))) sBrk sNil) (sSeq (sExpr (eLm lAppend (eV 4) (aCons (eDPop (eB2 vIx (eV 0) (eC (.str "held"))) (eB2 vIx (eV 0) (eC (.str "taken")))) aNil))) (sPutIx (eB2 vAdd (eB2 vIx (eV 0) (eC (.str "taken"))) (eC (.int 1))) (eV 0) (eC (.str "taken")))))
def g_law_heard_s : En → Store → Res := (sSeq (sIf (bAnd (bV (eB2 vLe (eB2 vIx (eV 0) (eC (.str "taken"))) (eV 1))) (bAnd (bV (eB2 vLt (eV 1) (eB2 vAdd (eB2 vIx (eV 0) (eC (.str "taken"))) (eC (.int 1000))))) (bV (eB2 (vIn true) (eV 1) (eB2 vIx (eV 0) (eC (.str "held"))))))) (sSeq (sSet 3 (eB2 vIx (eV 0) (eC (.str "held")))) (sPutIx (eV 2) (eV 3) (eV 1))) sNil) (sSeq (sSet 4 (eLst aNil)) (sSeq (sFor (iR1 (aCons (eB2 vAdd (eCall fLen (aCons (eB2 vIx (eV 0) (eC (.str "held"))) aNil)) (eC (.int 1))) aNil)) (gN 5) g_law_heard_b1) (sRet (eV 4)))))
def g_law_heard : Fn := fnB 6 3 g_law_heard_s
theorem sc_law_heard : FnScope ["_law_mind", "_law_number", "_law_thing_here", "_law_held", "_law_found", "_law_k"] ["_law_mind", "_law_number", "_law_thing_here"] (defScope s_law_heard) := ⟨rfl, rfl, rfl, by decide +kernel, rfl, by decide +kernel, by decide +kernel⟩
theorem ok_law_heard {f : Addr} {fd : FuncData} (T : Txt K mg) (F : FunS K "_law_heard" "_law_heard" s_law_heard f fd) (hm : mg "_law_heard" = some (.ref f)) : FnAt P w K mg base (YY K) 1 3 "_law_heard" g_law_heard :=
  FnAt.of (k := 0) (g := g_law_heard_s) F hm sc_law_heard (fun _ _ _ _ _ _ us hl => match us, hl with | [_, _, _], _ => rfl) rfl fun cdv A outer s H E c =>
    (ss_cons (ss_if (SW.st (sw_and (st_le c.u0 (se_ix c.u1 (se_v 0) se_str) (se_v 1)) (sw_and (st_lt c.u0 (se_v 1) (se_add (se_ix c.u1 (se_v 0) se_str) se_int)) (sw_and1 (st_notIn c.u65 (se_v 1) (se_ix c.u1 (se_v 0) se_str)))))) (ss_cons (ss_set (i := 3) c.xi c.nd rfl (by first | exact Or.inl rfl | exact Or.inr rfl) (se_ix c.u1 (se_v 0) se_str))
    (ss_one (ss_putIx c.u1 (se_v 2) (se_v 3) (se_v 1)))) ss_nil)
    (ss_cons (ss_set (i := 4) c.xi c.nd rfl (by first | exact Or.inl rfl | exact Or.inr rfl) (se_lst sa_nil))
    (ss_cons (ss_for c.hp c.calm (si_r1 rfl T.b_range (sa_cons (se_add (se_len rfl T.b_len (sa_cons (se_ix c.u1 (se_v 0) se_str) sa_nil)) se_int) sa_nil)) (sg_name (i := 5) c.xi c.nd rfl (by first | exact Or.inl rfl | exact Or.inr rfl)) (ss_cons (ss_if (st_notIn c.u65 (se_ix c.u1 (se_v 0) se_str) (se_ix c.u1 (se_v 0) se_str)) (ss_one ss_break) ss_nil)
    (ss_cons (ss_expr (se_append (se_v 4) (sa_cons (se_dpop (se_ix c.u1 (se_v 0) se_str) (se_ix c.u1 (se_v 0) se_str) ⟨rfl, rfl, rfl, rfl⟩) sa_nil)))
    (ss_one (ss_putIx c.u1 (se_add (se_ix c.u1 (se_v 0) se_str) se_int) (se_v 0) se_str)))))
    (ss_one (ss_ret (se_v 4))))))

/-! ### _law_ends_right -/
def g_law_ends_right_e1 : En → Store → Out Val := (eTup (aCons (eB2 vAdd (eV 3) (eV 6)) (aCons (eB2 vIx (eV 2) (eB2 vAdd (eV 3) (eV 6))) aNil)))
def g_law_ends_right_s : En → Store → Res := (sSeq (sSet 5 (eLc (iR1 (aCons (eB2 vSub (eCall fLen (aCons (eV 2) aNil)) (eV 3)) aNil)) (gN 6) bYes g_law_ends_right_e1 [6])) (sSeq (sIf (bOr (bNot (bV (eCall (g_law_same 20) (aCons (eMeth "waiting" [("Outgoing", g_Outgoing_waiting)] (eV 0) aNil) (aCons (eV 5) aNil))))) (bNot (bV (eCall (g_law_same 20) (aCons (eMeth "many_put" [("Outgoing", g_Outgoing_many_put)] (eV 0) aNil) (aCons (eCall fLen (aCons (eV 2) aNil)) aNil)))))) (sRet (eC (.bl false))) sNil) (sRet (eAnd (eCall (g_law_same 20) (aCons (eMeth "taken" [("Incoming", g_Incoming_taken)] (eV 1) aNil) (aCons (eB2 vIx (eV 4) (eC (.str "taken"))) aNil))) (eCall (g_law_same 20) (aCons (eMeth "held" [("Incoming", g_Incoming_held)] (eV 1) aNil) (aCons (eCall fTuple (aCons (eCall fSorted (aCons (eLKeysK (eB2 vIx (eV 4) (eC (.str "held")))) aNil)) aNil)) aNil)))))))
def g_law_ends_right : Fn := fnB 7 5 g_law_ends_right_s
theorem sc_law_ends_right : FnScope ["_law_out", "_law_end", "_law_things", "_law_gone", "_law_mind", "_law_waiting", "_law_k"] ["_law_out", "_law_end", "_law_things", "_law_gone", "_law_mind"] (defScope s_law_ends_right) := ⟨rfl, rfl, rfl, by decide +kernel, rfl, by decide +kernel, by decide +kernel⟩
theorem ok_law_ends_right {f : Addr} {fd : FuncData} (T : Txt K mg) (F : FunS K "_law_ends_right" "_law_ends_right" s_law_ends_right f fd) (hm : mg "_law_ends_right" = some (.ref f)) (h_Outgoing_waiting : MeAt P w K mg base (YY K) 1 1 "Outgoing" "waiting" g_Outgoing_waiting) (h_law_same : FnAt P w K mg base (YY K) 22 2 "_law_same" (g_law_same 20)) (h_Outgoing_many_put : MeAt P w K mg base (YY K) 1 1 "Outgoing" "many_put" g_Outgoing_many_put) (h_Incoming_taken : MeAt P w K mg base (YY K) 1 1 "Incoming" "taken" g_Incoming_taken) (h_Incoming_held : MeAt P w K mg base (YY K) 1 1 "Incoming" "held" g_Incoming_held) : FnAt P w K mg base (YY K) 23 5 "_law_ends_right" g_law_ends_right :=
  FnAt.of (k := 22) (g := g_law_ends_right_s) F hm sc_law_ends_right (fun _ _ _ _ _ _ us hl => match us, hl with | [_, _, _, _, _], _ => rfl) rfl fun cdv A outer s H E c =>
    (ss_cons (ss_setLc (i := 5) c rfl rfl rfl (si_r1 rfl T.b_range (sa_cons (se_sub (se_len rfl T.b_len (sa_cons (se_v 2) sa_nil)) (se_v 3)) sa_nil)) (own := [("_law_k", 6)]) (blk_ok (N := ["_law_out", "_law_end", "_law_things", "_law_gone", "_law_mind", "_law_waiting", "_law_k"]) (sc := defScope s_law_ends_right) rfl rfl rfl (by decide +kernel)) (by decide) (fun _ _ _ _ _ c' => (sg_name (i := 6) c'.xi c'.nd rfl (by first | exact Or.inl rfl | exact Or.inr rfl))) (fun _ _ _ _ _ c' => sp_nil) (fun _ _ _ _ _ c' => (se_tup (sa_cons (se_add (se_v 3) (se_v 6)) (sa_cons (se_ix c'.u1 (se_v 2) (se_add (se_v 3) (se_v 6))) sa_nil)))))
    (ss_cons (ss_if (SW.st (sw_or (st_not (st_val (sx_call c h_law_same (by omega) rfl (sa_cons (se_meth0 (m := "waiting") (l := [("Outgoing", g_Outgoing_waiting)]) c T.kls (mel_cons h_Outgoing_waiting (by omega) mel_nil) (se_v 0)) (sa_cons (se_v 5) sa_nil))))) (sw_or1 (st_not (st_val (sx_call c h_law_same (by omega) rfl (sa_cons (se_meth0 (m := "many_put") (l := [("Outgoing", g_Outgoing_many_put)]) c T.kls (mel_cons h_Outgoing_many_put (by omega) mel_nil) (se_v 0)) (sa_cons (se_len rfl T.b_len (sa_cons (se_v 2) sa_nil)) sa_nil)))))))) (ss_one (ss_ret se_bl)) ss_nil)
    (ss_one (ss_ret (se_and (sx_call c h_law_same (by omega) rfl (sa_cons (se_meth0 (m := "taken") (l := [("Incoming", g_Incoming_taken)]) c T.kls (mel_cons h_Incoming_taken (by omega) mel_nil) (se_v 1)) (sa_cons (se_ix c.u1 (se_v 4) se_str) sa_nil))) (se_one (sx_call c h_law_same (by omega) rfl (sa_cons (se_meth0 (m := "held") (l := [("Incoming", g_Incoming_held)]) c T.kls (mel_cons h_Incoming_held (by omega) mel_nil) (se_v 1)) (sa_cons (se_tuple rfl T.b_tuple (sa_cons (se_sorted c.u66 rfl T.b_sorted (sa_cons (se_lkeysK c rfl T.b_list (se_ix c.u1 (se_v 4) se_str)) sa_nil)) sa_nil)) sa_nil)))))))))

/-! ### _law_deed -/
def g_law_deed_s : En → Store → Res := (sSeq (sSet 7 (eCall g_law_take (aCons (eV 0) (aCons (eC (.int 10)) aNil)))) (sSeq (sIf (bAnd (bV (eB2 vLt (eV 7) (eC (.int 3)))) (bV (eB2 vLt (eCall fLen (aCons (eV 3) aNil)) (eC (.int 30))))) (sSeq (sExpr (eLm lAppend (eV 3) (aCons (eCall g_law_thing (aCons (eV 0) aNil)) aNil))) (sRet (eTup (aCons (eCall (g_law_same 20) (aCons (eMeth "put" [("Outgoing", g_Outgoing_put)] (eV 1) (aCons (eB2 vIx (eV 3) (eNeg (eC (.int 1)))) aNil)) (aCons (eB2 vSub (eCall fLen (aCons (eV 3) aNil)) (eC (.int 1))) aNil))) (aCons (eV 4) aNil))))) sNil) (sSeq (sIf (bAnd (bV (eB2 vLt (eV 7) (eC (.int 8)))) (bV (eB2 vGt (eCall fLen (aCons (eV 3) aNil)) (eC (.int 0))))) (sSeq (sSet 8 (eCall g_law_take (aCons (eV 0) (aCons (eCall fLen (aCons (eV 3) aNil)) aNil)))) (sSeq (sSet 9 (eMeth "take" [("Incoming", g_Incoming_take)] (eV 2) (aCons (eV 8) (aCons (eB2 vIx (eV 3) (eV 8)) aNil)))) (sSeq (sSet 10 (eCall g_law_heard (aCons (eV 5) (aCons (eV 8) (aCons (eB2 vIx (eV 3) (eV 8)) aNil))))) (sSeq (sExpr (eLm lExtend (eV 6) (aCons (eV 10) aNil))) (sRet (eTup (aCons (eCall (g_law_same 20) (aCons (eV 9) (aCons (eV 10) aNil))) (aCons (eV 4) aNil)))))))) sNil) (sSeq (sSet 8 (eCall g_law_take (aCons (eV 0) (aCons (eB2 vAdd (eB2 vIx (eV 5) (eC (.str "taken"))) (eC (.int 1))) aNil)))) (sSeq (sSet 10 (eCall fMax2 (aCons (eC (.int 0)) (aCons (eB2 vSub (eV 8) (eV 4)) aNil)))) (sRet (eTup (aCons (eCall (g_law_same 20) (aCons (eMeth "known" [("Outgoing", g_Outgoing_known)] (eV 1) (aCons (eV 8) aNil)) (aCons (eV 10) aNil))) (aCons (eCall fMax2 (aCons (eV 4) (aCons (eV 8) aNil))) aNil)))))))))
def g_law_deed : Fn := fnB 11 7 g_law_deed_s
theorem sc_law_deed : FnScope ["_law_hand_here", "_law_out", "_law_end", "_law_things", "_law_gone", "_law_mind", "_law_all_taken", "_law_way", "_law_number", "_law_some", "_law_due"] ["_law_hand_here", "_law_out", "_law_end", "_law_things", "_law_gone", "_law_mind", "_law_all_taken"] (defScope s_law_deed) := ⟨rfl, rfl, rfl, by decide +kernel, rfl, by decide +kernel, by decide +kernel⟩
theorem ok_law_deed {f : Addr} {fd : FuncData} (T : Txt K mg) (F : FunS K "_law_deed" "_law_deed" s_law_deed f fd) (hm : mg "_law_deed" = some (.ref f)) (h_law_take : FnAt P w K mg base (YY K) 1 2 "_law_take" g_law_take) (h_law_thing : FnAt P w K mg base (YY K) 9 1 "_law_thing" g_law_thing) (h_Outgoing_put : MeAt P w K mg base (YY K) 2 2 "Outgoing" "put" g_Outgoing_put) (h_law_same : FnAt P w K mg base (YY K) 22 2 "_law_same" (g_law_same 20)) (h_Incoming_take : MeAt P w K mg base (YY K) 3 3 "Incoming" "take" g_Incoming_take) (h_law_heard : FnAt P w K mg base (YY K) 1 3 "_law_heard" g_law_heard) (h_Outgoing_known : MeAt P w K mg base (YY K) 3 2 "Outgoing" "known" g_Outgoing_known) : FnAt P w K mg base (YY K) 23 7 "_law_deed" g_law_deed :=
  FnAt.of (k := 22) (g := g_law_deed_s) F hm sc_law_deed (fun _ _ _ _ _ _ us hl => match us, hl with | [_, _, _, _, _, _, _], _ => rfl) rfl fun cdv A outer s H E c =>
    (ss_cons (ss_set (i := 7) c.xi c.nd rfl (by first | exact Or.inl rfl | exact Or.inr rfl) (sx_call c h_law_take (by omega) rfl (sa_cons (se_v 0) (sa_cons se_int sa_nil))))
    (ss_cons (ss_if (SW.st (sw_and (st_lt c.u0 (se_v 7) se_int) (sw_and1 (st_lt c.u0 (se_len rfl T.b_len (sa_cons (se_v 3) sa_nil)) se_int)))) (ss_cons (ss_expr (se_append (se_v 3) (sa_cons (sx_call c h_law_thing (by omega) rfl (sa_cons (se_v 0) sa_nil)) sa_nil)))
    (ss_one (ss_ret (se_tup (sa_cons (sx_call c h_law_same (by omega) rfl (sa_cons (se_meth (m := "put") (l := [("Outgoing", g_Outgoing_put)]) c T.kls (mel_cons h_Outgoing_put (by omega) mel_nil) (se_v 1) (sa_cons (se_ix c.u1 (se_v 3) (se_neg se_int)) sa_nil)) (sa_cons (se_sub (se_len rfl T.b_len (sa_cons (se_v 3) sa_nil)) se_int) sa_nil))) (sa_cons (se_v 4) sa_nil)))))) ss_nil)
    (ss_cons (ss_if (SW.st (sw_and (st_lt c.u0 (se_v 7) se_int) (sw_and1 (st_gt c.u0 (se_len rfl T.b_len (sa_cons (se_v 3) sa_nil)) se_int)))) (ss_cons (ss_set (i := 8) c.xi c.nd rfl (by first | exact Or.inl rfl | exact Or.inr rfl) (sx_call c h_law_take (by omega) rfl (sa_cons (se_v 0) (sa_cons (se_len rfl T.b_len (sa_cons (se_v 3) sa_nil)) sa_nil))))
    (ss_cons (ss_set (i := 9) c.xi c.nd rfl (by first | exact Or.inl rfl | exact Or.inr rfl) (se_meth (m := "take") (l := [("Incoming", g_Incoming_take)]) c T.kls (mel_cons h_Incoming_take (by omega) mel_nil) (se_v 2) (sa_cons (se_v 8) (sa_cons (se_ix c.u1 (se_v 3) (se_v 8)) sa_nil))))
    (ss_cons (ss_set (i := 10) c.xi c.nd rfl (by first | exact Or.inl rfl | exact Or.inr rfl) (sx_call c h_law_heard (by omega) rfl (sa_cons (se_v 5) (sa_cons (se_v 8) (sa_cons (se_ix c.u1 (se_v 3) (se_v 8)) sa_nil)))))
    (ss_cons (ss_expr (se_extend (se_v 6) (sa_cons (se_v 10) sa_nil)))
    (ss_one (ss_ret (se_tup (sa_cons (sx_call c h_law_same (by omega) rfl (sa_cons (se_v 9) (sa_cons (se_v 10) sa_nil))) (sa_cons (se_v 4) sa_nil))))))))) ss_nil)
    (ss_cons (ss_set (i := 8) c.xi c.nd rfl (by first | exact Or.inl rfl | exact Or.inr rfl) (sx_call c h_law_take (by omega) rfl (sa_cons (se_v 0) (sa_cons (se_add (se_ix c.u1 (se_v 5) se_str) se_int) sa_nil))))
    (ss_cons (ss_set (i := 10) c.xi c.nd rfl (by first | exact Or.inl rfl | exact Or.inr rfl) (se_max2 c.calm rfl T.b_max (sa_cons se_int (sa_cons (se_sub (se_v 8) (se_v 4)) sa_nil))))
    (ss_one (ss_ret (se_tup (sa_cons (sx_call c h_law_same (by omega) rfl (sa_cons (se_meth (m := "known") (l := [("Outgoing", g_Outgoing_known)]) c T.kls (mel_cons h_Outgoing_known (by omega) mel_nil) (se_v 1) (sa_cons (se_v 8) sa_nil)) (sa_cons (se_v 10) sa_nil))) (sa_cons (se_max2 c.calm rfl T.b_max (sa_cons (se_v 4) (sa_cons (se_v 8) sa_nil))) sa_nil))))))))))

/-! ### _law_drained -/
def g_law_drained_b1 : En → Store → Res := (sSeq (sIf (bV (eB2 vEq (eCall fLen (aCons (eMeth "waiting" [("Outgoing", g_Outgoing_waiting)] (eV 0) aNil) aNil)) (eC (.int 0)))) (sRet (eC (.bl true))) sNil) (sSeq (sAsg (eB2 vIx (eMeth "waiting" [("Outgoing", g_Outgoing_waiting)] (eV 0) aNil) (eC (.int 0))) (gT 2 (gCo (gN 4) (gCo (gN 5) gNo)))) (sSeq (sExpr (eMeth "take" [("Incoming", g_Incoming_take)] (eV 1) (aCons (eV 4) (aCons (eV 5) aNil)))) (sExpr (eMeth "known" [("Outgoing", g_Outgoing_known)] (eV 0) (aCons (eMeth "taken" [("Incoming", g_Incoming_taken)] (eV 1) aNil) aNil))))))
def g_law_drained_s : En → Store → Res := (sSeq (sFor (iR1 (aCons (eB2 vAdd (eV 2) (eC (.int 1))) aNil)) (gN 3) g_law_drained_b1) (sRet (eC (.bl false))))
def g_law_drained : Fn := fnB 6 3 g_law_drained_s
theorem sc_law_drained : FnScope ["_law_out", "_law_end", "_law_many", "_law_k", "_law_number", "_law_thing_here"] ["_law_out", "_law_end", "_law_many"] (defScope s_law_drained) := ⟨rfl, rfl, rfl, by decide +kernel, rfl, by decide +kernel, by decide +kernel⟩
theorem ok_law_drained {f : Addr} {fd : FuncData} (T : Txt K mg) (F : FunS K "_law_drained" "_law_drained" s_law_drained f fd) (hm : mg "_law_drained" = some (.ref f)) (h_Outgoing_waiting : MeAt P w K mg base (YY K) 1 1 "Outgoing" "waiting" g_Outgoing_waiting) (h_Incoming_take : MeAt P w K mg base (YY K) 3 3 "Incoming" "take" g_Incoming_take) (h_Incoming_taken : MeAt P w K mg base (YY K) 1 1 "Incoming" "taken" g_Incoming_taken) (h_Outgoing_known : MeAt P w K mg base (YY K) 3 2 "Outgoing" "known" g_Outgoing_known) : FnAt P w K mg base (YY K) 4 3 "_law_drained" g_law_drained :=
  FnAt.of (k := 3) (g := g_law_drained_s) F hm sc_law_drained (fun _ _ _ _ _ _ us hl => match us, hl with | [_, _, _], _ => rfl) rfl fun cdv A outer s H E c =>
    (ss_cons (ss_for c.hp c.calm (si_r1 rfl T.b_range (sa_cons (se_add (se_v 2) se_int) sa_nil)) (sg_name (i := 3) c.xi c.nd rfl (by first | exact Or.inl rfl | exact Or.inr rfl)) (ss_cons (ss_if (st_eq c.u64 (se_len rfl T.b_len (sa_cons (se_meth0 (m := "waiting") (l := [("Outgoing", g_Outgoing_waiting)]) c T.kls (mel_cons h_Outgoing_waiting (by omega) mel_nil) (se_v 0)) sa_nil)) se_int) (ss_one (ss_ret se_bl)) ss_nil)
    (ss_cons (ss_asg (se_ix c.u1 (se_meth0 (m := "waiting") (l := [("Outgoing", g_Outgoing_waiting)]) c T.kls (mel_cons h_Outgoing_waiting (by omega) mel_nil) (se_v 0)) se_int) (sg_tup c.calm (sgs_cons (sg_name (i := 4) c.xi c.nd rfl (by first | exact Or.inl rfl | exact Or.inr rfl)) (sgs_cons (sg_name (i := 5) c.xi c.nd rfl (by first | exact Or.inl rfl | exact Or.inr rfl)) sgs_nil))))
    (ss_cons (ss_expr (se_meth (m := "take") (l := [("Incoming", g_Incoming_take)]) c T.kls (mel_cons h_Incoming_take (by omega) mel_nil) (se_v 1) (sa_cons (se_v 4) (sa_cons (se_v 5) sa_nil))))
    (ss_one (ss_expr (se_meth (m := "known") (l := [("Outgoing", g_Outgoing_known)]) c T.kls (mel_cons h_Outgoing_known (by omega) mel_nil) (se_v 0) (sa_cons (se_meth0 (m := "taken") (l := [("Incoming", g_Incoming_taken)]) c T.kls (mel_cons h_Incoming_taken (by omega) mel_nil) (se_v 1)) sa_nil))))))))
    (ss_one (ss_ret se_bl)))

/-! ### _law_first -/
def g_law_first_b1 : En → Store → Res := (sSeq (sAsg (eCall g_law_deed (aCons (eV 1) (aCons (eV 2) (aCons (eV 3) (aCons (eV 4) (aCons (eV 7) (aCons (eV 6) (aCons (eV 5) aNil)))))))) (gT 2 (gCo (gN 10) (gCo (gN 7) gNo)))) (sSeq (sIf (bOr (bNot (bV (eV 10))) (bNot (bV (eCall g_law_ends_right (aCons (eV 2) (aCons (eV 3) (aCons (eV 4) (aCons (eV 7) (aCons (eV 6) aNil))))))))) (sRet (eC (.bl false))) sNil) (sSeq (sIf (bOr (bV (eB2 vNe (eV 5) (eSl (eV 4) pNo (pSome (eCall fLen (aCons (eV 5) aNil)))))) (bV (eB2 vNe (eCall fLen (aCons (eV 5) aNil)) (eB2 vIx (eV 6) (eC (.str "taken")))))) (sRet (eC (.bl false))) sNil) (sIf (bV (eB2 vEq (eCall g_law_take (aCons (eV 1) (aCons (eC (.int 9)) aNil))) (eC (.int 0)))) (sSeq (sSet 8 (eTup (aCons (eMeth "copy" [("Outgoing", g_Outgoing_copy)] (eV 2) aNil) (aCons (eMeth "copy" [("Incoming", g_Incoming_copy)] (eV 3) aNil) (aCons (eCall fList (aCons (eV 4) aNil)) (aCons (eV 7) (aCons (eDisp (((eC (.str "taken")), (eB2 vIx (eV 6) (eC (.str "taken")))) :: (((eC (.str "held")), (eCall fDictC (aCons (eB2 vIx (eV 6) (eC (.str "held"))) aNil))) :: []))) aNil))))))) (sSeq (sSet 11 (eB2 vAdd (eB2 vAdd (eMeth "taken" [("Incoming", g_Incoming_taken)] (eV 3) aNil) (eC (.int 1000))) (eCall g_law_take (aCons (eV 1) (aCons (eC (.int 5)) aNil))))) (sIf (bOr (bV (eB2 vNe (eMeth "take" [("Incoming", g_Incoming_take)] (eV 3) (aCons (eV 11) (aCons (eTup (aCons (eC (.str "far")) aNil)) aNil))) (eLst aNil))) (bV (eB2 vNe (eMeth "held" [("Incoming", g_Incoming_held)] (eV 3) aNil) (eCall fTuple (aCons (eCall fSorted (aCons (eLKeysK (eB2 vIx (eV 6) (eC (.str "held")))) aNil)) aNil))))) (sRet (eC (.bl false))) sNil))) sNil))))
def g_law_first_s : En → Store → Res := (sSeq (sSet 1 (eCall g_law_hand (aCons (eV 0) aNil))) (sSeq (sSet 2 (eCall (fMake "Outgoing" g_Outgoing_init) aNil)) (sSeq (sSet 3 (eCall (fMake "Incoming" g_Incoming_init) aNil)) (sSeq (sSet 4 (eLst aNil)) (sSeq (sSet 5 (eLst aNil)) (sSeq (sSet 6 (eDisp (((eC (.str "taken")), (eC (.int 0))) :: (((eC (.str "held")), eDk) :: [])))) (sSeq (sSet 7 (eC (.int 0))) (sSeq (sSet 8 (eC .non)) (sSeq (sFor (iR1 (aCons (eCall g_law_pick (aCons (eV 1) (aCons (eLst (aCons (eC (.int 5)) (aCons (eC (.int 20)) (aCons (eC (.int 60)) aNil)))) aNil))) aNil)) (gN 9) g_law_first_b1) (sSeq (sIf (bOr (bNot (bV (eCall g_law_drained (aCons (eV 2) (aCons (eV 3) (aCons (eCall fLen (aCons (eV 4) aNil)) aNil)))))) (bOr (bV (eB2 vNe (eMeth "taken" [("Incoming", g_Incoming_taken)] (eV 3) aNil) (eCall fLen (aCons (eV 4) aNil)))) (bV (eB2 vNe (eMeth "held" [("Incoming", g_Incoming_held)] (eV 3) aNil) (eTup aNil))))) (sRet (eC (.bl false))) sNil) (sSeq (sIf (bV (eB2 vIsN (eV 8) (eC .non))) (sSeq (sIf (bNot (bV (eCall g_law_ends_right (aCons (eB2 vIx (eV 8) (eC (.int 0))) (aCons (eB2 vIx (eV 8) (eC (.int 1))) (aCons (eB2 vIx (eV 8) (eC (.int 2))) (aCons (eB2 vIx (eV 8) (eC (.int 3))) (aCons (eB2 vIx (eV 8) (eC (.int 4))) aNil)))))))) (sRet (eC (.bl false))) sNil) (sIf (bNot (bV (eCall g_law_drained (aCons (eB2 vIx (eV 8) (eC (.int 0))) (aCons (eB2 vIx (eV 8) (eC (.int 1))) (aCons (eCall fLen (aCons (eB2 vIx (eV 8) (eC (.int 2))) aNil)) aNil)))))) (sRet (eC (.bl false))) sNil)) sNil) (sSeq (sSet 12 (eMeth "waiting" [("Outgoing", g_Outgoing_waiting)] (eV 2) aNil)) (sSeq (sExpr (eLm lAppend (eV 12) (aCons (eTup (aCons (eC (.int 0)) (aCons (eTup aNil) aNil))) aNil))) (sRet (eAnd (eB2 vEq (eMeth "waiting" [("Outgoing", g_Outgoing_waiting)] (eV 2) aNil) (eLst aNil)) (eCall (g_law_same 20) (aCons (eMeth "known" [("Outgoing", g_Outgoing_known)] (eV 2) (aCons (eC (.int 0)) aNil)) (aCons (eC (.int 0)) aNil))))))))))))))))))
def g_law_first : Fn := fnB 13 1 g_law_first_s
theorem sc_law_first : FnScope ["_law_script", "_law_hand_here", "_law_out", "_law_end", "_law_things", "_law_all_taken", "_law_mind", "_law_gone", "_law_kept", "_law_k", "_law_right", "_law_far", "_law_told"] ["_law_script"] (defScope s_law_first) := ⟨rfl, rfl, rfl, by decide +kernel, rfl, by decide +kernel, by decide +kernel⟩
theorem ok_law_first {f : Addr} {fd : FuncData} (T : Txt K mg) (F : FunS K "_law_first" "_law_first" s_law_first f fd) (hm : mg "_law_first" = some (.ref f)) (h_law_hand : FnAt P w K mg base (YY K) 1 1 "_law_hand" g_law_hand) (h_Outgoing : MkAt P w K mg base (YY K) 1 1 "Outgoing" g_Outgoing_init) (h_Incoming : MkAt P w K mg base (YY K) 1 1 "Incoming" g_Incoming_init) (h_law_pick : FnAt P w K mg base (YY K) 2 2 "_law_pick" g_law_pick) (h_law_deed : FnAt P w K mg base (YY K) 23 7 "_law_deed" g_law_deed) (h_law_ends_right : FnAt P w K mg base (YY K) 23 5 "_law_ends_right" g_law_ends_right) (h_law_take : FnAt P w K mg base (YY K) 1 2 "_law_take" g_law_take) (h_Outgoing_copy : MeAt P w K mg base (YY K) 3 1 "Outgoing" "copy" g_Outgoing_copy) (h_Incoming_copy : MeAt P w K mg base (YY K) 3 1 "Incoming" "copy" g_Incoming_copy) (h_Incoming_taken : MeAt P w K mg base (YY K) 1 1 "Incoming" "taken" g_Incoming_taken) (h_Incoming_take : MeAt P w K mg base (YY K) 3 3 "Incoming" "take" g_Incoming_take) (h_Incoming_held : MeAt P w K mg base (YY K) 1 1 "Incoming" "held" g_Incoming_held) (h_law_drained : FnAt P w K mg base (YY K) 4 3 "_law_drained" g_law_drained) (h_Outgoing_waiting : MeAt P w K mg base (YY K) 1 1 "Outgoing" "waiting" g_Outgoing_waiting) (h_Outgoing_known : MeAt P w K mg base (YY K) 3 2 "Outgoing" "known" g_Outgoing_known) (h_law_same : FnAt P w K mg base (YY K) 22 2 "_law_same" (g_law_same 20)) : FnAt P w K mg base (YY K) 24 1 "_law_first" g_law_first :=
  FnAt.of (k := 23) (g := g_law_first_s) F hm sc_law_first (fun _ _ _ _ _ _ us hl => match us, hl with | [_], _ => rfl) rfl fun cdv A outer s H E c =>
    (ss_cons (ss_set (i := 1) c.xi c.nd rfl (by first | exact Or.inl rfl | exact Or.inr rfl) (sx_call c h_law_hand (by omega) rfl (sa_cons (se_v 0) sa_nil)))
    (ss_cons (ss_set (i := 2) c.xi c.nd rfl (by first | exact Or.inl rfl | exact Or.inr rfl) (sx_make0 c h_Outgoing (by omega) rfl))
    (ss_cons (ss_set (i := 3) c.xi c.nd rfl (by first | exact Or.inl rfl | exact Or.inr rfl) (sx_make0 c h_Incoming (by omega) rfl))
    (ss_cons (ss_set (i := 4) c.xi c.nd rfl (by first | exact Or.inl rfl | exact Or.inr rfl) (se_lst sa_nil))
    (ss_cons (ss_set (i := 5) c.xi c.nd rfl (by first | exact Or.inl rfl | exact Or.inr rfl) (se_lst sa_nil))
    (ss_cons (ss_set (i := 6) c.xi c.nd rfl (by first | exact Or.inl rfl | exact Or.inr rfl) (se_disp (sps_cons se_str se_int (sps_cons se_str se_dk sps_nil))))
    (ss_cons (ss_set (i := 7) c.xi c.nd rfl (by first | exact Or.inl rfl | exact Or.inr rfl) se_int)
    (ss_cons (ss_set (i := 8) c.xi c.nd rfl (by first | exact Or.inl rfl | exact Or.inr rfl) se_non)
    (ss_cons (ss_for c.hp c.calm (si_r1 rfl T.b_range (sa_cons (sx_call c h_law_pick (by omega) rfl (sa_cons (se_v 1) (sa_cons (se_lst (sa_cons se_int (sa_cons se_int (sa_cons se_int sa_nil)))) sa_nil))) sa_nil)) (sg_name (i := 9) c.xi c.nd rfl (by first | exact Or.inl rfl | exact Or.inr rfl)) (ss_cons (ss_asg (sx_call c h_law_deed (by omega) rfl (sa_cons (se_v 1) (sa_cons (se_v 2) (sa_cons (se_v 3) (sa_cons (se_v 4) (sa_cons (se_v 7) (sa_cons (se_v 6) (sa_cons (se_v 5) sa_nil)))))))) (sg_tup c.calm (sgs_cons (sg_name (i := 10) c.xi c.nd rfl (by first | exact Or.inl rfl | exact Or.inr rfl)) (sgs_cons (sg_name (i := 7) c.xi c.nd rfl (by first | exact Or.inl rfl | exact Or.inr rfl)) sgs_nil))))
    (ss_cons (ss_if (SW.st (sw_or (st_not (st_val (se_v 10))) (sw_or1 (st_not (st_val (sx_call c h_law_ends_right (by omega) rfl (sa_cons (se_v 2) (sa_cons (se_v 3) (sa_cons (se_v 4) (sa_cons (se_v 7) (sa_cons (se_v 6) sa_nil))))))))))) (ss_one (ss_ret se_bl)) ss_nil)
    (ss_cons (ss_if (SW.st (sw_or (st_ne c.u64 (se_v 5) (se_sl (se_v 4) so_no (so_some (se_len rfl T.b_len (sa_cons (se_v 5) sa_nil))))) (sw_or1 (st_ne c.u64 (se_len rfl T.b_len (sa_cons (se_v 5) sa_nil)) (se_ix c.u1 (se_v 6) se_str))))) (ss_one (ss_ret se_bl)) ss_nil)
    (ss_one (ss_if (st_eq c.u64 (sx_call c h_law_take (by omega) rfl (sa_cons (se_v 1) (sa_cons se_int sa_nil))) se_int) (ss_cons (ss_set (i := 8) c.xi c.nd rfl (by first | exact Or.inl rfl | exact Or.inr rfl) (se_tup (sa_cons (se_meth0 (m := "copy") (l := [("Outgoing", g_Outgoing_copy)]) c T.kls (mel_cons h_Outgoing_copy (by omega) mel_nil) (se_v 2)) (sa_cons (se_meth0 (m := "copy") (l := [("Incoming", g_Incoming_copy)]) c T.kls (mel_cons h_Incoming_copy (by omega) mel_nil) (se_v 3)) (sa_cons (se_list rfl T.b_list (sa_cons (se_v 4) sa_nil)) (sa_cons (se_v 7) (sa_cons (se_disp (sps_cons se_str (se_ix c.u1 (se_v 6) se_str) (sps_cons se_str (se_dictC c.calm rfl T.b_dict (sa_cons (se_ix c.u1 (se_v 6) se_str) sa_nil)) sps_nil))) sa_nil)))))))
    (ss_cons (ss_set (i := 11) c.xi c.nd rfl (by first | exact Or.inl rfl | exact Or.inr rfl) (se_add (se_add (se_meth0 (m := "taken") (l := [("Incoming", g_Incoming_taken)]) c T.kls (mel_cons h_Incoming_taken (by omega) mel_nil) (se_v 3)) se_int) (sx_call c h_law_take (by omega) rfl (sa_cons (se_v 1) (sa_cons se_int sa_nil)))))
    (ss_one (ss_if (SW.st (sw_or (st_ne c.u64 (se_meth (m := "take") (l := [("Incoming", g_Incoming_take)]) c T.kls (mel_cons h_Incoming_take (by omega) mel_nil) (se_v 3) (sa_cons (se_v 11) (sa_cons (se_tup (sa_cons se_str sa_nil)) sa_nil))) (se_lst sa_nil)) (sw_or1 (st_ne c.u64 (se_meth0 (m := "held") (l := [("Incoming", g_Incoming_held)]) c T.kls (mel_cons h_Incoming_held (by omega) mel_nil) (se_v 3)) (se_tuple rfl T.b_tuple (sa_cons (se_sorted c.u66 rfl T.b_sorted (sa_cons (se_lkeysK c rfl T.b_list (se_ix c.u1 (se_v 6) se_str)) sa_nil)) sa_nil)))))) (ss_one (ss_ret se_bl)) ss_nil)))) ss_nil))))))
    (ss_cons (ss_if (SW.st (sw_or (st_not (st_val (sx_call c h_law_drained (by omega) rfl (sa_cons (se_v 2) (sa_cons (se_v 3) (sa_cons (se_len rfl T.b_len (sa_cons (se_v 4) sa_nil)) sa_nil)))))) (sw_or (st_ne c.u64 (se_meth0 (m := "taken") (l := [("Incoming", g_Incoming_taken)]) c T.kls (mel_cons h_Incoming_taken (by omega) mel_nil) (se_v 3)) (se_len rfl T.b_len (sa_cons (se_v 4) sa_nil))) (sw_or1 (st_ne c.u64 (se_meth0 (m := "held") (l := [("Incoming", g_Incoming_held)]) c T.kls (mel_cons h_Incoming_held (by omega) mel_nil) (se_v 3)) (se_tup sa_nil)))))) (ss_one (ss_ret se_bl)) ss_nil)
    (ss_cons (ss_if (st_isN (se_v 8) se_non) (ss_cons (ss_if (st_not (st_val (sx_call c h_law_ends_right (by omega) rfl (sa_cons (se_ix c.u1 (se_v 8) se_int) (sa_cons (se_ix c.u1 (se_v 8) se_int) (sa_cons (se_ix c.u1 (se_v 8) se_int) (sa_cons (se_ix c.u1 (se_v 8) se_int) (sa_cons (se_ix c.u1 (se_v 8) se_int) sa_nil)))))))) (ss_one (ss_ret se_bl)) ss_nil)
    (ss_one (ss_if (st_not (st_val (sx_call c h_law_drained (by omega) rfl (sa_cons (se_ix c.u1 (se_v 8) se_int) (sa_cons (se_ix c.u1 (se_v 8) se_int) (sa_cons (se_len rfl T.b_len (sa_cons (se_ix c.u1 (se_v 8) se_int) sa_nil)) sa_nil)))))) (ss_one (ss_ret se_bl)) ss_nil))) ss_nil)
    (ss_cons (ss_set (i := 12) c.xi c.nd rfl (by first | exact Or.inl rfl | exact Or.inr rfl) (se_meth0 (m := "waiting") (l := [("Outgoing", g_Outgoing_waiting)]) c T.kls (mel_cons h_Outgoing_waiting (by omega) mel_nil) (se_v 2)))
    (ss_cons (ss_expr (se_append (se_v 12) (sa_cons (se_tup (sa_cons se_int (sa_cons (se_tup sa_nil) sa_nil))) sa_nil)))
    (ss_one (ss_ret (se_and (se_eq c.u64 (se_meth0 (m := "waiting") (l := [("Outgoing", g_Outgoing_waiting)]) c T.kls (mel_cons h_Outgoing_waiting (by omega) mel_nil) (se_v 2)) (se_lst sa_nil)) (se_one (sx_call c h_law_same (by omega) rfl (sa_cons (se_meth (m := "known") (l := [("Outgoing", g_Outgoing_known)]) c T.kls (mel_cons h_Outgoing_known (by omega) mel_nil) (se_v 2) (sa_cons se_int sa_nil)) (sa_cons se_int sa_nil))))))))))))))))))))

/-! ### _law_is_within -/
def g_law_is_within_s : En → Store → Res := (sRet (eAnd (eCall g_law_is_integer (aCons (eV 0) aNil)) (eAnd (eB2 vLe (eV 1) (eV 0)) (eB2 vLe (eV 0) (eV 2)))))
def g_law_is_within : Fn := fnB 3 3 g_law_is_within_s
theorem sc_law_is_within : FnScope ["_law_thing_here", "_law_least", "_law_most"] ["_law_thing_here", "_law_least", "_law_most"] (defScope s_law_is_within) := ⟨rfl, rfl, rfl, by decide +kernel, rfl, by decide +kernel, by decide +kernel⟩
theorem ok_law_is_within {f : Addr} {fd : FuncData} (T : Txt K mg) (F : FunS K "_law_is_within" "_law_is_within" s_law_is_within f fd) (hm : mg "_law_is_within" = some (.ref f)) (h_law_is_integer : FnAt P w K mg base (YY K) 1 1 "_law_is_integer" g_law_is_integer) : FnAt P w K mg base (YY K) 2 3 "_law_is_within" g_law_is_within :=
  FnAt.of (k := 1) (g := g_law_is_within_s) F hm sc_law_is_within (fun _ _ _ _ _ _ us hl => match us, hl with | [_, _, _], _ => rfl) rfl fun cdv A outer s H E c =>
    (ss_one (ss_ret (se_and (sx_call c h_law_is_integer (by omega) rfl (sa_cons (se_v 0) sa_nil)) (se_and (se_le c.u0 (se_v 1) (se_v 0)) (se_one (se_le c.u0 (se_v 0) (se_v 2)))))))

/-! ### _law_odd -/
def g_law_odd_s : En → Store → Res := (sSeq (sSet 1 (eCall g_law_take (aCons (eV 0) (aCons (eC (.int 18)) aNil)))) (sSeq (sIf (bV (eB2 vLt (eV 1) (eC (.int 6)))) (sRet (eB2 vIx (eLst (aCons (eC .non) (aCons (eC (.bl true)) (aCons (eC (.bl false)) (aCons (eC (.str "")) (aCons (eC (.str "do")) (aCons (eC (.str "0")) aNil))))))) (eV 1))) sNil) (sSeq (sIf (bV (eB2 vLt (eV 1) (eC (.int 12)))) (sRet (eB2 vIx (eLst (aCons (eTup aNil) (aCons (eLst aNil) (aCons eDk (aCons (eTup (aCons (eC (.int 0)) aNil)) (aCons (eLst (aCons (eC (.int 0)) (aCons (eC (.int 0)) aNil))) (aCons (eTup (aCons (eTup aNil) aNil)) aNil))))))) (eB2 vSub (eV 1) (eC (.int 6))))) sNil) (sRet (eB2 vIx (eLst (aCons (eNeg (eC (.int 1))) (aCons (eC (.int 13)) (aCons (eB2 vSub (eB2 vPow (eC (.int 10)) (eC (.int 20))) (eC (.int 1))) (aCons (eTup (aCons (eC (.int 0)) (aCons (eC (.int 13)) aNil))) (aCons (eTup (aCons (eC (.bl true)) (aCons (eC (.int 0)) aNil))) (aCons (eTup (aCons (eC (.int 0)) (aCons (eC (.int 0)) (aCons (eC (.int 0)) aNil)))) aNil))))))) (eB2 vSub (eV 1) (eC (.int 12))))))))
def g_law_odd : Fn := fnB 2 1 g_law_odd_s
theorem sc_law_odd : FnScope ["_law_hand_here", "_law_way"] ["_law_hand_here"] (defScope s_law_odd) := ⟨rfl, rfl, rfl, by decide +kernel, rfl, by decide +kernel, by decide +kernel⟩
theorem ok_law_odd {f : Addr} {fd : FuncData} (T : Txt K mg) (F : FunS K "_law_odd" "_law_odd" s_law_odd f fd) (hm : mg "_law_odd" = some (.ref f)) (h_law_take : FnAt P w K mg base (YY K) 1 2 "_law_take" g_law_take) : FnAt P w K mg base (YY K) 2 1 "_law_odd" g_law_odd :=
  FnAt.of (k := 1) (g := g_law_odd_s) F hm sc_law_odd (fun _ _ _ _ _ _ us hl => match us, hl with | [_], _ => rfl) rfl fun cdv A outer s H E c =>
    (ss_cons (ss_set (i := 1) c.xi c.nd rfl (by first | exact Or.inl rfl | exact Or.inr rfl) (sx_call c h_law_take (by omega) rfl (sa_cons (se_v 0) (sa_cons se_int sa_nil))))
    (ss_cons (ss_if (st_lt c.u0 (se_v 1) se_int) (ss_one (ss_ret (se_ix c.u1 (se_lst (sa_cons se_non (sa_cons se_bl (sa_cons se_bl (sa_cons se_str (sa_cons se_str (sa_cons se_str sa_nil))))))) (se_v 1)))) ss_nil)
    (ss_cons (ss_if (st_lt c.u0 (se_v 1) se_int) (ss_one (ss_ret (se_ix c.u1 (se_lst (sa_cons (se_tup sa_nil) (sa_cons (se_lst sa_nil) (sa_cons se_dk (sa_cons (se_tup (sa_cons se_int sa_nil)) (sa_cons (se_lst (sa_cons se_int (sa_cons se_int sa_nil))) (sa_cons (se_tup (sa_cons (se_tup sa_nil) sa_nil)) sa_nil))))))) (se_sub (se_v 1) se_int)))) ss_nil)
    (ss_one (ss_ret (se_ix c.u1 (se_lst (sa_cons (se_neg se_int) (sa_cons se_int (sa_cons (se_sub (se_pow se_int se_int) se_int) (sa_cons (se_tup (sa_cons se_int (sa_cons se_int sa_nil))) (sa_cons (se_tup (sa_cons se_bl (sa_cons se_int sa_nil))) (sa_cons (se_tup (sa_cons se_int (sa_cons se_int (sa_cons se_int sa_nil)))) sa_nil))))))) (se_sub (se_v 1) se_int)))))))

/-! ### _law_is_thing -/
def g_law_is_thing_b1 (rec : Fn) : En → Store → Res := (sIf (bAnd (bNot (bOr (bV (eB2 vIs (eV 1) (eC .non))) (bOr (bV (eIsT "int" (eV 1))) (bV (eIsT "str" (eV 1)))))) (bNot (bV (eCall rec (aCons (eV 1) aNil))))) (sRet (eC (.bl false))) sNil)
def g_law_is_thing_s (rec : Fn) : En → Store → Res := (sSeq (sIf (bNot (bV (eIsT "tuple" (eV 0)))) (sRet (eC (.bl false))) sNil) (sSeq (sFor (iSeq (eV 0)) (gN 1) (g_law_is_thing_b1 rec)) (sRet (eC (.bl true)))))
def g_law_is_thing : Nat → Fn
  | 0 => fun _ _ => .bad
  | d + 1 => fnB 2 1 (g_law_is_thing_s (g_law_is_thing d))
theorem sc_law_is_thing : FnScope ["_law_thing_here", "_law_item_here"] ["_law_thing_here"] (defScope s_law_is_thing) := ⟨rfl, rfl, rfl, by decide +kernel, rfl, by decide +kernel, by decide +kernel⟩
theorem ok_law_is_thing_step {f : Addr} {fd : FuncData} {rec : Fn} {kk : Nat} (T : Txt K mg) (F : FunS K "_law_is_thing" "_law_is_thing" s_law_is_thing f fd) (hm : mg "_law_is_thing" = some (.ref f)) (hkk : 0 ≤ kk) (ih : FnAt P w K mg base (YY K) kk 1 "_law_is_thing" rec) : FnAt P w K mg base (YY K) (kk + 1) 1 "_law_is_thing" (fnB 2 1 (g_law_is_thing_s rec)) :=
  FnAt.of (k := kk) (g := g_law_is_thing_s rec) F hm sc_law_is_thing (fun _ _ _ _ _ _ us hl => match us, hl with | [_], _ => rfl) rfl fun cdv A outer s H E c =>
    (ss_cons (ss_if (st_not (st_val (se_isT (T := "tuple") (by decide +kernel) rfl T.b_isinstance rfl T.b_tuple (by decide +kernel) (se_v 0)))) (ss_one (ss_ret se_bl)) ss_nil)
    (ss_cons (ss_for c.hp c.calm (si_seq (se_v 0)) (sg_name (i := 1) c.xi c.nd rfl (by first | exact Or.inl rfl | exact Or.inr rfl)) (ss_one (ss_if (SW.st (sw_and (st_not (SW.st (sw_or (st_is (se_v 1) se_non) (sw_or (st_val (se_isT (T := "int") (by decide +kernel) rfl T.b_isinstance rfl T.b_int (by decide +kernel) (se_v 1))) (sw_or1 (st_val (se_isT (T := "str") (by decide +kernel) rfl T.b_isinstance rfl T.b_str (by decide +kernel) (se_v 1)))))))) (sw_and1 (st_not (st_val (sx_call c ih (by omega) rfl (sa_cons (se_v 1) sa_nil))))))) (ss_one (ss_ret se_bl)) ss_nil)))
    (ss_one (ss_ret se_bl))))
theorem ok_law_is_thing {f : Addr} {fd : FuncData} (T : Txt K mg) (F : FunS K "_law_is_thing" "_law_is_thing" s_law_is_thing f fd) (hm : mg "_law_is_thing" = some (.ref f)) : ∀ d, FnAt P w K mg base (YY K) (1 + d) 1 "_law_is_thing" (g_law_is_thing d)
  | 0 => FnAt.none F hm (ps := ["_law_thing_here"]) (fun _ _ _ _ _ _ us hl => match us, hl with | [_], _ => rfl) rfl
  | d + 1 => ok_law_is_thing_step (kk := 1 + d) T F hm  (by omega) (ok_law_is_thing T F hm  d)

/-! ### _law_some_thing -/
def g_law_some_thing_s : En → Store → Res := (sRet (eCall g_law_pick (aCons (eV 0) (aCons (eLst (aCons (eTup aNil) (aCons (eTup (aCons (eC (.int 1)) aNil)) (aCons (eTup (aCons (eC (.str "a")) (aCons (eC .non) aNil))) (aCons (eTup (aCons (eC (.bl true)) (aCons (eTup (aCons (eC (.int 2)) (aCons (eTup aNil) aNil))) aNil))) (aCons (eTup (aCons (eTup (aCons (eC (.str "b")) aNil)) (aCons (eC (.str "c")) aNil))) (aCons (eTup (aCons (eNeg (eC (.int 5))) (aCons (eC (.bl false)) aNil))) aNil))))))) aNil))))
def g_law_some_thing : Fn := fnB 1 1 g_law_some_thing_s
theorem sc_law_some_thing : FnScope ["_law_hand_here"] ["_law_hand_here"] (defScope s_law_some_thing) := ⟨rfl, rfl, rfl, by decide +kernel, rfl, by decide +kernel, by decide +kernel⟩
theorem ok_law_some_thing {f : Addr} {fd : FuncData} (T : Txt K mg) (F : FunS K "_law_some_thing" "_law_some_thing" s_law_some_thing f fd) (hm : mg "_law_some_thing" = some (.ref f)) (h_law_pick : FnAt P w K mg base (YY K) 2 2 "_law_pick" g_law_pick) : FnAt P w K mg base (YY K) 3 1 "_law_some_thing" g_law_some_thing :=
  FnAt.of (k := 2) (g := g_law_some_thing_s) F hm sc_law_some_thing (fun _ _ _ _ _ _ us hl => match us, hl with | [_], _ => rfl) rfl fun cdv A outer s H E c =>
    (ss_one (ss_ret (sx_call c h_law_pick (by omega) rfl (sa_cons (se_v 0) (sa_cons (se_lst (sa_cons (se_tup sa_nil) (sa_cons (se_tup (sa_cons se_int sa_nil)) (sa_cons (se_tup (sa_cons se_str (sa_cons se_non sa_nil))) (sa_cons (se_tup (sa_cons se_bl (sa_cons (se_tup (sa_cons se_int (sa_cons (se_tup sa_nil) sa_nil))) sa_nil))) (sa_cons (se_tup (sa_cons (se_tup (sa_cons se_str sa_nil)) (sa_cons se_str sa_nil))) (sa_cons (se_tup (sa_cons (se_neg se_int) (sa_cons se_bl sa_nil))) sa_nil))))))) sa_nil)))))

/-! ### _law_out_state -/
def g_law_out_state_e1 : En → Store → Out Val := (eCall g_law_some_thing (aCons (eV 0) aNil))
def g_law_out_state_s : En → Store → Res := (sSeq (sSet 1 (eCall g_law_pick (aCons (eV 0) (aCons (eLst (aCons (eC (.int 0)) (aCons (eCall g_law_take (aCons (eV 0) (aCons (eC (.int 40)) aNil))) (aCons (eB2 vSub (eB2 vPow (eC (.int 2)) (eC (.int 32))) (eC (.int 1))) (aCons (eB2 vPow (eC (.int 10)) (eC (.int 9))) aNil))))) aNil)))) (sRet (eTup (aCons (eV 1) (aCons (eCall fTuple (aCons (eLc (iR1 (aCons (eCall g_law_take (aCons (eV 0) (aCons (eC (.int 5)) aNil))) aNil)) (gN 2) bYes g_law_out_state_e1 [2]) aNil)) aNil)))))
def g_law_out_state : Fn := fnB 3 1 g_law_out_state_s
theorem sc_law_out_state : FnScope ["_law_hand_here", "_law_gone", "_law_k"] ["_law_hand_here"] (defScope s_law_out_state) := ⟨rfl, rfl, rfl, by decide +kernel, rfl, by decide +kernel, by decide +kernel⟩
theorem ok_law_out_state {f : Addr} {fd : FuncData} (T : Txt K mg) (F : FunS K "_law_out_state" "_law_out_state" s_law_out_state f fd) (hm : mg "_law_out_state" = some (.ref f)) (h_law_take : FnAt P w K mg base (YY K) 1 2 "_law_take" g_law_take) (h_law_pick : FnAt P w K mg base (YY K) 2 2 "_law_pick" g_law_pick) (h_law_some_thing : FnAt P w K mg base (YY K) 3 1 "_law_some_thing" g_law_some_thing) : FnAt P w K mg base (YY K) 4 1 "_law_out_state" g_law_out_state :=
  FnAt.of (k := 3) (g := g_law_out_state_s) F hm sc_law_out_state (fun _ _ _ _ _ _ us hl => match us, hl with | [_], _ => rfl) rfl fun cdv A outer s H E c =>
    (ss_cons (ss_set (i := 1) c.xi c.nd rfl (by first | exact Or.inl rfl | exact Or.inr rfl) (sx_call c h_law_pick (by omega) rfl (sa_cons (se_v 0) (sa_cons (se_lst (sa_cons se_int (sa_cons (sx_call c h_law_take (by omega) rfl (sa_cons (se_v 0) (sa_cons se_int sa_nil))) (sa_cons (se_sub (se_pow se_int se_int) se_int) (sa_cons (se_pow se_int se_int) sa_nil))))) sa_nil))))
    (ss_one (ss_ret (se_tup (sa_cons (se_v 1) (sa_cons (se_tuple rfl T.b_tuple (sa_cons (se_lc c (si_r1 rfl T.b_range (sa_cons (sx_call c h_law_take (by omega) rfl (sa_cons (se_v 0) (sa_cons se_int sa_nil))) sa_nil)) (own := [("_law_k", 2)]) (blk_ok (N := ["_law_hand_here", "_law_gone", "_law_k"]) (sc := defScope s_law_out_state) rfl rfl rfl (by decide +kernel)) (by decide) (fun _ _ _ _ _ c' => (sg_name (i := 2) c'.xi c'.nd rfl (by first | exact Or.inl rfl | exact Or.inr rfl))) (fun _ _ _ _ _ c' => sp_nil) (fun _ _ _ _ _ c' => (sx_call c' h_law_some_thing (by omega) rfl (sa_cons (se_v 0) sa_nil)))) sa_nil)) sa_nil))))))

/-! ### _law_in_state -/
def g_law_in_state_b1 : En → Store → Res := (sSeq (sSet 3 (eB2 vAdd (eB2 vAdd (eV 3) (eC (.int 1))) (eCall g_law_pick (aCons (eV 0) (aCons (eLst (aCons (eC (.int 0)) (aCons (eC (.int 0)) (aCons (eC (.int 1)) (aCons (eCall g_law_take (aCons (eV 0) (aCons (eC (.int 300)) aNil))) (aCons (eC (.int 900)) aNil)))))) aNil))))) (sIf (bV (eB2 vLt (eV 3) (eB2 vAdd (eV 1) (eC (.int 1000))))) (sExpr (eLm lAppend (eV 2) (aCons (eTup (aCons (eV 3) (aCons (eCall g_law_some_thing (aCons (eV 0) aNil)) aNil))) aNil))) sNil))
def g_law_in_state_s : En → Store → Res := (sSeq (sSet 1 (eCall g_law_pick (aCons (eV 0) (aCons (eLst (aCons (eC (.int 0)) (aCons (eCall g_law_take (aCons (eV 0) (aCons (eC (.int 40)) aNil))) (aCons (eB2 vSub (eB2 vPow (eC (.int 2)) (eC (.int 32))) (eC (.int 1))) (aCons (eB2 vPow (eC (.int 10)) (eC (.int 9))) aNil))))) aNil)))) (sSeq (sSet 2 (eLst aNil)) (sSeq (sSet 3 (eV 1)) (sSeq (sFor (iR1 (aCons (eCall g_law_take (aCons (eV 0) (aCons (eC (.int 5)) aNil))) aNil)) (gN 4) g_law_in_state_b1) (sRet (eTup (aCons (eV 1) (aCons (eCall fTuple (aCons (eV 2) aNil)) aNil))))))))
def g_law_in_state : Fn := fnB 5 1 g_law_in_state_s
theorem sc_law_in_state : FnScope ["_law_hand_here", "_law_taken", "_law_found", "_law_number", "_law_k"] ["_law_hand_here"] (defScope s_law_in_state) := ⟨rfl, rfl, rfl, by decide +kernel, rfl, by decide +kernel, by decide +kernel⟩
theorem ok_law_in_state {f : Addr} {fd : FuncData} (T : Txt K mg) (F : FunS K "_law_in_state" "_law_in_state" s_law_in_state f fd) (hm : mg "_law_in_state" = some (.ref f)) (h_law_take : FnAt P w K mg base (YY K) 1 2 "_law_take" g_law_take) (h_law_pick : FnAt P w K mg base (YY K) 2 2 "_law_pick" g_law_pick) (h_law_some_thing : FnAt P w K mg base (YY K) 3 1 "_law_some_thing" g_law_some_thing) : FnAt P w K mg base (YY K) 4 1 "_law_in_state" g_law_in_state :=
  FnAt.of (k := 3) (g := g_law_in_state_s) F hm sc_law_in_state (fun _ _ _ _ _ _ us hl => match us, hl with | [_], _ => rfl) rfl fun cdv A outer s H E c =>
    (ss_cons (ss_set (i := 1) c.xi c.nd rfl (by first | exact Or.inl rfl | exact Or.inr rfl) (sx_call c h_law_pick (by omega) rfl (sa_cons (se_v 0) (sa_cons (se_lst (sa_cons se_int (sa_cons (sx_call c h_law_take (by omega) rfl (sa_cons (se_v 0) (sa_cons se_int sa_nil))) (sa_cons (se_sub (se_pow se_int se_int) se_int) (sa_cons (se_pow se_int se_int) sa_nil))))) sa_nil))))
    (ss_cons (ss_set (i := 2) c.xi c.nd rfl (by first | exact Or.inl rfl | exact Or.inr rfl) (se_lst sa_nil))
    (ss_cons (ss_set (i := 3) c.xi c.nd rfl (by first | exact Or.inl rfl | exact Or.inr rfl) (se_v 1))
    (ss_cons (ss_for c.hp c.calm (si_r1 rfl T.b_range (sa_cons (sx_call c h_law_take (by omega) rfl (sa_cons (se_v 0) (sa_cons se_int sa_nil))) sa_nil)) (sg_name (i := 4) c.xi c.nd rfl (by first | exact Or.inl rfl | exact Or.inr rfl)) (ss_cons (ss_set (i := 3) c.xi c.nd rfl (by first | exact Or.inl rfl | exact Or.inr rfl) (se_add (se_add (se_v 3) se_int) (sx_call c h_law_pick (by omega) rfl (sa_cons (se_v 0) (sa_cons (se_lst (sa_cons se_int (sa_cons se_int (sa_cons se_int (sa_cons (sx_call c h_law_take (by omega) rfl (sa_cons (se_v 0) (sa_cons se_int sa_nil))) (sa_cons se_int sa_nil)))))) sa_nil)))))
    (ss_one (ss_if (st_lt c.u0 (se_v 3) (se_add (se_v 1) se_int)) (ss_one (ss_expr (se_append (se_v 2) (sa_cons (se_tup (sa_cons (se_v 3) (sa_cons (sx_call c h_law_some_thing (by omega) rfl (sa_cons (se_v 0) sa_nil)) sa_nil))) sa_nil)))) ss_nil))))
    (ss_one (ss_ret (se_tup (sa_cons (se_v 1) (sa_cons (se_tuple rfl T.b_tuple (sa_cons (se_v 2) sa_nil)) sa_nil)))))))))

/-! ### _law_spoilt -/
def g_law_spoilt_s : En → Store → Res := (sSeq (sSet 2 (eCall g_law_take (aCons (eV 0) (aCons (eC (.int 8)) aNil)))) (sSeq (sIf (bV (eB2 vEq (eV 2) (eC (.int 0)))) (sRet (eCall g_law_pick (aCons (eV 0) (aCons (eLst (aCons (eCall g_law_odd (aCons (eV 0) aNil)) (aCons (eCall fList (aCons (eV 1) aNil)) (aCons (eSl (eV 1) pNo (pSome (eC (.int 1)))) (aCons (eB2 vAdd (eV 1) (eTup (aCons (eC (.int 0)) aNil))) aNil))))) aNil)))) sNil) (sSeq (sIf (bV (eB2 vEq (eV 2) (eC (.int 1)))) (sRet (eTup (aCons (eCall g_law_pick (aCons (eV 0) (aCons (eLst (aCons (eNeg (eC (.int 1))) (aCons (eC (.bl true)) (aCons (eB2 vPow (eC (.int 2)) (eC (.int 32))) (aCons (eC .non) (aCons (eB2 vAdd (eB2 vIx (eV 1) (eC (.int 0))) (eC (.int 1))) (aCons (eC (.str "0")) aNil))))))) aNil))) (aCons (eB2 vIx (eV 1) (eC (.int 1))) aNil)))) sNil) (sSeq (sIf (bOr (bV (eB2 vEq (eV 2) (eC (.int 2)))) (bV (eB2 vEq (eCall fLen (aCons (eB2 vIx (eV 1) (eC (.int 1))) aNil)) (eC (.int 0))))) (sSeq (sSet 3 (eLst (aCons (eCall fList (aCons (eB2 vIx (eV 1) (eC (.int 1))) aNil)) (aCons (eB2 vAdd (eB2 vIx (eV 1) (eC (.int 1))) (eTup (aCons (eCall g_law_odd (aCons (eV 0) aNil)) aNil))) (aCons (eC .non) (aCons (eB2 vAdd (eB2 vIx (eV 1) (eC (.int 1))) (eTup (aCons (eTup (aCons (eB2 vIx (eV 1) (eC (.int 0))) (aCons (eTup aNil) aNil))) aNil))) aNil)))))) (sRet (eTup (aCons (eB2 vIx (eV 1) (eC (.int 0))) (aCons (eCall g_law_pick (aCons (eV 0) (aCons (eV 3) aNil))) aNil))))) sNil) (sSeq (sSet 4 (eCall g_law_take (aCons (eV 0) (aCons (eCall fLen (aCons (eB2 vIx (eV 1) (eC (.int 1))) aNil)) aNil)))) (sSeq (sSet 5 (eB2 vIx (eB2 vIx (eV 1) (eC (.int 1))) (eV 4))) (sSeq (sSet 6 (eLst (aCons (eCall g_law_odd (aCons (eV 0) aNil)) (aCons (eCall fList (aCons (eV 5) aNil)) (aCons (eB2 vAdd (eV 5) (eTup (aCons (eLst aNil) aNil))) (aCons (eB2 vAdd (eV 5) (eTup (aCons eDk aNil))) (aCons (eV 5) aNil))))))) (sSeq (sSet 6 (eB2 vAdd (eV 6) (eLst (aCons (eTup (aCons (eB2 vAdd (eB2 vIx (eV 1) (eC (.int 0))) (eC (.int 1000))) (aCons (eTup aNil) aNil))) (aCons (eTup (aCons (eB2 vAdd (eB2 vIx (eV 1) (eC (.int 0))) (eC (.int 999))) (aCons (eTup aNil) aNil))) aNil))))) (sRet (eTup (aCons (eB2 vIx (eV 1) (eC (.int 0))) (aCons (eB2 vAdd (eB2 vAdd (eSl (eB2 vIx (eV 1) (eC (.int 1))) pNo (pSome (eV 4))) (eTup (aCons (eCall g_law_pick (aCons (eV 0) (aCons (eV 6) aNil))) aNil))) (eSl (eB2 vIx (eV 1) (eC (.int 1))) (pSome (eB2 vAdd (eV 4) (eC (.int 1)))) pNo)) aNil))))))))))))
def g_law_spoilt : Fn := fnB 7 2 g_law_spoilt_s
theorem sc_law_spoilt : FnScope ["_law_hand_here", "_law_state", "_law_way", "_law_some", "_law_at", "_law_other", "_law_menu"] ["_law_hand_here", "_law_state"] (defScope s_law_spoilt) := ⟨rfl, rfl, rfl, by decide +kernel, rfl, by decide +kernel, by decide +kernel⟩
theorem ok_law_spoilt {f : Addr} {fd : FuncData} (T : Txt K mg) (F : FunS K "_law_spoilt" "_law_spoilt" s_law_spoilt f fd) (hm : mg "_law_spoilt" = some (.ref f)) (h_law_take : FnAt P w K mg base (YY K) 1 2 "_law_take" g_law_take) (h_law_odd : FnAt P w K mg base (YY K) 2 1 "_law_odd" g_law_odd) (h_law_pick : FnAt P w K mg base (YY K) 2 2 "_law_pick" g_law_pick) : FnAt P w K mg base (YY K) 3 2 "_law_spoilt" g_law_spoilt :=
  FnAt.of (k := 2) (g := g_law_spoilt_s) F hm sc_law_spoilt (fun _ _ _ _ _ _ us hl => match us, hl with | [_, _], _ => rfl) rfl fun cdv A outer s H E c =>
    (ss_cons (ss_set (i := 2) c.xi c.nd rfl (by first | exact Or.inl rfl | exact Or.inr rfl) (sx_call c h_law_take (by omega) rfl (sa_cons (se_v 0) (sa_cons se_int sa_nil))))
    (ss_cons (ss_if (st_eq c.u64 (se_v 2) se_int) (ss_one (ss_ret (sx_call c h_law_pick (by omega) rfl (sa_cons (se_v 0) (sa_cons (se_lst (sa_cons (sx_call c h_law_odd (by omega) rfl (sa_cons (se_v 0) sa_nil)) (sa_cons (se_list rfl T.b_list (sa_cons (se_v 1) sa_nil)) (sa_cons (se_sl (se_v 1) so_no (so_some se_int)) (sa_cons (se_add (se_v 1) (se_tup (sa_cons se_int sa_nil))) sa_nil))))) sa_nil))))) ss_nil)
    (ss_cons (ss_if (st_eq c.u64 (se_v 2) se_int) (ss_one (ss_ret (se_tup (sa_cons (sx_call c h_law_pick (by omega) rfl (sa_cons (se_v 0) (sa_cons (se_lst (sa_cons (se_neg se_int) (sa_cons se_bl (sa_cons (se_pow se_int se_int) (sa_cons se_non (sa_cons (se_add (se_ix c.u1 (se_v 1) se_int) se_int) (sa_cons se_str sa_nil))))))) sa_nil))) (sa_cons (se_ix c.u1 (se_v 1) se_int) sa_nil))))) ss_nil)
    (ss_cons (ss_if (SW.st (sw_or (st_eq c.u64 (se_v 2) se_int) (sw_or1 (st_eq c.u64 (se_len rfl T.b_len (sa_cons (se_ix c.u1 (se_v 1) se_int) sa_nil)) se_int)))) (ss_cons (ss_set (i := 3) c.xi c.nd rfl (by first | exact Or.inl rfl | exact Or.inr rfl) (se_lst (sa_cons (se_list rfl T.b_list (sa_cons (se_ix c.u1 (se_v 1) se_int) sa_nil)) (sa_cons (se_add (se_ix c.u1 (se_v 1) se_int) (se_tup (sa_cons (sx_call c h_law_odd (by omega) rfl (sa_cons (se_v 0) sa_nil)) sa_nil))) (sa_cons se_non (sa_cons (se_add (se_ix c.u1 (se_v 1) se_int) (se_tup (sa_cons (se_tup (sa_cons (se_ix c.u1 (se_v 1) se_int) (sa_cons (se_tup sa_nil) sa_nil))) sa_nil))) sa_nil))))))
    (ss_one (ss_ret (se_tup (sa_cons (se_ix c.u1 (se_v 1) se_int) (sa_cons (sx_call c h_law_pick (by omega) rfl (sa_cons (se_v 0) (sa_cons (se_v 3) sa_nil))) sa_nil)))))) ss_nil)
    (ss_cons (ss_set (i := 4) c.xi c.nd rfl (by first | exact Or.inl rfl | exact Or.inr rfl) (sx_call c h_law_take (by omega) rfl (sa_cons (se_v 0) (sa_cons (se_len rfl T.b_len (sa_cons (se_ix c.u1 (se_v 1) se_int) sa_nil)) sa_nil))))
    (ss_cons (ss_set (i := 5) c.xi c.nd rfl (by first | exact Or.inl rfl | exact Or.inr rfl) (se_ix c.u1 (se_ix c.u1 (se_v 1) se_int) (se_v 4)))
    (ss_cons (ss_set (i := 6) c.xi c.nd rfl (by first | exact Or.inl rfl | exact Or.inr rfl) (se_lst (sa_cons (sx_call c h_law_odd (by omega) rfl (sa_cons (se_v 0) sa_nil)) (sa_cons (se_list rfl T.b_list (sa_cons (se_v 5) sa_nil)) (sa_cons (se_add (se_v 5) (se_tup (sa_cons (se_lst sa_nil) sa_nil))) (sa_cons (se_add (se_v 5) (se_tup (sa_cons se_dk sa_nil))) (sa_cons (se_v 5) sa_nil)))))))
    (ss_cons (ss_set (i := 6) c.xi c.nd rfl (by first | exact Or.inl rfl | exact Or.inr rfl) (se_add (se_v 6) (se_lst (sa_cons (se_tup (sa_cons (se_add (se_ix c.u1 (se_v 1) se_int) se_int) (sa_cons (se_tup sa_nil) sa_nil))) (sa_cons (se_tup (sa_cons (se_add (se_ix c.u1 (se_v 1) se_int) se_int) (sa_cons (se_tup sa_nil) sa_nil))) sa_nil)))))
    (ss_one (ss_ret (se_tup (sa_cons (se_ix c.u1 (se_v 1) se_int) (sa_cons (se_add (se_add (se_sl (se_ix c.u1 (se_v 1) se_int) so_no (so_some (se_v 4))) (se_tup (sa_cons (sx_call c h_law_pick (by omega) rfl (sa_cons (se_v 0) (sa_cons (se_v 6) sa_nil))) sa_nil))) (se_sl (se_ix c.u1 (se_v 1) se_int) (so_some (se_add (se_v 4) se_int)) so_no)) sa_nil)))))))))))))

/-! ### _law_is_out -/
def g_law_is_out_e1 : En → Store → Out Val := (eCall (g_law_is_thing 20) (aCons (eV 1) aNil))
def g_law_is_out_s : En → Store → Res := (sSeq (sIf (bOr (bNot (bV (eIsT "tuple" (eV 0)))) (bOr (bV (eB2 vNe (eCall fLen (aCons (eV 0) aNil)) (eC (.int 2)))) (bNot (bV (eCall g_law_is_within (aCons (eB2 vIx (eV 0) (eC (.int 0))) (aCons (eC (.int 0)) (aCons (eB2 vSub (eB2 vPow (eC (.int 2)) (eC (.int 32))) (eC (.int 1))) aNil)))))))) (sRet (eC (.bl false))) sNil) (sRet (eAnd (eIsT "tuple" (eB2 vIx (eV 0) (eC (.int 1)))) (eCall fAll (aCons (eLc (iSeq (eB2 vIx (eV 0) (eC (.int 1)))) (gN 1) bYes g_law_is_out_e1 [1]) aNil)))))
def g_law_is_out : Fn := fnB 2 1 g_law_is_out_s
theorem sc_law_is_out : FnScope ["_law_thing_here", "_law_item_here"] ["_law_thing_here"] (defScope s_law_is_out) := ⟨rfl, rfl, rfl, by decide +kernel, rfl, by decide +kernel, by decide +kernel⟩
theorem ok_law_is_out {f : Addr} {fd : FuncData} (T : Txt K mg) (F : FunS K "_law_is_out" "_law_is_out" s_law_is_out f fd) (hm : mg "_law_is_out" = some (.ref f)) (h_law_is_within : FnAt P w K mg base (YY K) 2 3 "_law_is_within" g_law_is_within) (h_law_is_thing : FnAt P w K mg base (YY K) 21 1 "_law_is_thing" (g_law_is_thing 20)) : FnAt P w K mg base (YY K) 22 1 "_law_is_out" g_law_is_out :=
  FnAt.of (k := 21) (g := g_law_is_out_s) F hm sc_law_is_out (fun _ _ _ _ _ _ us hl => match us, hl with | [_], _ => rfl) rfl fun cdv A outer s H E c =>
    (ss_cons (ss_if (SW.st (sw_or (st_not (st_val (se_isT (T := "tuple") (by decide +kernel) rfl T.b_isinstance rfl T.b_tuple (by decide +kernel) (se_v 0)))) (sw_or (st_ne c.u64 (se_len rfl T.b_len (sa_cons (se_v 0) sa_nil)) se_int) (sw_or1 (st_not (st_val (sx_call c h_law_is_within (by omega) rfl (sa_cons (se_ix c.u1 (se_v 0) se_int) (sa_cons se_int (sa_cons (se_sub (se_pow se_int se_int) se_int) sa_nil)))))))))) (ss_one (ss_ret se_bl)) ss_nil)
    (ss_one (ss_ret (se_and (se_isT (T := "tuple") (by decide +kernel) rfl T.b_isinstance rfl T.b_tuple (by decide +kernel) (se_ix c.u1 (se_v 0) se_int)) (se_one (se_all c.calm rfl T.b_all (sa_cons (se_lc c (si_seq (se_ix c.u1 (se_v 0) se_int)) (own := [("_law_item_here", 1)]) (blk_ok (N := ["_law_thing_here", "_law_item_here"]) (sc := defScope s_law_is_out) rfl rfl rfl (by decide +kernel)) (by decide) (fun _ _ _ _ _ c' => (sg_name (i := 1) c'.xi c'.nd rfl (by first | exact Or.inl rfl | exact Or.inr rfl))) (fun _ _ _ _ _ c' => sp_nil) (fun _ _ _ _ _ c' => (sx_call c' h_law_is_thing (by omega) rfl (sa_cons (se_v 1) sa_nil)))) sa_nil)))))))

/-! ### _law_is_in -/
def g_law_is_in_b1 : En → Store → Res := (sSeq (sIf (bOr (bNot (bV (eIsT "tuple" (eV 2)))) (bOr (bV (eB2 vNe (eCall fLen (aCons (eV 2) aNil)) (eC (.int 2)))) (bNot (bV (eCall g_law_is_integer (aCons (eB2 vIx (eV 2) (eC (.int 0))) aNil)))))) (sRet (eC (.bl false))) sNil) (sSeq (sIf (bNot (bV (eCall (g_law_is_thing 20) (aCons (eB2 vIx (eV 2) (eC (.int 1))) aNil)))) (sRet (eC (.bl false))) sNil) (sSeq (sIf (bOr (bV (eB2 vLe (eB2 vIx (eV 2) (eC (.int 0))) (eV 1))) (bV (eB2 vGe (eB2 vIx (eV 2) (eC (.int 0))) (eB2 vAdd (eB2 vIx (eV 0) (eC (.int 0))) (eC (.int 1000)))))) (sRet (eC (.bl false))) sNil) (sSet 1 (eB2 vIx (eV 2) (eC (.int 0)))))))
def g_law_is_in_s : En → Store → Res := (sSeq (sIf (bOr (bNot (bV (eIsT "tuple" (eV 0)))) (bOr (bV (eB2 vNe (eCall fLen (aCons (eV 0) aNil)) (eC (.int 2)))) (bNot (bV (eCall g_law_is_within (aCons (eB2 vIx (eV 0) (eC (.int 0))) (aCons (eC (.int 0)) (aCons (eB2 vSub (eB2 vPow (eC (.int 2)) (eC (.int 32))) (eC (.int 1))) aNil)))))))) (sRet (eC (.bl false))) sNil) (sSeq (sIf (bNot (bV (eIsT "tuple" (eB2 vIx (eV 0) (eC (.int 1)))))) (sRet (eC (.bl false))) sNil) (sSeq (sSet 1 (eB2 vIx (eV 0) (eC (.int 0)))) (sSeq (sFor (iSeq (eB2 vIx (eV 0) (eC (.int 1)))) (gN 2) g_law_is_in_b1) (sRet (eC (.bl true)))))))
def g_law_is_in : Fn := fnB 3 1 g_law_is_in_s
theorem sc_law_is_in : FnScope ["_law_thing_here", "_law_last", "_law_pair"] ["_law_thing_here"] (defScope s_law_is_in) := ⟨rfl, rfl, rfl, by decide +kernel, rfl, by decide +kernel, by decide +kernel⟩
theorem ok_law_is_in {f : Addr} {fd : FuncData} (T : Txt K mg) (F : FunS K "_law_is_in" "_law_is_in" s_law_is_in f fd) (hm : mg "_law_is_in" = some (.ref f)) (h_law_is_within : FnAt P w K mg base (YY K) 2 3 "_law_is_within" g_law_is_within) (h_law_is_integer : FnAt P w K mg base (YY K) 1 1 "_law_is_integer" g_law_is_integer) (h_law_is_thing : FnAt P w K mg base (YY K) 21 1 "_law_is_thing" (g_law_is_thing 20)) : FnAt P w K mg base (YY K) 22 1 "_law_is_in" g_law_is_in :=
  FnAt.of (k := 21) (g := g_law_is_in_s) F hm sc_law_is_in (fun _ _ _ _ _ _ us hl => match us, hl with | [_], _ => rfl) rfl fun cdv A outer s H E c =>
    (ss_cons (ss_if (SW.st (sw_or (st_not (st_val (se_isT (T := "tuple") (by decide +kernel) rfl T.b_isinstance rfl T.b_tuple (by decide +kernel) (se_v 0)))) (sw_or (st_ne c.u64 (se_len rfl T.b_len (sa_cons (se_v 0) sa_nil)) se_int) (sw_or1 (st_not (st_val (sx_call c h_law_is_within (by omega) rfl (sa_cons (se_ix c.u1 (se_v 0) se_int) (sa_cons se_int (sa_cons (se_sub (se_pow se_int se_int) se_int) sa_nil)))))))))) (ss_one (ss_ret se_bl)) ss_nil)
    (ss_cons (ss_if (st_not (st_val (se_isT (T := "tuple") (by decide +kernel) rfl T.b_isinstance rfl T.b_tuple (by decide +kernel) (se_ix c.u1 (se_v 0) se_int)))) (ss_one (ss_ret se_bl)) ss_nil)
    (ss_cons (ss_set (i := 1) c.xi c.nd rfl (by first | exact Or.inl rfl | exact Or.inr rfl) (se_ix c.u1 (se_v 0) se_int))
    (ss_cons (ss_for c.hp c.calm (si_seq (se_ix c.u1 (se_v 0) se_int)) (sg_name (i := 2) c.xi c.nd rfl (by first | exact Or.inl rfl | exact Or.inr rfl)) (ss_cons (ss_if (SW.st (sw_or (st_not (st_val (se_isT (T := "tuple") (by decide +kernel) rfl T.b_isinstance rfl T.b_tuple (by decide +kernel) (se_v 2)))) (sw_or (st_ne c.u64 (se_len rfl T.b_len (sa_cons (se_v 2) sa_nil)) se_int) (sw_or1 (st_not (st_val (sx_call c h_law_is_integer (by omega) rfl (sa_cons (se_ix c.u1 (se_v 2) se_int) sa_nil)))))))) (ss_one (ss_ret se_bl)) ss_nil)
    (ss_cons (ss_if (st_not (st_val (sx_call c h_law_is_thing (by omega) rfl (sa_cons (se_ix c.u1 (se_v 2) se_int) sa_nil)))) (ss_one (ss_ret se_bl)) ss_nil)
    (ss_cons (ss_if (SW.st (sw_or (st_le c.u0 (se_ix c.u1 (se_v 2) se_int) (se_v 1)) (sw_or1 (st_ge (se_ix c.u1 (se_v 2) se_int) (se_add (se_ix c.u1 (se_v 0) se_int) se_int))))) (ss_one (ss_ret se_bl)) ss_nil)
    (ss_one (ss_set (i := 1) c.xi c.nd rfl (by first | exact Or.inl rfl | exact Or.inr rfl) (se_ix c.u1 (se_v 2) se_int)))))))
    (ss_one (ss_ret se_bl))))))

/-! ### _law_out_told -/
def g_law_out_told_s : En → Store → Res := (sTry (sRet (eTup (aCons (eC (.str "told")) (aCons (eMeth "state" [("Outgoing", g_Outgoing_state)] (eCall g_outgoing_of (aCons (eV 0) aNil)) aNil) aNil)))) (((fun q => q == "NoState"), (sRet (eTup (aCons (eC (.str "NoState")) aNil)))) :: []))
def g_law_out_told : Fn := fnB 1 1 g_law_out_told_s
theorem sc_law_out_told : FnScope ["_law_thing_here"] ["_law_thing_here"] (defScope s_law_out_told) := ⟨rfl, rfl, rfl, by decide +kernel, rfl, by decide +kernel, by decide +kernel⟩
theorem ok_law_out_told {f : Addr} {fd : FuncData} (T : Txt K mg) (F : FunS K "_law_out_told" "_law_out_told" s_law_out_told f fd) (hm : mg "_law_out_told" = some (.ref f)) (h_outgoing_of : FnAt P w K mg base (YY K) 4 1 "outgoing_of" g_outgoing_of) (h_Outgoing_state : MeAt P w K mg base (YY K) 1 1 "Outgoing" "state" g_Outgoing_state) : FnAt P w K mg base (YY K) 5 1 "_law_out_told" g_law_out_told :=
  FnAt.of (k := 4) (g := g_law_out_told_s) F hm sc_law_out_told (fun _ _ _ _ _ _ us hl => match us, hl with | [_], _ => rfl) rfl fun cdv A outer s H E c =>
    (ss_one (sx_try c (fun _ _ _ ct => (ss_one (ss_ret (se_tup (sa_cons se_str (sa_cons (se_meth0 (m := "state") (l := [("Outgoing", g_Outgoing_state)]) ct T.kls (mel_cons h_Outgoing_state (by omega) mel_nil) (sx_call ct h_outgoing_of (by omega) rfl (sa_cons (se_v 0) sa_nil))) sa_nil)))))) (hd_cons T.hd_NoState rfl (fun _ _ cs => (ss_one (ss_ret (se_tup (sa_cons se_str sa_nil))))) hd_nil)))

/-! ### _law_in_told -/
def g_law_in_told_s : En → Store → Res := (sTry (sRet (eTup (aCons (eC (.str "told")) (aCons (eMeth "state" [("Incoming", g_Incoming_state)] (eCall g_incoming_of (aCons (eV 0) aNil)) aNil) aNil)))) (((fun q => q == "NoState"), (sRet (eTup (aCons (eC (.str "NoState")) aNil)))) :: []))
def g_law_in_told : Fn := fnB 1 1 g_law_in_told_s
theorem sc_law_in_told : FnScope ["_law_thing_here"] ["_law_thing_here"] (defScope s_law_in_told) := ⟨rfl, rfl, rfl, by decide +kernel, rfl, by decide +kernel, by decide +kernel⟩
theorem ok_law_in_told {f : Addr} {fd : FuncData} (T : Txt K mg) (F : FunS K "_law_in_told" "_law_in_told" s_law_in_told f fd) (hm : mg "_law_in_told" = some (.ref f)) (h_incoming_of : FnAt P w K mg base (YY K) 4 1 "incoming_of" g_incoming_of) (h_Incoming_state : MeAt P w K mg base (YY K) 2 1 "Incoming" "state" g_Incoming_state) : FnAt P w K mg base (YY K) 5 1 "_law_in_told" g_law_in_told :=
  FnAt.of (k := 4) (g := g_law_in_told_s) F hm sc_law_in_told (fun _ _ _ _ _ _ us hl => match us, hl with | [_], _ => rfl) rfl fun cdv A outer s H E c =>
    (ss_one (sx_try c (fun _ _ _ ct => (ss_one (ss_ret (se_tup (sa_cons se_str (sa_cons (se_meth0 (m := "state") (l := [("Incoming", g_Incoming_state)]) ct T.kls (mel_cons h_Incoming_state (by omega) mel_nil) (sx_call ct h_incoming_of (by omega) rfl (sa_cons (se_v 0) sa_nil))) sa_nil)))))) (hd_cons T.hd_NoState rfl (fun _ _ cs => (ss_one (ss_ret (se_tup (sa_cons se_str sa_nil))))) hd_nil)))

/-! ### _law_judged -/
def g_law_judged_s : En → Store → Res := (sSeq (sSet 1 (eTup (aCons (eC (.str "NoState")) aNil))) (sSeq (sIf (bV (eCall g_law_is_out (aCons (eV 0) aNil))) (sSet 1 (eTup (aCons (eC (.str "told")) (aCons (eV 0) aNil)))) sNil) (sSeq (sIf (bNot (bV (eCall (g_law_same 20) (aCons (eCall g_law_out_told (aCons (eV 0) aNil)) (aCons (eV 1) aNil))))) (sRet (eC (.bl false))) sNil) (sSeq (sSet 1 (eTup (aCons (eC (.str "NoState")) aNil))) (sSeq (sIf (bV (eCall g_law_is_in (aCons (eV 0) aNil))) (sSet 1 (eTup (aCons (eC (.str "told")) (aCons (eV 0) aNil)))) sNil) (sRet (eCall (g_law_same 20) (aCons (eCall g_law_in_told (aCons (eV 0) aNil)) (aCons (eV 1) aNil)))))))))
def g_law_judged : Fn := fnB 2 1 g_law_judged_s
theorem sc_law_judged : FnScope ["_law_thing_here", "_law_due"] ["_law_thing_here"] (defScope s_law_judged) := ⟨rfl, rfl, rfl, by decide +kernel, rfl, by decide +kernel, by decide +kernel⟩
theorem ok_law_judged {f : Addr} {fd : FuncData} (T : Txt K mg) (F : FunS K "_law_judged" "_law_judged" s_law_judged f fd) (hm : mg "_law_judged" = some (.ref f)) (h_law_is_out : FnAt P w K mg base (YY K) 22 1 "_law_is_out" g_law_is_out) (h_law_out_told : FnAt P w K mg base (YY K) 5 1 "_law_out_told" g_law_out_told) (h_law_same : FnAt P w K mg base (YY K) 22 2 "_law_same" (g_law_same 20)) (h_law_is_in : FnAt P w K mg base (YY K) 22 1 "_law_is_in" g_law_is_in) (h_law_in_told : FnAt P w K mg base (YY K) 5 1 "_law_in_told" g_law_in_told) : FnAt P w K mg base (YY K) 23 1 "_law_judged" g_law_judged :=
  FnAt.of (k := 22) (g := g_law_judged_s) F hm sc_law_judged (fun _ _ _ _ _ _ us hl => match us, hl with | [_], _ => rfl) rfl fun cdv A outer s H E c =>
    (ss_cons (ss_set (i := 1) c.xi c.nd rfl (by first | exact Or.inl rfl | exact Or.inr rfl) (se_tup (sa_cons se_str sa_nil)))
    (ss_cons (ss_if (st_val (sx_call c h_law_is_out (by omega) rfl (sa_cons (se_v 0) sa_nil))) (ss_one (ss_set (i := 1) c.xi c.nd rfl (by first | exact Or.inl rfl | exact Or.inr rfl) (se_tup (sa_cons se_str (sa_cons (se_v 0) sa_nil))))) ss_nil)
    (ss_cons (ss_if (st_not (st_val (sx_call c h_law_same (by omega) rfl (sa_cons (sx_call c h_law_out_told (by omega) rfl (sa_cons (se_v 0) sa_nil)) (sa_cons (se_v 1) sa_nil))))) (ss_one (ss_ret se_bl)) ss_nil)
    (ss_cons (ss_set (i := 1) c.xi c.nd rfl (by first | exact Or.inl rfl | exact Or.inr rfl) (se_tup (sa_cons se_str sa_nil)))
    (ss_cons (ss_if (st_val (sx_call c h_law_is_in (by omega) rfl (sa_cons (se_v 0) sa_nil))) (ss_one (ss_set (i := 1) c.xi c.nd rfl (by first | exact Or.inl rfl | exact Or.inr rfl) (se_tup (sa_cons se_str (sa_cons (se_v 0) sa_nil))))) ss_nil)
    (ss_one (ss_ret (sx_call c h_law_same (by omega) rfl (sa_cons (sx_call c h_law_in_told (by omega) rfl (sa_cons (se_v 0) sa_nil)) (sa_cons (se_v 1) sa_nil))))))))))

/-! ### _law_goes_on -/
def g_law_goes_on_b1 : En → Store → Res := (sIf (bV (eB2 vEq (eB2 vIx (eB2 vIx (eB2 vIx (eV 2) (eC (.int 1))) (eV 9)) (eC (.int 0))) (eB2 vAdd (eB2 vAdd (eB2 vIx (eV 2) (eC (.int 0))) (eC (.int 1))) (eV 9)))) (sExpr (eLm lAppend (eV 8) (aCons (eB2 vIx (eB2 vIx (eB2 vIx (eV 2) (eC (.int 1))) (eV 9)) (eC (.int 1))) aNil))) sNil)
def g_law_goes_on_s : En → Store → Res := (sSeq (sSet 3 (eCall g_outgoing_of (aCons (eV 1) aNil))) (sSeq (sSet 4 (eMeth "copy" [("Outgoing", g_Outgoing_copy)] (eV 3) aNil)) (sSeq (sIf (bOr (bNot (bV (eCall (g_law_same 20) (aCons (eMeth "put" [("Outgoing", g_Outgoing_put)] (eV 3) (aCons (eTup (aCons (eC (.str "new")) aNil)) aNil)) (aCons (eB2 vAdd (eB2 vIx (eV 1) (eC (.int 0))) (eCall fLen (aCons (eB2 vIx (eV 1) (eC (.int 1))) aNil))) aNil))))) (bNot (bV (eCall (g_law_same 20) (aCons (eMeth "state" [("Outgoing", g_Outgoing_state)] (eV 4) aNil) (aCons (eV 1) aNil)))))) (sRet (eC (.bl false))) sNil) (sSeq (sSet 5 (eB2 vAdd (eB2 vIx (eV 1) (eC (.int 0))) (eCall g_law_take (aCons (eV 0) (aCons (eB2 vAdd (eCall fLen (aCons (eB2 vIx (eV 1) (eC (.int 1))) aNil)) (eC (.int 1))) aNil))))) (sSeq (sIf (bNot (bV (eCall (g_law_same 20) (aCons (eMeth "known" [("Outgoing", g_Outgoing_known)] (eV 3) (aCons (eV 5) aNil)) (aCons (eB2 vSub (eV 5) (eB2 vIx (eV 1) (eC (.int 0)))) aNil))))) (sRet (eC (.bl false))) sNil) (sSeq (sIf (bNot (bV (eCall (g_law_same 20) (aCons (eMeth "state" [("Outgoing", g_Outgoing_state)] (eV 3) aNil) (aCons (eTup (aCons (eV 5) (aCons (eB2 vAdd (eSl (eB2 vIx (eV 1) (eC (.int 1))) (pSome (eB2 vSub (eV 5) (eB2 vIx (eV 1) (eC (.int 0))))) pNo) (eTup (aCons (eTup (aCons (eC (.str "new")) aNil)) aNil))) aNil))) aNil))))) (sRet (eC (.bl false))) sNil) (sSeq (sSet 6 (eCall g_incoming_of (aCons (eV 2) aNil))) (sSeq (sSet 7 (eMeth "copy" [("Incoming", g_Incoming_copy)] (eV 6) aNil)) (sSeq (sIf (bV (eB2 vLt (eB2 vIx (eV 2) (eC (.int 0))) (eB2 vSub (eB2 vPow (eC (.int 2)) (eC (.int 32))) (eC (.int 1))))) (sSeq (sSet 8 (eLst (aCons (eTup (aCons (eC (.str "gap")) aNil)) aNil))) (sSeq (sFor (iR1 (aCons (eCall fLen (aCons (eB2 vIx (eV 2) (eC (.int 1))) aNil)) aNil)) (gN 9) g_law_goes_on_b1) (sSeq (sIf (bNot (bV (eCall (g_law_same 20) (aCons (eMeth "take" [("Incoming", g_Incoming_take)] (eV 6) (aCons (eB2 vIx (eV 2) (eC (.int 0))) (aCons (eTup (aCons (eC (.str "gap")) aNil)) aNil))) (aCons (eV 8) aNil))))) (sRet (eC (.bl false))) sNil) (sSeq (sSet 10 (eSl (eB2 vIx (eV 2) (eC (.int 1))) (pSome (eB2 vSub (eCall fLen (aCons (eV 8) aNil)) (eC (.int 1)))) pNo)) (sIf (bNot (bV (eCall (g_law_same 20) (aCons (eMeth "state" [("Incoming", g_Incoming_state)] (eV 6) aNil) (aCons (eTup (aCons (eB2 vAdd (eB2 vIx (eV 2) (eC (.int 0))) (eCall fLen (aCons (eV 8) aNil))) (aCons (eV 10) aNil))) aNil))))) (sRet (eC (.bl false))) sNil))))) sNil) (sRet (eCall (g_law_same 20) (aCons (eMeth "state" [("Incoming", g_Incoming_state)] (eV 7) aNil) (aCons (eV 2) aNil)))))))))))))
def g_law_goes_on : Fn := fnB 11 3 g_law_goes_on_s
theorem sc_law_goes_on : FnScope ["_law_hand_here", "_law_state", "_law_other", "_law_out", "_law_twin", "_law_number", "_law_end", "_law_copied", "_law_due", "_law_k", "_law_left"] ["_law_hand_here", "_law_state", "_law_other"] (defScope s_law_goes_on) := ⟨rfl, rfl, rfl, by decide +kernel, rfl, by decide +kernel, by decide +kernel⟩
theorem ok_law_goes_on {f : Addr} {fd : FuncData} (T : Txt K mg) (F : FunS K "_law_goes_on" "_law_goes_on" s_law_goes_on f fd) (hm : mg "_law_goes_on" = some (.ref f)) (h_outgoing_of : FnAt P w K mg base (YY K) 4 1 "outgoing_of" g_outgoing_of) (h_Outgoing_copy : MeAt P w K mg base (YY K) 3 1 "Outgoing" "copy" g_Outgoing_copy) (h_Outgoing_put : MeAt P w K mg base (YY K) 2 2 "Outgoing" "put" g_Outgoing_put) (h_law_same : FnAt P w K mg base (YY K) 22 2 "_law_same" (g_law_same 20)) (h_Outgoing_state : MeAt P w K mg base (YY K) 1 1 "Outgoing" "state" g_Outgoing_state) (h_law_take : FnAt P w K mg base (YY K) 1 2 "_law_take" g_law_take) (h_Outgoing_known : MeAt P w K mg base (YY K) 3 2 "Outgoing" "known" g_Outgoing_known) (h_incoming_of : FnAt P w K mg base (YY K) 4 1 "incoming_of" g_incoming_of) (h_Incoming_copy : MeAt P w K mg base (YY K) 3 1 "Incoming" "copy" g_Incoming_copy) (h_Incoming_take : MeAt P w K mg base (YY K) 3 3 "Incoming" "take" g_Incoming_take) (h_Incoming_state : MeAt P w K mg base (YY K) 2 1 "Incoming" "state" g_Incoming_state) : FnAt P w K mg base (YY K) 23 3 "_law_goes_on" g_law_goes_on :=
  FnAt.of (k := 22) (g := g_law_goes_on_s) F hm sc_law_goes_on (fun _ _ _ _ _ _ us hl => match us, hl with | [_, _, _], _ => rfl) rfl fun cdv A outer s H E c =>
    (ss_cons (ss_set (i := 3) c.xi c.nd rfl (by first | exact Or.inl rfl | exact Or.inr rfl) (sx_call c h_outgoing_of (by omega) rfl (sa_cons (se_v 1) sa_nil)))
    (ss_cons (ss_set (i := 4) c.xi c.nd rfl (by first | exact Or.inl rfl | exact Or.inr rfl) (se_meth0 (m := "copy") (l := [("Outgoing", g_Outgoing_copy)]) c T.kls (mel_cons h_Outgoing_copy (by omega) mel_nil) (se_v 3)))
    (ss_cons (ss_if (SW.st (sw_or (st_not (st_val (sx_call c h_law_same (by omega) rfl (sa_cons (se_meth (m := "put") (l := [("Outgoing", g_Outgoing_put)]) c T.kls (mel_cons h_Outgoing_put (by omega) mel_nil) (se_v 3) (sa_cons (se_tup (sa_cons se_str sa_nil)) sa_nil)) (sa_cons (se_add (se_ix c.u1 (se_v 1) se_int) (se_len rfl T.b_len (sa_cons (se_ix c.u1 (se_v 1) se_int) sa_nil))) sa_nil))))) (sw_or1 (st_not (st_val (sx_call c h_law_same (by omega) rfl (sa_cons (se_meth0 (m := "state") (l := [("Outgoing", g_Outgoing_state)]) c T.kls (mel_cons h_Outgoing_state (by omega) mel_nil) (se_v 4)) (sa_cons (se_v 1) sa_nil)))))))) (ss_one (ss_ret se_bl)) ss_nil)
    (ss_cons (ss_set (i := 5) c.xi c.nd rfl (by first | exact Or.inl rfl | exact Or.inr rfl) (se_add (se_ix c.u1 (se_v 1) se_int) (sx_call c h_law_take (by omega) rfl (sa_cons (se_v 0) (sa_cons (se_add (se_len rfl T.b_len (sa_cons (se_ix c.u1 (se_v 1) se_int) sa_nil)) se_int) sa_nil)))))
    (ss_cons (ss_if (st_not (st_val (sx_call c h_law_same (by omega) rfl (sa_cons (se_meth (m := "known") (l := [("Outgoing", g_Outgoing_known)]) c T.kls (mel_cons h_Outgoing_known (by omega) mel_nil) (se_v 3) (sa_cons (se_v 5) sa_nil)) (sa_cons (se_sub (se_v 5) (se_ix c.u1 (se_v 1) se_int)) sa_nil))))) (ss_one (ss_ret se_bl)) ss_nil)
    (ss_cons (ss_if (st_not (st_val (sx_call c h_law_same (by omega) rfl (sa_cons (se_meth0 (m := "state") (l := [("Outgoing", g_Outgoing_state)]) c T.kls (mel_cons h_Outgoing_state (by omega) mel_nil) (se_v 3)) (sa_cons (se_tup (sa_cons (se_v 5) (sa_cons (se_add (se_sl (se_ix c.u1 (se_v 1) se_int) (so_some (se_sub (se_v 5) (se_ix c.u1 (se_v 1) se_int))) so_no) (se_tup (sa_cons (se_tup (sa_cons se_str sa_nil)) sa_nil))) sa_nil))) sa_nil))))) (ss_one (ss_ret se_bl)) ss_nil)
    (ss_cons (ss_set (i := 6) c.xi c.nd rfl (by first | exact Or.inl rfl | exact Or.inr rfl) (sx_call c h_incoming_of (by omega) rfl (sa_cons (se_v 2) sa_nil)))
    (ss_cons (ss_set (i := 7) c.xi c.nd rfl (by first | exact Or.inl rfl | exact Or.inr rfl) (se_meth0 (m := "copy") (l := [("Incoming", g_Incoming_copy)]) c T.kls (mel_cons h_Incoming_copy (by omega) mel_nil) (se_v 6)))
    (ss_cons (ss_if (st_lt c.u0 (se_ix c.u1 (se_v 2) se_int) (se_sub (se_pow se_int se_int) se_int)) (ss_cons (ss_set (i := 8) c.xi c.nd rfl (by first | exact Or.inl rfl | exact Or.inr rfl) (se_lst (sa_cons (se_tup (sa_cons se_str sa_nil)) sa_nil)))
    (ss_cons (ss_for c.hp c.calm (si_r1 rfl T.b_range (sa_cons (se_len rfl T.b_len (sa_cons (se_ix c.u1 (se_v 2) se_int) sa_nil)) sa_nil)) (sg_name (i := 9) c.xi c.nd rfl (by first | exact Or.inl rfl | exact Or.inr rfl)) (ss_one (ss_if (st_eq c.u64 (se_ix c.u1 (se_ix c.u1 (se_ix c.u1 (se_v 2) se_int) (se_v 9)) se_int) (se_add (se_add (se_ix c.u1 (se_v 2) se_int) se_int) (se_v 9))) (ss_one (ss_expr (se_append (se_v 8) (sa_cons (se_ix c.u1 (se_ix c.u1 (se_ix c.u1 (se_v 2) se_int) (se_v 9)) se_int) sa_nil)))) ss_nil)))
    (ss_cons (ss_if (st_not (st_val (sx_call c h_law_same (by omega) rfl (sa_cons (se_meth (m := "take") (l := [("Incoming", g_Incoming_take)]) c T.kls (mel_cons h_Incoming_take (by omega) mel_nil) (se_v 6) (sa_cons (se_ix c.u1 (se_v 2) se_int) (sa_cons (se_tup (sa_cons se_str sa_nil)) sa_nil))) (sa_cons (se_v 8) sa_nil))))) (ss_one (ss_ret se_bl)) ss_nil)
    (ss_cons (ss_set (i := 10) c.xi c.nd rfl (by first | exact Or.inl rfl | exact Or.inr rfl) (se_sl (se_ix c.u1 (se_v 2) se_int) (so_some (se_sub (se_len rfl T.b_len (sa_cons (se_v 8) sa_nil)) se_int)) so_no))
    (ss_one (ss_if (st_not (st_val (sx_call c h_law_same (by omega) rfl (sa_cons (se_meth0 (m := "state") (l := [("Incoming", g_Incoming_state)]) c T.kls (mel_cons h_Incoming_state (by omega) mel_nil) (se_v 6)) (sa_cons (se_tup (sa_cons (se_add (se_ix c.u1 (se_v 2) se_int) (se_len rfl T.b_len (sa_cons (se_v 8) sa_nil))) (sa_cons (se_v 10) sa_nil))) sa_nil))))) (ss_one (ss_ret se_bl)) ss_nil)))))) ss_nil)
    (ss_one (ss_ret (sx_call c h_law_same (by omega) rfl (sa_cons (se_meth0 (m := "state") (l := [("Incoming", g_Incoming_state)]) c T.kls (mel_cons h_Incoming_state (by omega) mel_nil) (se_v 7)) (sa_cons (se_v 2) sa_nil))))))))))))))

/-! ### _law_second -/
def g_law_second_b1 : En → Store → Res := (sIf (bOr (bNot (bV (eCall g_law_judged (aCons (eCall g_law_spoilt (aCons (eV 1) (aCons (eV 2) aNil))) aNil)))) (bNot (bV (eCall g_law_judged (aCons (eCall g_law_spoilt (aCons (eV 1) (aCons (eV 3) aNil))) aNil))))) (sRet (eC (.bl false))) sNil)
def g_law_second_s : En → Store → Res := (sSeq (sSet 1 (eCall g_law_hand (aCons (eV 0) aNil))) (sSeq (sSet 2 (eCall g_law_out_state (aCons (eV 1) aNil))) (sSeq (sSet 3 (eCall g_law_in_state (aCons (eV 1) aNil))) (sSeq (sIf (bOr (bNot (bV (eCall g_law_judged (aCons (eV 2) aNil)))) (bOr (bNot (bV (eCall g_law_judged (aCons (eV 3) aNil)))) (bNot (bV (eCall g_law_goes_on (aCons (eV 1) (aCons (eV 2) (aCons (eV 3) aNil)))))))) (sRet (eC (.bl false))) sNil) (sSeq (sFor (iR1 (aCons (eC (.int 4)) aNil)) (gN 4) g_law_second_b1) (sRet (eAnd (eCall (g_law_same 20) (aCons (eMeth "state" [("Outgoing", g_Outgoing_state)] (eCall (fMake "Outgoing" g_Outgoing_init) aNil) aNil) (aCons (eTup (aCons (eC (.int 0)) (aCons (eTup aNil) aNil))) aNil))) (eCall (g_law_same 20) (aCons (eMeth "state" [("Incoming", g_Incoming_state)] (eCall (fMake "Incoming" g_Incoming_init) aNil) aNil) (aCons (eTup (aCons (eC (.int 0)) (aCons (eTup aNil) aNil))) aNil))))))))))
def g_law_second : Fn := fnB 5 1 g_law_second_s
theorem sc_law_second : FnScope ["_law_script", "_law_hand_here", "_law_state", "_law_other", "_law_k"] ["_law_script"] (defScope s_law_second) := ⟨rfl, rfl, rfl, by decide +kernel, rfl, by decide +kernel, by decide +kernel⟩
theorem ok_law_second {f : Addr} {fd : FuncData} (T : Txt K mg) (F : FunS K "_law_second" "_law_second" s_law_second f fd) (hm : mg "_law_second" = some (.ref f)) (h_law_hand : FnAt P w K mg base (YY K) 1 1 "_law_hand" g_law_hand) (h_law_out_state : FnAt P w K mg base (YY K) 4 1 "_law_out_state" g_law_out_state) (h_law_in_state : FnAt P w K mg base (YY K) 4 1 "_law_in_state" g_law_in_state) (h_law_judged : FnAt P w K mg base (YY K) 23 1 "_law_judged" g_law_judged) (h_law_goes_on : FnAt P w K mg base (YY K) 23 3 "_law_goes_on" g_law_goes_on) (h_law_spoilt : FnAt P w K mg base (YY K) 3 2 "_law_spoilt" g_law_spoilt) (h_Outgoing : MkAt P w K mg base (YY K) 1 1 "Outgoing" g_Outgoing_init) (h_Outgoing_state : MeAt P w K mg base (YY K) 1 1 "Outgoing" "state" g_Outgoing_state) (h_law_same : FnAt P w K mg base (YY K) 22 2 "_law_same" (g_law_same 20)) (h_Incoming : MkAt P w K mg base (YY K) 1 1 "Incoming" g_Incoming_init) (h_Incoming_state : MeAt P w K mg base (YY K) 2 1 "Incoming" "state" g_Incoming_state) : FnAt P w K mg base (YY K) 24 1 "_law_second" g_law_second :=
  FnAt.of (k := 23) (g := g_law_second_s) F hm sc_law_second (fun _ _ _ _ _ _ us hl => match us, hl with | [_], _ => rfl) rfl fun cdv A outer s H E c =>
    (ss_cons (ss_set (i := 1) c.xi c.nd rfl (by first | exact Or.inl rfl | exact Or.inr rfl) (sx_call c h_law_hand (by omega) rfl (sa_cons (se_v 0) sa_nil)))
    (ss_cons (ss_set (i := 2) c.xi c.nd rfl (by first | exact Or.inl rfl | exact Or.inr rfl) (sx_call c h_law_out_state (by omega) rfl (sa_cons (se_v 1) sa_nil)))
    (ss_cons (ss_set (i := 3) c.xi c.nd rfl (by first | exact Or.inl rfl | exact Or.inr rfl) (sx_call c h_law_in_state (by omega) rfl (sa_cons (se_v 1) sa_nil)))
    (ss_cons (ss_if (SW.st (sw_or (st_not (st_val (sx_call c h_law_judged (by omega) rfl (sa_cons (se_v 2) sa_nil)))) (sw_or (st_not (st_val (sx_call c h_law_judged (by omega) rfl (sa_cons (se_v 3) sa_nil)))) (sw_or1 (st_not (st_val (sx_call c h_law_goes_on (by omega) rfl (sa_cons (se_v 1) (sa_cons (se_v 2) (sa_cons (se_v 3) sa_nil)))))))))) (ss_one (ss_ret se_bl)) ss_nil)
    (ss_cons (ss_for c.hp c.calm (si_r1 rfl T.b_range (sa_cons se_int sa_nil)) (sg_name (i := 4) c.xi c.nd rfl (by first | exact Or.inl rfl | exact Or.inr rfl)) (ss_one (ss_if (SW.st (sw_or (st_not (st_val (sx_call c h_law_judged (by omega) rfl (sa_cons (sx_call c h_law_spoilt (by omega) rfl (sa_cons (se_v 1) (sa_cons (se_v 2) sa_nil))) sa_nil)))) (sw_or1 (st_not (st_val (sx_call c h_law_judged (by omega) rfl (sa_cons (sx_call c h_law_spoilt (by omega) rfl (sa_cons (se_v 1) (sa_cons (se_v 3) sa_nil))) sa_nil))))))) (ss_one (ss_ret se_bl)) ss_nil)))
    (ss_one (ss_ret (se_and (sx_call c h_law_same (by omega) rfl (sa_cons (se_meth0 (m := "state") (l := [("Outgoing", g_Outgoing_state)]) c T.kls (mel_cons h_Outgoing_state (by omega) mel_nil) (sx_make0 c h_Outgoing (by omega) rfl)) (sa_cons (se_tup (sa_cons se_int (sa_cons (se_tup sa_nil) sa_nil))) sa_nil))) (se_one (sx_call c h_law_same (by omega) rfl (sa_cons (se_meth0 (m := "state") (l := [("Incoming", g_Incoming_state)]) c T.kls (mel_cons h_Incoming_state (by omega) mel_nil) (sx_make0 c h_Incoming (by omega) rfl)) (sa_cons (se_tup (sa_cons se_int (sa_cons (se_tup sa_nil) sa_nil))) sa_nil))))))))))))

/-! ### law -/
def g_law_s : En → Store → Res := (sRet (eAnd (eCall g_law_first (aCons (eV 0) aNil)) (eCall g_law_second (aCons (eV 0) aNil))))
def g_law : Fn := fnB 1 1 g_law_s
theorem sc_law : FnScope ["_law_script"] ["_law_script"] (defScope s_law) := ⟨rfl, rfl, rfl, by decide +kernel, rfl, by decide +kernel, by decide +kernel⟩
theorem ok_law {f : Addr} {fd : FuncData} (T : Txt K mg) (F : FunS K "law" "law" s_law f fd) (h_law_first : FnAt P w K mg base (YY K) 24 1 "_law_first" g_law_first) (h_law_second : FnAt P w K mg base (YY K) 24 1 "_law_second" g_law_second) : FnOk P w K mg base (L2.CX P w) 25 f fd ["_law_script"] (spOf K (YY K) 1 g_law) :=
  fn_ok (k := 24) (g := g_law_s) F.fun sc_law rfl fun cdv A outer s H E c =>
    (ss_one (ss_ret (se_and (sx_call c h_law_first (by omega) rfl (sa_cons (se_v 0) sa_nil)) (se_one (sx_call c h_law_second (by omega) rfl (sa_cons (se_v 0) sa_nil))))))

/-! ### the facts of the top -/
def dl0 : List He.DefD := [⟨("NoNumber", some "__init__"), "__init__", "NoNumber.__init__", defArgs s_NoNumber_init, defBody s_NoNumber_init, defScope s_NoNumber_init, [], []⟩,
  ⟨("NoState", some "__init__"), "__init__", "NoState.__init__", defArgs s_NoState_init, defBody s_NoState_init, defScope s_NoState_init, [], []⟩,
  ⟨("is_number", none), "is_number", "is_number", defArgs s_is_number, defBody s_is_number, defScope s_is_number, [], []⟩,
  ⟨("is_thing", none), "is_thing", "is_thing", defArgs s_is_thing, defBody s_is_thing, defScope s_is_thing, [], []⟩,
  ⟨("is_link_number", none), "is_link_number", "is_link_number", defArgs s_is_link_number, defBody s_is_link_number, defScope s_is_link_number, [], []⟩,
  ⟨("is_pair", none), "is_pair", "is_pair", defArgs s_is_pair, defBody s_is_pair, defScope s_is_pair, [], []⟩,
  ⟨("Outgoing", some "__init__"), "__init__", "Outgoing.__init__", defArgs s_Outgoing_init, defBody s_Outgoing_init, defScope s_Outgoing_init, [], []⟩,
  ⟨("Outgoing", some "put"), "put", "Outgoing.put", defArgs s_Outgoing_put, defBody s_Outgoing_put, defScope s_Outgoing_put, [], []⟩,
  ⟨("Outgoing", some "known"), "known", "Outgoing.known", defArgs s_Outgoing_known, defBody s_Outgoing_known, defScope s_Outgoing_known, [], []⟩,
  ⟨("Outgoing", some "waiting"), "waiting", "Outgoing.waiting", defArgs s_Outgoing_waiting, defBody s_Outgoing_waiting, defScope s_Outgoing_waiting, [], []⟩,
  ⟨("Outgoing", some "many_put"), "many_put", "Outgoing.many_put", defArgs s_Outgoing_many_put, defBody s_Outgoing_many_put, defScope s_Outgoing_many_put, [], []⟩,
  ⟨("Outgoing", some "state"), "state", "Outgoing.state", defArgs s_Outgoing_state, defBody s_Outgoing_state, defScope s_Outgoing_state, [], []⟩,
  ⟨("Outgoing", some "copy"), "copy", "Outgoing.copy", defArgs s_Outgoing_copy, defBody s_Outgoing_copy, defScope s_Outgoing_copy, [], []⟩,
  ⟨("is_outgoing_state", none), "is_outgoing_state", "is_outgoing_state", defArgs s_is_outgoing_state, defBody s_is_outgoing_state, defScope s_is_outgoing_state, [], []⟩,
  ⟨("outgoing_of", none), "outgoing_of", "outgoing_of", defArgs s_outgoing_of, defBody s_outgoing_of, defScope s_outgoing_of, [], []⟩,
  ⟨("Incoming", some "__init__"), "__init__", "Incoming.__init__", defArgs s_Incoming_init, defBody s_Incoming_init, defScope s_Incoming_init, [], []⟩,
  ⟨("Incoming", some "take"), "take", "Incoming.take", defArgs s_Incoming_take, defBody s_Incoming_take, defScope s_Incoming_take, [], []⟩,
  ⟨("Incoming", some "taken"), "taken", "Incoming.taken", defArgs s_Incoming_taken, defBody s_Incoming_taken, defScope s_Incoming_taken, [], []⟩,
  ⟨("Incoming", some "held"), "held", "Incoming.held", defArgs s_Incoming_held, defBody s_Incoming_held, defScope s_Incoming_held, [], []⟩,
  ⟨("Incoming", some "state"), "state", "Incoming.state", defArgs s_Incoming_state, defBody s_Incoming_state, defScope s_Incoming_state, [], []⟩,
  ⟨("Incoming", some "copy"), "copy", "Incoming.copy", defArgs s_Incoming_copy, defBody s_Incoming_copy, defScope s_Incoming_copy, [], []⟩,
  ⟨("are_held", none), "are_held", "are_held", defArgs s_are_held, defBody s_are_held, defScope s_are_held, [], []⟩,
  ⟨("is_incoming_state", none), "is_incoming_state", "is_incoming_state", defArgs s_is_incoming_state, defBody s_is_incoming_state, defScope s_is_incoming_state, [], []⟩,
  ⟨("incoming_of", none), "incoming_of", "incoming_of", defArgs s_incoming_of, defBody s_incoming_of, defScope s_incoming_of, [], []⟩,
  ⟨("_law_hand", none), "_law_hand", "_law_hand", defArgs s_law_hand, defBody s_law_hand, defScope s_law_hand, [], []⟩,
  ⟨("_law_take", none), "_law_take", "_law_take", defArgs s_law_take, defBody s_law_take, defScope s_law_take, [], []⟩,
  ⟨("_law_pick", none), "_law_pick", "_law_pick", defArgs s_law_pick, defBody s_law_pick, defScope s_law_pick, [], []⟩,
  ⟨("_law_is_integer", none), "_law_is_integer", "_law_is_integer", defArgs s_law_is_integer, defBody s_law_is_integer, defScope s_law_is_integer, [], []⟩,
  ⟨("_law_same", none), "_law_same", "_law_same", defArgs s_law_same, defBody s_law_same, defScope s_law_same, [], []⟩,
  ⟨("_law_item", none), "_law_item", "_law_item", defArgs s_law_item, defBody s_law_item, defScope s_law_item, [], []⟩]
def dl1 : List He.DefD := [⟨("_law_thing", none), "_law_thing", "_law_thing", defArgs s_law_thing, defBody s_law_thing, defScope s_law_thing, [], []⟩,
  ⟨("_law_heard", none), "_law_heard", "_law_heard", defArgs s_law_heard, defBody s_law_heard, defScope s_law_heard, [], []⟩,
  ⟨("_law_ends_right", none), "_law_ends_right", "_law_ends_right", defArgs s_law_ends_right, defBody s_law_ends_right, defScope s_law_ends_right, [], []⟩,
  ⟨("_law_deed", none), "_law_deed", "_law_deed", defArgs s_law_deed, defBody s_law_deed, defScope s_law_deed, [], []⟩,
  ⟨("_law_drained", none), "_law_drained", "_law_drained", defArgs s_law_drained, defBody s_law_drained, defScope s_law_drained, [], []⟩,
  ⟨("_law_first", none), "_law_first", "_law_first", defArgs s_law_first, defBody s_law_first, defScope s_law_first, [], []⟩,
  ⟨("_law_is_within", none), "_law_is_within", "_law_is_within", defArgs s_law_is_within, defBody s_law_is_within, defScope s_law_is_within, [], []⟩,
  ⟨("_law_odd", none), "_law_odd", "_law_odd", defArgs s_law_odd, defBody s_law_odd, defScope s_law_odd, [], []⟩,
  ⟨("_law_is_thing", none), "_law_is_thing", "_law_is_thing", defArgs s_law_is_thing, defBody s_law_is_thing, defScope s_law_is_thing, [], []⟩,
  ⟨("_law_some_thing", none), "_law_some_thing", "_law_some_thing", defArgs s_law_some_thing, defBody s_law_some_thing, defScope s_law_some_thing, [], []⟩,
  ⟨("_law_out_state", none), "_law_out_state", "_law_out_state", defArgs s_law_out_state, defBody s_law_out_state, defScope s_law_out_state, [], []⟩,
  ⟨("_law_in_state", none), "_law_in_state", "_law_in_state", defArgs s_law_in_state, defBody s_law_in_state, defScope s_law_in_state, [], []⟩,
  ⟨("_law_spoilt", none), "_law_spoilt", "_law_spoilt", defArgs s_law_spoilt, defBody s_law_spoilt, defScope s_law_spoilt, [], []⟩,
  ⟨("_law_is_out", none), "_law_is_out", "_law_is_out", defArgs s_law_is_out, defBody s_law_is_out, defScope s_law_is_out, [], []⟩,
  ⟨("_law_is_in", none), "_law_is_in", "_law_is_in", defArgs s_law_is_in, defBody s_law_is_in, defScope s_law_is_in, [], []⟩,
  ⟨("_law_out_told", none), "_law_out_told", "_law_out_told", defArgs s_law_out_told, defBody s_law_out_told, defScope s_law_out_told, [], []⟩,
  ⟨("_law_in_told", none), "_law_in_told", "_law_in_told", defArgs s_law_in_told, defBody s_law_in_told, defScope s_law_in_told, [], []⟩,
  ⟨("_law_judged", none), "_law_judged", "_law_judged", defArgs s_law_judged, defBody s_law_judged, defScope s_law_judged, [], []⟩,
  ⟨("_law_goes_on", none), "_law_goes_on", "_law_goes_on", defArgs s_law_goes_on, defBody s_law_goes_on, defScope s_law_goes_on, [], []⟩,
  ⟨("_law_second", none), "_law_second", "_law_second", defArgs s_law_second, defBody s_law_second, defScope s_law_second, [], []⟩,
  ⟨("law", none), "law", "law", defArgs s_law, defBody s_law, defScope s_law, [], []⟩]
def dl : List He.DefD := dl0 ++ dl1
def fl0 : List He.Fa := [.glo "is_number",
  .glo "is_thing",
  .glo "is_link_number",
  .glo "is_pair",
  .glo "is_outgoing_state",
  .glo "outgoing_of",
  .glo "are_held",
  .glo "is_incoming_state",
  .glo "incoming_of",
  .glo "_law_hand",
  .glo "_law_take",
  .glo "_law_pick",
  .glo "_law_is_integer",
  .glo "_law_same",
  .glo "_law_item",
  .glo "_law_thing",
  .glo "_law_heard",
  .glo "_law_ends_right",
  .glo "_law_deed",
  .glo "_law_drained",
  .glo "_law_first",
  .glo "_law_is_within",
  .glo "_law_odd",
  .glo "_law_is_thing",
  .glo "_law_some_thing",
  .glo "_law_out_state",
  .glo "_law_in_state",
  .glo "_law_spoilt",
  .glo "_law_is_out",
  .glo "_law_is_in"]
def fl1 : List He.Fa := [.glo "_law_out_told",
  .glo "_law_in_told",
  .glo "_law_judged",
  .glo "_law_goes_on",
  .glo "_law_second",
  .glo "law",
  .glo "RoadError",
  .glo "NoNumber",
  .glo "NoState",
  .glo "Outgoing",
  .glo "Incoming",
  .free "all",
  .free "bool",
  .free "dict",
  .free "enumerate",
  .free "int",
  .free "isinstance",
  .free "len",
  .free "list",
  .free "max",
  .free "range",
  .free "sorted",
  .free "str",
  .free "tuple",
  .free "zip",
  .int "NUMBER_LIMIT" (4294967296),
  .int "WINDOW" (1000),
  .mkr "Outgoing",
  .mkr "Incoming",
  .meth "Outgoing" "put"]
def fl2 : List He.Fa := [.meth "Outgoing" "known",
  .meth "Outgoing" "waiting",
  .meth "Outgoing" "many_put",
  .meth "Outgoing" "state",
  .meth "Outgoing" "copy",
  .meth "Incoming" "take",
  .meth "Incoming" "taken",
  .meth "Incoming" "held",
  .meth "Incoming" "state",
  .meth "Incoming" "copy"]
def fl : List He.Fa := fl0 ++ fl1 ++ fl2
def xl0 : List FB := [klsB owns,
  nofB ["Incoming"] "ahead",
  nofB ["Outgoing"] "many_known",
  nofB ["Incoming"] "many_taken",
  nofB ["Outgoing"] "things",
  hdB errs "NoState" (fun q => q == "NoState"),
  erB "NoNumber",
  erB "NoState"]
def xl : List FB := xl0
section
variable {P : Program} {w : World} {K : PySem.W.Frag} {mg : Str → Option Value} {h : Heap}
theorem txt (X : K.In h) (G : h.Ns mainGlobals mg) (c : SaysM fl dl xl K) : Txt K mg where
  b_all := He.free_ok X G (c.f 41)
  b_bool := He.free_ok X G (c.f 42)
  b_dict := He.free_ok X G (c.f 43)
  b_enumerate := He.free_ok X G (c.f 44)
  b_int := He.free_ok X G (c.f 45)
  b_isinstance := He.free_ok X G (c.f 46)
  b_len := He.free_ok X G (c.f 47)
  b_list := He.free_ok X G (c.f 48)
  b_max := He.free_ok X G (c.f 49)
  b_range := He.free_ok X G (c.f 50)
  b_sorted := He.free_ok X G (c.f 51)
  b_str := He.free_ok X G (c.f 52)
  b_tuple := He.free_ok X G (c.f 53)
  b_zip := He.free_ok X G (c.f 54)
  con_NUMBER_LIMIT := He.int_ok X G (c.f 55)
  con_WINDOW := He.int_ok X G (c.f 56)
  kls := kls_of (c.x 0)
  nf_ahead := nof_of (c.x 1)
  nf_many_known := nof_of (c.x 2)
  nf_many_taken := nof_of (c.x 3)
  nf_things := nof_of (c.x 4)
  hd_NoState := hd_of (by decide) (He.glo_ok X G (c.f 38)) (c.x 5)
theorem all_ok {fa : Addr} (X : K.In h) (G : h.Ns mainGlobals mg) (hfa : mg "law" = some (.ref fa)) (c : SaysM fl dl xl K) :
    ∃ fd : FuncData, (∀ (s : Shared) (v : Value), BindsTo s fd ⟨[v], []⟩ [("_law_script", v)]) ∧ ∀ base : Heap, FnOk P w K mg base (L2.CX P w) 25 fa fd ["_law_script"] (spOf K (YY K) 1 g_law) := by
  have T := txt X G c
  obtain ⟨fd_NoNumber_init, F_NoNumber_init⟩ := c.d.def_ 0 (d := ⟨("NoNumber", some "__init__"), _, _, _, _, _, _, _⟩) rfl
  obtain ⟨fd_NoState_init, F_NoState_init⟩ := c.d.def_ 1 (d := ⟨("NoState", some "__init__"), _, _, _, _, _, _, _⟩) rfl
  obtain ⟨fd_is_number, F_is_number⟩ := c.d.def_ 2 (d := ⟨("is_number", none), _, _, _, _, _, _, _⟩) rfl
  obtain ⟨fd_is_thing, F_is_thing⟩ := c.d.def_ 3 (d := ⟨("is_thing", none), _, _, _, _, _, _, _⟩) rfl
  obtain ⟨fd_is_link_number, F_is_link_number⟩ := c.d.def_ 4 (d := ⟨("is_link_number", none), _, _, _, _, _, _, _⟩) rfl
  obtain ⟨fd_is_pair, F_is_pair⟩ := c.d.def_ 5 (d := ⟨("is_pair", none), _, _, _, _, _, _, _⟩) rfl
  obtain ⟨fd_Outgoing_init, F_Outgoing_init⟩ := c.d.def_ 6 (d := ⟨("Outgoing", some "__init__"), _, _, _, _, _, _, _⟩) rfl
  obtain ⟨fd_Outgoing_put, F_Outgoing_put⟩ := c.d.def_ 7 (d := ⟨("Outgoing", some "put"), _, _, _, _, _, _, _⟩) rfl
  obtain ⟨fd_Outgoing_known, F_Outgoing_known⟩ := c.d.def_ 8 (d := ⟨("Outgoing", some "known"), _, _, _, _, _, _, _⟩) rfl
  obtain ⟨fd_Outgoing_waiting, F_Outgoing_waiting⟩ := c.d.def_ 9 (d := ⟨("Outgoing", some "waiting"), _, _, _, _, _, _, _⟩) rfl
  obtain ⟨fd_Outgoing_many_put, F_Outgoing_many_put⟩ := c.d.def_ 10 (d := ⟨("Outgoing", some "many_put"), _, _, _, _, _, _, _⟩) rfl
  obtain ⟨fd_Outgoing_state, F_Outgoing_state⟩ := c.d.def_ 11 (d := ⟨("Outgoing", some "state"), _, _, _, _, _, _, _⟩) rfl
  obtain ⟨fd_Outgoing_copy, F_Outgoing_copy⟩ := c.d.def_ 12 (d := ⟨("Outgoing", some "copy"), _, _, _, _, _, _, _⟩) rfl
  obtain ⟨fd_is_outgoing_state, F_is_outgoing_state⟩ := c.d.def_ 13 (d := ⟨("is_outgoing_state", none), _, _, _, _, _, _, _⟩) rfl
  obtain ⟨fd_outgoing_of, F_outgoing_of⟩ := c.d.def_ 14 (d := ⟨("outgoing_of", none), _, _, _, _, _, _, _⟩) rfl
  obtain ⟨fd_Incoming_init, F_Incoming_init⟩ := c.d.def_ 15 (d := ⟨("Incoming", some "__init__"), _, _, _, _, _, _, _⟩) rfl
  obtain ⟨fd_Incoming_take, F_Incoming_take⟩ := c.d.def_ 16 (d := ⟨("Incoming", some "take"), _, _, _, _, _, _, _⟩) rfl
  obtain ⟨fd_Incoming_taken, F_Incoming_taken⟩ := c.d.def_ 17 (d := ⟨("Incoming", some "taken"), _, _, _, _, _, _, _⟩) rfl
  obtain ⟨fd_Incoming_held, F_Incoming_held⟩ := c.d.def_ 18 (d := ⟨("Incoming", some "held"), _, _, _, _, _, _, _⟩) rfl
  obtain ⟨fd_Incoming_state, F_Incoming_state⟩ := c.d.def_ 19 (d := ⟨("Incoming", some "state"), _, _, _, _, _, _, _⟩) rfl
  obtain ⟨fd_Incoming_copy, F_Incoming_copy⟩ := c.d.def_ 20 (d := ⟨("Incoming", some "copy"), _, _, _, _, _, _, _⟩) rfl
  obtain ⟨fd_are_held, F_are_held⟩ := c.d.def_ 21 (d := ⟨("are_held", none), _, _, _, _, _, _, _⟩) rfl
  obtain ⟨fd_is_incoming_state, F_is_incoming_state⟩ := c.d.def_ 22 (d := ⟨("is_incoming_state", none), _, _, _, _, _, _, _⟩) rfl
  obtain ⟨fd_incoming_of, F_incoming_of⟩ := c.d.def_ 23 (d := ⟨("incoming_of", none), _, _, _, _, _, _, _⟩) rfl
  obtain ⟨fd_law_hand, F_law_hand⟩ := c.d.def_ 24 (d := ⟨("_law_hand", none), _, _, _, _, _, _, _⟩) rfl
  obtain ⟨fd_law_take, F_law_take⟩ := c.d.def_ 25 (d := ⟨("_law_take", none), _, _, _, _, _, _, _⟩) rfl
  obtain ⟨fd_law_pick, F_law_pick⟩ := c.d.def_ 26 (d := ⟨("_law_pick", none), _, _, _, _, _, _, _⟩) rfl
  obtain ⟨fd_law_is_integer, F_law_is_integer⟩ := c.d.def_ 27 (d := ⟨("_law_is_integer", none), _, _, _, _, _, _, _⟩) rfl
  obtain ⟨fd_law_same, F_law_same⟩ := c.d.def_ 28 (d := ⟨("_law_same", none), _, _, _, _, _, _, _⟩) rfl
  obtain ⟨fd_law_item, F_law_item⟩ := c.d.def_ 29 (d := ⟨("_law_item", none), _, _, _, _, _, _, _⟩) rfl
  obtain ⟨fd_law_thing, F_law_thing⟩ := c.d.def_ 30 (d := ⟨("_law_thing", none), _, _, _, _, _, _, _⟩) rfl
  obtain ⟨fd_law_heard, F_law_heard⟩ := c.d.def_ 31 (d := ⟨("_law_heard", none), _, _, _, _, _, _, _⟩) rfl
  obtain ⟨fd_law_ends_right, F_law_ends_right⟩ := c.d.def_ 32 (d := ⟨("_law_ends_right", none), _, _, _, _, _, _, _⟩) rfl
  obtain ⟨fd_law_deed, F_law_deed⟩ := c.d.def_ 33 (d := ⟨("_law_deed", none), _, _, _, _, _, _, _⟩) rfl
  obtain ⟨fd_law_drained, F_law_drained⟩ := c.d.def_ 34 (d := ⟨("_law_drained", none), _, _, _, _, _, _, _⟩) rfl
  obtain ⟨fd_law_first, F_law_first⟩ := c.d.def_ 35 (d := ⟨("_law_first", none), _, _, _, _, _, _, _⟩) rfl
  obtain ⟨fd_law_is_within, F_law_is_within⟩ := c.d.def_ 36 (d := ⟨("_law_is_within", none), _, _, _, _, _, _, _⟩) rfl
  obtain ⟨fd_law_odd, F_law_odd⟩ := c.d.def_ 37 (d := ⟨("_law_odd", none), _, _, _, _, _, _, _⟩) rfl
  obtain ⟨fd_law_is_thing, F_law_is_thing⟩ := c.d.def_ 38 (d := ⟨("_law_is_thing", none), _, _, _, _, _, _, _⟩) rfl
  obtain ⟨fd_law_some_thing, F_law_some_thing⟩ := c.d.def_ 39 (d := ⟨("_law_some_thing", none), _, _, _, _, _, _, _⟩) rfl
  obtain ⟨fd_law_out_state, F_law_out_state⟩ := c.d.def_ 40 (d := ⟨("_law_out_state", none), _, _, _, _, _, _, _⟩) rfl
  obtain ⟨fd_law_in_state, F_law_in_state⟩ := c.d.def_ 41 (d := ⟨("_law_in_state", none), _, _, _, _, _, _, _⟩) rfl
  obtain ⟨fd_law_spoilt, F_law_spoilt⟩ := c.d.def_ 42 (d := ⟨("_law_spoilt", none), _, _, _, _, _, _, _⟩) rfl
  obtain ⟨fd_law_is_out, F_law_is_out⟩ := c.d.def_ 43 (d := ⟨("_law_is_out", none), _, _, _, _, _, _, _⟩) rfl
  obtain ⟨fd_law_is_in, F_law_is_in⟩ := c.d.def_ 44 (d := ⟨("_law_is_in", none), _, _, _, _, _, _, _⟩) rfl
  obtain ⟨fd_law_out_told, F_law_out_told⟩ := c.d.def_ 45 (d := ⟨("_law_out_told", none), _, _, _, _, _, _, _⟩) rfl
  obtain ⟨fd_law_in_told, F_law_in_told⟩ := c.d.def_ 46 (d := ⟨("_law_in_told", none), _, _, _, _, _, _, _⟩) rfl
  obtain ⟨fd_law_judged, F_law_judged⟩ := c.d.def_ 47 (d := ⟨("_law_judged", none), _, _, _, _, _, _, _⟩) rfl
  obtain ⟨fd_law_goes_on, F_law_goes_on⟩ := c.d.def_ 48 (d := ⟨("_law_goes_on", none), _, _, _, _, _, _, _⟩) rfl
  obtain ⟨fd_law_second, F_law_second⟩ := c.d.def_ 49 (d := ⟨("_law_second", none), _, _, _, _, _, _, _⟩) rfl
  obtain ⟨fd_law, F_law⟩ := c.d.def_ 50 (d := ⟨("law", none), _, _, _, _, _, _, _⟩) rfl
  have e := hfa.symm.trans (He.glo_ok X G (c.f 35))
  cases e
  refine ⟨fd_law, fun s v => FunD.bindsA (ps := ["_law_script"]) F_law (fun _ _ _ _ _ _ us hl => match us, hl with | [_], _ => rfl) s [v] rfl, fun base => ?_⟩
  have h_NoNumber : Er0At P w K mg base (YY K) "NoNumber" := er0_of (st := s_NoNumber_init) (qual := "NoNumber.__init__") (by decide +kernel) (He.glo_ok X G (c.f 37)) (c.x 6) F_NoNumber_init ⟨rfl, rfl, rfl, by decide +kernel, rfl, by decide +kernel, by decide +kernel⟩ rfl (fun _ _ _ _ _ _ us hl => match us, hl with | [_], _ => rfl)
  have h_NoState : Er0At P w K mg base (YY K) "NoState" := er0_of (st := s_NoState_init) (qual := "NoState.__init__") (by decide +kernel) (He.glo_ok X G (c.f 38)) (c.x 7) F_NoState_init ⟨rfl, rfl, rfl, by decide +kernel, rfl, by decide +kernel, by decide +kernel⟩ rfl (fun _ _ _ _ _ _ us hl => match us, hl with | [_], _ => rfl)
  have h_is_number := ok_is_number (P := P) (w := w) (base := base) T F_is_number (He.glo_ok X G (c.f 0)) 
  have h_is_thing := ok_is_thing (P := P) (w := w) (base := base) T F_is_thing (He.glo_ok X G (c.f 1)) 
  have h_is_link_number := ok_is_link_number (P := P) (w := w) (base := base) T F_is_link_number (He.glo_ok X G (c.f 2)) (h_is_number)
  have h_is_pair := ok_is_pair (P := P) (w := w) (base := base) T F_is_pair (He.glo_ok X G (c.f 3)) 
  have h_Outgoing := ok_Outgoing_init (P := P) (w := w) (base := base) T F_Outgoing_init (He.glo_ok X G (c.f 39)) (yy_cl_of (by decide +kernel)) (He.mkr_ok (c.f 57)) 
  have h_Outgoing_many_put := ok_Outgoing_many_put (P := P) (w := w) (base := base) T F_Outgoing_many_put (yy_cl_of (by decide +kernel)) (He.meth_ok (c.f 62)) 
  have h_Outgoing_put := ok_Outgoing_put (P := P) (w := w) (base := base) T F_Outgoing_put (yy_cl_of (by decide +kernel)) (He.meth_ok (c.f 59)) h_Outgoing_many_put
  have h_Outgoing_known := ok_Outgoing_known (P := P) (w := w) (base := base) T F_Outgoing_known (yy_cl_of (by decide +kernel)) (He.meth_ok (c.f 60)) (h_is_number) h_Outgoing_many_put h_NoNumber
  have h_Outgoing_waiting := ok_Outgoing_waiting (P := P) (w := w) (base := base) T F_Outgoing_waiting (yy_cl_of (by decide +kernel)) (He.meth_ok (c.f 61)) 
  have h_Outgoing_state := ok_Outgoing_state (P := P) (w := w) (base := base) T F_Outgoing_state (yy_cl_of (by decide +kernel)) (He.meth_ok (c.f 63)) 
  have h_Outgoing_copy := ok_Outgoing_copy (P := P) (w := w) (base := base) T F_Outgoing_copy (yy_cl_of (by decide +kernel)) (He.meth_ok (c.f 64)) h_Outgoing
  have h_is_outgoing_state := ok_is_outgoing_state (P := P) (w := w) (base := base) T F_is_outgoing_state (He.glo_ok X G (c.f 4)) (h_is_pair) (h_is_link_number) (h_is_thing)
  have h_outgoing_of := ok_outgoing_of (P := P) (w := w) (base := base) T F_outgoing_of (He.glo_ok X G (c.f 5)) (h_is_outgoing_state) h_NoState h_Outgoing
  have h_Incoming := ok_Incoming_init (P := P) (w := w) (base := base) T F_Incoming_init (He.glo_ok X G (c.f 40)) (yy_cl_of (by decide +kernel)) (He.mkr_ok (c.f 58)) 
  have h_Incoming_take := ok_Incoming_take (P := P) (w := w) (base := base) T F_Incoming_take (yy_cl_of (by decide +kernel)) (He.meth_ok (c.f 65)) (h_is_link_number) h_NoNumber
  have h_Incoming_taken := ok_Incoming_taken (P := P) (w := w) (base := base) T F_Incoming_taken (yy_cl_of (by decide +kernel)) (He.meth_ok (c.f 66)) 
  have h_Incoming_held := ok_Incoming_held (P := P) (w := w) (base := base) T F_Incoming_held (yy_cl_of (by decide +kernel)) (He.meth_ok (c.f 67)) 
  have h_Incoming_state := ok_Incoming_state (P := P) (w := w) (base := base) T F_Incoming_state (yy_cl_of (by decide +kernel)) (He.meth_ok (c.f 68)) h_Incoming_held
  have h_Incoming_copy := ok_Incoming_copy (P := P) (w := w) (base := base) T F_Incoming_copy (yy_cl_of (by decide +kernel)) (He.meth_ok (c.f 69)) h_Incoming
  have h_are_held := ok_are_held (P := P) (w := w) (base := base) T F_are_held (He.glo_ok X G (c.f 6)) (h_is_pair) (h_is_number) (h_is_thing)
  have h_is_incoming_state := ok_is_incoming_state (P := P) (w := w) (base := base) T F_is_incoming_state (He.glo_ok X G (c.f 7)) (h_is_pair) (h_is_link_number) (h_are_held)
  have h_incoming_of := ok_incoming_of (P := P) (w := w) (base := base) T F_incoming_of (He.glo_ok X G (c.f 8)) (h_is_incoming_state) h_NoState h_Incoming
  have h_law_hand := ok_law_hand (P := P) (w := w) (base := base) T F_law_hand (He.glo_ok X G (c.f 9)) 
  have h_law_take := ok_law_take (P := P) (w := w) (base := base) T F_law_take (He.glo_ok X G (c.f 10)) 
  have h_law_pick := ok_law_pick (P := P) (w := w) (base := base) T F_law_pick (He.glo_ok X G (c.f 11)) (h_law_take)
  have h_law_is_integer := ok_law_is_integer (P := P) (w := w) (base := base) T F_law_is_integer (He.glo_ok X G (c.f 12)) 
  have h_law_same := ok_law_same (P := P) (w := w) (base := base) T F_law_same (He.glo_ok X G (c.f 13)) (h_law_is_integer)
  have h_law_item := ok_law_item (P := P) (w := w) (base := base) T F_law_item (He.glo_ok X G (c.f 14)) (h_law_take) (h_law_pick)
  have h_law_thing := ok_law_thing (P := P) (w := w) (base := base) T F_law_thing (He.glo_ok X G (c.f 15)) (h_law_take) (h_law_item 5)
  have h_law_heard := ok_law_heard (P := P) (w := w) (base := base) T F_law_heard (He.glo_ok X G (c.f 16)) 
  have h_law_ends_right := ok_law_ends_right (P := P) (w := w) (base := base) T F_law_ends_right (He.glo_ok X G (c.f 17)) h_Outgoing_waiting (h_law_same 20) h_Outgoing_many_put h_Incoming_taken h_Incoming_held
  have h_law_deed := ok_law_deed (P := P) (w := w) (base := base) T F_law_deed (He.glo_ok X G (c.f 18)) (h_law_take) (h_law_thing) h_Outgoing_put (h_law_same 20) h_Incoming_take (h_law_heard) h_Outgoing_known
  have h_law_drained := ok_law_drained (P := P) (w := w) (base := base) T F_law_drained (He.glo_ok X G (c.f 19)) h_Outgoing_waiting h_Incoming_take h_Incoming_taken h_Outgoing_known
  have h_law_first := ok_law_first (P := P) (w := w) (base := base) T F_law_first (He.glo_ok X G (c.f 20)) (h_law_hand) h_Outgoing h_Incoming (h_law_pick) (h_law_deed) (h_law_ends_right) (h_law_take) h_Outgoing_copy h_Incoming_copy h_Incoming_taken h_Incoming_take h_Incoming_held (h_law_drained) h_Outgoing_waiting h_Outgoing_known (h_law_same 20)
  have h_law_is_within := ok_law_is_within (P := P) (w := w) (base := base) T F_law_is_within (He.glo_ok X G (c.f 21)) (h_law_is_integer)
  have h_law_odd := ok_law_odd (P := P) (w := w) (base := base) T F_law_odd (He.glo_ok X G (c.f 22)) (h_law_take)
  have h_law_is_thing := ok_law_is_thing (P := P) (w := w) (base := base) T F_law_is_thing (He.glo_ok X G (c.f 23)) 
  have h_law_some_thing := ok_law_some_thing (P := P) (w := w) (base := base) T F_law_some_thing (He.glo_ok X G (c.f 24)) (h_law_pick)
  have h_law_out_state := ok_law_out_state (P := P) (w := w) (base := base) T F_law_out_state (He.glo_ok X G (c.f 25)) (h_law_take) (h_law_pick) (h_law_some_thing)
  have h_law_in_state := ok_law_in_state (P := P) (w := w) (base := base) T F_law_in_state (He.glo_ok X G (c.f 26)) (h_law_take) (h_law_pick) (h_law_some_thing)
  have h_law_spoilt := ok_law_spoilt (P := P) (w := w) (base := base) T F_law_spoilt (He.glo_ok X G (c.f 27)) (h_law_take) (h_law_odd) (h_law_pick)
  have h_law_is_out := ok_law_is_out (P := P) (w := w) (base := base) T F_law_is_out (He.glo_ok X G (c.f 28)) (h_law_is_within) (h_law_is_thing 20)
  have h_law_is_in := ok_law_is_in (P := P) (w := w) (base := base) T F_law_is_in (He.glo_ok X G (c.f 29)) (h_law_is_within) (h_law_is_integer) (h_law_is_thing 20)
  have h_law_out_told := ok_law_out_told (P := P) (w := w) (base := base) T F_law_out_told (He.glo_ok X G (c.f 30)) (h_outgoing_of) h_Outgoing_state
  have h_law_in_told := ok_law_in_told (P := P) (w := w) (base := base) T F_law_in_told (He.glo_ok X G (c.f 31)) (h_incoming_of) h_Incoming_state
  have h_law_judged := ok_law_judged (P := P) (w := w) (base := base) T F_law_judged (He.glo_ok X G (c.f 32)) (h_law_is_out) (h_law_out_told) (h_law_same 20) (h_law_is_in) (h_law_in_told)
  have h_law_goes_on := ok_law_goes_on (P := P) (w := w) (base := base) T F_law_goes_on (He.glo_ok X G (c.f 33)) (h_outgoing_of) h_Outgoing_copy h_Outgoing_put (h_law_same 20) h_Outgoing_state (h_law_take) h_Outgoing_known (h_incoming_of) h_Incoming_copy h_Incoming_take h_Incoming_state
  have h_law_second := ok_law_second (P := P) (w := w) (base := base) T F_law_second (He.glo_ok X G (c.f 34)) (h_law_hand) (h_law_out_state) (h_law_in_state) (h_law_judged) (h_law_goes_on) (h_law_spoilt) h_Outgoing h_Outgoing_state (h_law_same 20) h_Incoming h_Incoming_state
  exact ok_law T F_law (h_law_first) (h_law_second)
end
end
end
end K30

set_option linter.all false
namespace Gr
abbrev Es := List (Nat × Nat)
inductive Con (es : Es) : Nat → Nat → Prop
  | refl (a : Nat) : Con es a a
  | step {a b c : Nat} : Con es a b → ((b, c) ∈ es ∨ (c, b) ∈ es) → Con es a c

theorem Con.trans {es : Es} {a b c : Nat} (h : Con es a b) (k : Con es b c) : Con es a c := by
  induction k with
  | refl => exact h
  | step _ e ih => exact .step ih e
theorem Con.one {es : Es} {a b : Nat} (h : (a, b) ∈ es ∨ (b, a) ∈ es) : Con es a b := .step (.refl a) h
theorem Con.symm {es : Es} {a b : Nat} (h : Con es a b) : Con es b a := by
  induction h with
  | refl => exact .refl _
  | step _ e ih => exact (Con.one e.symm).trans ih
theorem Con.mono {es fs : Es} {a b : Nat} (hs : ∀ p ∈ es, p ∈ fs) (h : Con es a b) : Con fs a b := by
  induction h with
  | refl => exact .refl _
  | step _ e ih => exact .step ih (e.imp (hs _) (hs _))
theorem Con.nil {a b : Nat} (h : Con [] a b) : a = b := by
  induction h with
  | refl => rfl
  | step _ e ih => simp at e

theorem Con.add {es : Es} {p q a b : Nat} :
    Con (es ++ [(p, q)]) a b ↔ Con es a b ∨ (Con es a p ∧ Con es q b) ∨ (Con es a q ∧ Con es p b) := by
  constructor
  · intro h
    induction h with
    | refl => exact .inl (.refl _)
    | @step b c _ e ih =>
      have ec : ((b, c) ∈ es ∨ (c, b) ∈ es) ∨ (b = p ∧ c = q) ∨ (c = p ∧ b = q) := by
        simp only [List.mem_append, List.mem_singleton, Prod.mk.injEq] at e
        rcases e with (e | e) | (e | e)
        · exact .inl (.inl e)
        · exact .inr (.inl e)
        · exact .inl (.inr e)
        · exact .inr (.inr e)
      rcases ec with e | ⟨rfl, rfl⟩ | ⟨rfl, rfl⟩
      · rcases ih with h | ⟨h, k⟩ | ⟨h, k⟩
        · exact .inl (.step h e)
        · exact .inr (.inl ⟨h, .step k e⟩)
        · exact .inr (.inr ⟨h, .step k e⟩)
      · rcases ih with h | ⟨h, k⟩ | ⟨h, k⟩
        · exact .inr (.inl ⟨h, .refl _⟩)
        · exact .inr (.inl ⟨h, .refl _⟩)
        · exact .inl h
      · rcases ih with h | ⟨h, k⟩ | ⟨h, k⟩
        · exact .inr (.inr ⟨h, .refl _⟩)
        · exact .inl h
        · exact .inr (.inr ⟨h, .refl _⟩)
  · have up : ∀ {x y}, Con es x y → Con (es ++ [(p, q)]) x y := fun h => h.mono (by intro p hp; exact List.mem_append_left _ hp)
    have pq : Con (es ++ [(p, q)]) p q := .one (.inl (by simp))
    rintro (h | ⟨h, k⟩ | ⟨h, k⟩)
    · exact up h
    · exact (up h).trans (pq.trans (up k))
    · exact (up h).trans (pq.symm.trans (up k))

def merge1 (ms : List Nat) (a b : Nat) : List Nat := ms.map fun m => if m = ms.getD b 0 then ms.getD a 0 else m

structure Mk (es : Es) (n : Nat) (ms : List Nat) : Prop where
  len : ms.length = n
  iff : ∀ i j, i < n → j < n → (ms.getD i 0 = ms.getD j 0 ↔ Con es i j)

theorem mk_range (n : Nat) : Mk [] n (List.range n) := by
  refine ⟨by simp, fun i j hi hj => ?_⟩
  simp [List.getD_eq_getElem?_getD, hi, hj]
  constructor
  · rintro rfl; exact .refl _
  · exact Con.nil

theorem merge1_get (ms : List Nat) (a b i : Nat) (hi : i < ms.length) :
    (merge1 ms a b).getD i 0 = if ms.getD i 0 = ms.getD b 0 then ms.getD a 0 else ms.getD i 0 := by
  simp [merge1, List.getD_eq_getElem?_getD, hi]

theorem Mk.add {es : Es} {n : Nat} {ms : List Nat} (m : Mk es n ms) {a b : Nat} (ha : a < n) (hb : b < n) :
    Mk (es ++ [(a, b)]) n (merge1 ms a b) := by
  refine ⟨by simp [merge1, m.len], fun i j hi hj => ?_⟩
  rw [merge1_get _ _ _ _ (by rw [m.len]; exact hi), merge1_get _ _ _ _ (by rw [m.len]; exact hj), Con.add]
  have iib := m.iff i b hi hb
  have ijb := m.iff j b hj hb
  have iia := m.iff i a hi ha
  have ija := m.iff j a hj ha
  have iij := m.iff i j hi hj
  have cb : Con es b j ↔ Con es j b := ⟨.symm, .symm⟩
  have ca : Con es a j ↔ Con es j a := ⟨.symm, .symm⟩
  rw [← iij, ← iia, ← iib, cb, ca, ← ijb, ← ija]
  generalize ms.getD i 0 = x
  generalize ms.getD j 0 = y
  generalize ms.getD a 0 = u
  generalize ms.getD b 0 = v
  by_cases h1 : x = v <;> by_cases h2 : y = v <;> simp [h1, h2] <;> omega

def marksOf (n : Nat) (es : Es) : List Nat := es.foldl (fun ms p => merge1 ms p.1 p.2) (List.range n)

theorem mk_foldl {n : Nat} (fs : Es) (h : ∀ p ∈ fs, p.1 < n ∧ p.2 < n) : ∀ {es : Es} {ms : List Nat}, Mk es n ms →
    Mk (es ++ fs) n (fs.foldl (fun ms p => merge1 ms p.1 p.2) ms) := by
  induction fs with
  | nil => intro es ms m; simpa using m
  | cons p fs ih =>
    intro es ms m
    have hp := h p (by simp)
    have := ih (fun q hq => h q (by simp [hq])) (m.add hp.1 hp.2)
    simpa [List.append_assoc] using this

theorem marks_ok {n : Nat} {es : Es} (h : ∀ p ∈ es, p.1 < n ∧ p.2 < n) : Mk es n (marksOf n es) := by
  have := mk_foldl es h (mk_range n)
  simpa [marksOf] using this

def Joined (n : Nat) (es : Es) : Prop := ∀ x, x < n → Con es 0 x

theorem joined_marks {n : Nat} {es : Es} (h : ∀ p ∈ es, p.1 < n ∧ p.2 < n) (h0 : 0 < n) :
    Joined n es ↔ ∀ m ∈ marksOf n es, m = (marksOf n es).getD 0 0 := by
  have m := marks_ok h
  constructor
  · intro j x hx
    obtain ⟨i, hi, rfl⟩ := List.mem_iff_getElem.1 hx
    have hi' : i < n := by rw [← m.len]; exact hi
    have := ((m.iff 0 i h0 hi').2 (j i hi')).symm
    simpa [List.getD_eq_getElem?_getD, hi] using this
  · intro k x hx
    refine (m.iff 0 x h0 hx).1 (k _ ?_).symm
    have hx' : x < (marksOf n es).length := by rw [m.len]; exact hx
    simp [List.getD_eq_getElem?_getD, hx']

def addAll (f os : List Nat) : List Nat := os.foldl (fun f o => if o ∈ f then f else f ++ [o]) f
def lotStep (near : List (List Nat)) (f : List Nat) (k : Nat) : List Nat :=
  if k < f.length then addAll f (near.getD (f.getD k 0) []) else f
def lotOf (near : List (List Nat)) (h : Nat) : List Nat := (List.range near.length).foldl (lotStep near) [h]

theorem addAll_spec (os : List Nat) : ∀ f : List Nat, f.Nodup →
    (addAll f os).Nodup ∧ (∃ t, addAll f os = f ++ t) ∧ ∀ x, x ∈ addAll f os ↔ x ∈ f ∨ x ∈ os := by
  induction os with
  | nil => intro f hf; exact ⟨hf, ⟨[], by simp [addAll]⟩, by simp [addAll]⟩
  | cons o os ih =>
    intro f hf
    by_cases ho : o ∈ f
    · have e : addAll f (o :: os) = addAll f os := by simp [addAll, ho]
      rw [e]
      obtain ⟨a, b, c⟩ := ih f hf
      refine ⟨a, b, fun x => ?_⟩
      rw [c, List.mem_cons]
      constructor
      · rintro (h | h)
        · exact .inl h
        · exact .inr (.inr h)
      · rintro (h | rfl | h)
        · exact .inl h
        · exact .inl ho
        · exact .inr h
    · have e : addAll f (o :: os) = addAll (f ++ [o]) os := by simp [addAll, ho]
      rw [e]
      have hf' : (f ++ [o]).Nodup := by
        rw [List.nodup_append]
        refine ⟨hf, by simp, fun a ha b hb => ?_⟩
        simp at hb; subst hb; rintro rfl; exact ho ha
      obtain ⟨a, ⟨t, b⟩, c⟩ := ih _ hf'
      refine ⟨a, ⟨[o] ++ t, by rw [b, List.append_assoc]⟩, fun x => ?_⟩
      rw [c, List.mem_append, List.mem_singleton, List.mem_cons]
      constructor
      · rintro ((h | h) | h)
        · exact .inl h
        · exact .inr (.inl h)
        · exact .inr (.inr h)
      · rintro (h | h | h)
        · exact .inl (.inl h)
        · exact .inl (.inr h)
        · exact .inr h

structure Lot (near : List (List Nat)) (R : Nat → Prop) (k : Nat) (f : List Nat) : Prop where
  nd : f.Nodup
  re : ∀ x ∈ f, R x
  cl : ∀ j, j < k → j < f.length → ∀ x ∈ near.getD (f.getD j 0) [], x ∈ f

theorem Lot.step {near : List (List Nat)} {R : Nat → Prop} {k : Nat} {f : List Nat} (L : Lot near R k f)
    (hR : ∀ a x, R a → x ∈ near.getD a [] → R x) : Lot near R (k+1) (lotStep near f k) := by
  unfold lotStep
  by_cases hk : k < f.length
  · simp only [hk, if_true]
    obtain ⟨a, ⟨t, b⟩, c⟩ := addAll_spec (near.getD (f.getD k 0) []) f L.nd
    refine ⟨a, fun x hx => ?_, fun j hj hl x hx => ?_⟩
    · rcases (c x).1 hx with h | h
      · exact L.re x h
      · exact hR _ _ (L.re _ (by simp [List.getD_eq_getElem?_getD, hk])) h
    · by_cases hjf : j < f.length
      · have e : (addAll f (near.getD (f.getD k 0) [])).getD j 0 = f.getD j 0 := by
          rw [b]; simp [List.getD_eq_getElem?_getD, List.getElem?_append_left hjf]
        rw [e] at hx
        rcases Nat.lt_succ_iff_lt_or_eq.1 hj with h | rfl
        · exact (c x).2 (.inl (L.cl j h hjf x hx))
        · exact (c x).2 (.inr hx)
      · omega
  · simp only [hk, if_false]
    exact ⟨L.nd, L.re, fun j hj hl => L.cl j (by omega) hl⟩

theorem lot_fold {near : List (List Nat)} {R : Nat → Prop} (hR : ∀ a x, R a → x ∈ near.getD a [] → R x) (n : Nat) {f : List Nat}
    (L : Lot near R 0 f) : Lot near R n ((List.range n).foldl (lotStep near) f) := by
  induction n with
  | zero => simpa using L
  | succ n ih => rw [List.range_succ, List.foldl_append]; exact ih.step hR

theorem len_le_of_sub : ∀ {l m : List Nat}, l.Nodup → (∀ x ∈ l, x ∈ m) → l.length ≤ m.length := by
  intro l
  induction l with
  | nil => intro m _ _; simp
  | cons a l ih =>
    intro m hn hs
    have hn' := List.nodup_cons.1 hn
    have ha : a ∈ m := hs a (by simp)
    have := ih (m := m.erase a) hn'.2 (fun x hx => by
      have hxa : x ≠ a := by rintro rfl; exact hn'.1 hx
      exact (List.mem_erase_of_ne hxa).2 (hs x (by simp [hx])))
    rw [List.length_erase_of_mem ha] at this
    have hp : 0 < m.length := List.length_pos_of_mem ha
    simp only [List.length_cons]; omega

theorem sub_back {l m : List Nat} (hn : l.Nodup) (hs : ∀ x ∈ l, x ∈ m) (hl : m.length ≤ l.length) : ∀ x ∈ m, x ∈ l := by
  intro x hx
  by_cases hxl : x ∈ l
  · exact hxl
  · have := len_le_of_sub (l := x :: l) (m := m) (List.nodup_cons.2 ⟨hxl, hn⟩) (by
      intro y hy
      rcases List.mem_cons.1 hy with rfl | hy
      · exact hx
      · exact hs y hy)
    simp only [List.length_cons] at this; omega

theorem nodup_bound {l : List Nat} {n : Nat} (hn : l.Nodup) (hb : ∀ x ∈ l, x < n) : l.length ≤ n := by
  have := len_le_of_sub (m := List.range n) hn (fun x hx => by simpa using hb x hx)
  simpa using this

def NearOf (n : Nat) (es : Es) (near : List (List Nat)) : Prop :=
  near.length = n ∧ ∀ a x, a < n → (x ∈ near.getD a [] ↔ x < n ∧ ((a, x) ∈ es ∨ (x, a) ∈ es))

theorem lot_mem {n : Nat} {es : Es} {near : List (List Nat)} (hn : NearOf n es near) (hb : ∀ p ∈ es, p.1 < n ∧ p.2 < n)
    {h : Nat} (h0 : h < n) :
    (lotOf near h).Nodup ∧ (∀ x, x ∈ lotOf near h ↔ Con es h x) ∧ ∀ x ∈ lotOf near h, x < n := by
  have hR : ∀ a x, (Con es h a ∧ a < n) → x ∈ near.getD a [] → (Con es h x ∧ x < n) := by
    intro a x ha hx
    have := (hn.2 a x ha.2).1 hx
    exact ⟨.step ha.1 this.2, this.1⟩
  have L0 : Lot near (fun a => Con es h a ∧ a < n) 0 [h] :=
    ⟨by simp, by intro x hx; simp at hx; subst hx; exact ⟨.refl _, h0⟩, by intro j hj; omega⟩
  have L := lot_fold hR near.length L0
  have ll : (lotOf near h).length ≤ near.length := by
    rw [hn.1]; exact nodup_bound L.nd (fun x hx => (L.re x hx).2)
  have hh : h ∈ lotOf near h := by
    have : ∀ (k : Nat) (f : List Nat), h ∈ f → f.Nodup → h ∈ (List.range k).foldl (lotStep near) f ∧ ((List.range k).foldl (lotStep near) f).Nodup := by
      intro k f hf hd
      induction k with
      | zero => exact ⟨hf, hd⟩
      | succ k ih =>
        rw [List.range_succ, List.foldl_append]
        simp only [List.foldl_cons, List.foldl_nil]
        generalize (List.range k).foldl (lotStep near) f = g at ih
        unfold lotStep
        by_cases hk : k < g.length
        · simp only [hk, if_true]
          have := addAll_spec (near.getD (g.getD k 0) []) g ih.2
          exact ⟨(this.2.2 h).2 (.inl ih.1), this.1⟩
        · simp only [hk, if_false]; exact ih
    exact (this near.length [h] (by simp) (by simp)).1
  refine ⟨L.nd, fun x => ⟨fun hx => (L.re x hx).1, fun hx => ?_⟩, fun x hx => (L.re x hx).2⟩
  induction hx with
  | refl => exact hh
  | @step b c hab e ih =>
    obtain ⟨j, hj, hjb⟩ := List.mem_iff_getElem.1 ih
    have hb' : b < n := (L.re b ih).2
    have hc : c < n := by
      rcases e with e | e
      · exact (hb _ e).2
      · exact (hb _ e).1
    refine L.cl j (by omega) hj c ?_
    have e1 : (lotOf near h).getD j 0 = b := by simp [List.getD_eq_getElem?_getD, hj, hjb]
    show c ∈ near.getD ((lotOf near h).getD j 0) []
    rw [e1]
    exact (hn.2 b c hb').2 ⟨hc, e⟩

theorem joined_lot {n : Nat} {es : Es} {near : List (List Nat)} (hn : NearOf n es near) (hb : ∀ p ∈ es, p.1 < n ∧ p.2 < n)
    (h0 : 0 < n) : Joined n es ↔ ¬ (lotOf near 0).length < n := by
  obtain ⟨nd, mem, lt⟩ := lot_mem hn hb h0
  constructor
  · intro J
    have := len_le_of_sub (l := List.range n) (m := lotOf near 0) List.nodup_range (fun x hx => (mem x).2 (J x (by simpa using hx)))
    simpa using this
  · intro h x hx
    refine (mem x).1 ?_
    exact sub_back (m := List.range n) nd (fun y hy => by simpa using lt y hy) (by simpa using Nat.le_of_not_lt h) x (by simpa using hx)
end Gr

set_option linter.all false
namespace Gr
abbrev Adj (es : Es) (x y : Nat) : Prop := (x, y) ∈ es ∨ (y, x) ∈ es
/-- a way without a house twice, by its ends -/
inductive Walk (es : Es) (a : Nat) : Nat → List Nat → Prop
  | one : Walk es a a [a]
  | snoc {x y : Nat} {p : List Nat} : Walk es a x p → Adj es x y → y ∉ p → Walk es a y (p ++ [y])
abbrev Ws := List (Nat × List Nat)
def keys (W : Ws) : List Nat := W.map (·.1)
def pathOf (W : Ws) (x : Nat) : Option (List Nat) := (W.find? fun q => decide (q.1 = x)).map (·.2)
def wstep (W : Ws) (e : Nat × Nat) : Ws :=
  if e.1 ∈ keys W ∧ e.2 ∉ keys W then W ++ [(e.2, (pathOf W e.1).getD [] ++ [e.2])]
  else if e.2 ∈ keys W ∧ e.1 ∉ keys W then W ++ [(e.1, (pathOf W e.2).getD [] ++ [e.1])]
  else W
def sweep (ps : Es) (W : Ws) : Ws := ps.foldl wstep W
structure Wok (es : Es) (n a : Nat) (W : Ws) : Prop where
  nd : (keys W).Nodup
  wk : ∀ q ∈ W, Walk es a q.1 q.2 ∧ (∀ y ∈ q.2, y ∈ keys W) ∧ q.1 < n
  a0 : a ∈ keys W
theorem pathOf_mem {W : Ws} {x : Nat} (h : x ∈ keys W) : ∃ p, pathOf W x = some p ∧ (x, p) ∈ W := by
  unfold keys at h
  obtain ⟨q, hq, rfl⟩ := List.mem_map.mp h
  unfold pathOf
  cases e : W.find? (fun r => decide (r.1 = q.1)) with
  | none => exact absurd (List.find?_eq_none.mp e q hq) (by simp)
  | some r =>
    have h1 := List.find?_some e
    have h2 := List.mem_of_find?_eq_some e
    simp at h1
    exact ⟨r.2, rfl, by rw [← h1]; exact h2⟩
theorem pathOf_none {W : Ws} {x : Nat} (h : x ∉ keys W) : pathOf W x = none := by
  unfold pathOf
  cases e : W.find? (fun r => decide (r.1 = x)) with
  | none => rfl
  | some r =>
    have h1 := List.find?_some e
    have h2 := List.mem_of_find?_eq_some e
    simp at h1
    exact absurd (List.mem_map.mpr ⟨r, h2, h1⟩) h
theorem keys_snoc {W : Ws} {q : Nat × List Nat} : keys (W ++ [q]) = keys W ++ [q.1] := by simp [keys]
theorem Wok.add {es : Es} {n a x y : Nat} {W : Ws} (w : Wok es n a W) (hx : x ∈ keys W) (hy : y ∉ keys W) (e : Adj es x y) (hn : y < n) : Wok es n a (W ++ [(y, (pathOf W x).getD [] ++ [y])]) := by
  obtain ⟨p, e1, hm⟩ := pathOf_mem hx
  obtain ⟨h1, h2, h3⟩ := w.wk _ hm
  rw [e1]
  refine ⟨?_, fun q hq => ?_, ?_⟩
  · rw [keys_snoc, List.nodup_append]
    exact ⟨w.nd, by simp, fun u hu v hv z => by simp at hv; subst hv; subst z; exact hy hu⟩
  · rw [keys_snoc]
    rcases List.mem_append.mp hq with hq | hq
    · obtain ⟨g1, g2, g3⟩ := w.wk q hq
      exact ⟨g1, fun z hz => List.mem_append_left _ (g2 z hz), g3⟩
    · rw [List.mem_singleton] at hq
      subst hq
      refine ⟨.snoc h1 e fun hp => hy (h2 y hp), fun z hz => ?_, hn⟩
      rcases List.mem_append.mp hz with hz | hz
      · exact List.mem_append_left _ (h2 z hz)
      · exact List.mem_append_right _ hz
  · rw [keys_snoc]; exact List.mem_append_left _ w.a0
theorem Wok.step {es : Es} {n a : Nat} {W : Ws} (w : Wok es n a W) {e : Nat × Nat} (he : e ∈ es) (hb : e.1 < n ∧ e.2 < n) : Wok es n a (wstep W e) := by
  unfold wstep
  split
  · rename_i h
    exact w.add h.1 h.2 (.inl he) hb.2
  · split
    · rename_i _ h
      exact w.add h.1 h.2 (.inr he) hb.1
    · exact w
theorem wstep_pre (W : Ws) (e : Nat × Nat) : ∃ T, wstep W e = W ++ T := by
  unfold wstep
  split
  · exact ⟨_, rfl⟩
  · split
    · exact ⟨_, rfl⟩
    · exact ⟨[], by simp⟩
theorem sweep_pre (ps : Es) : ∀ W : Ws, ∃ T, sweep ps W = W ++ T := by
  induction ps with
  | nil => intro W; exact ⟨[], by simp [sweep]⟩
  | cons e r ih =>
    intro W
    obtain ⟨T, h⟩ := wstep_pre W e
    obtain ⟨T', h'⟩ := ih (wstep W e)
    exact ⟨T ++ T', by show sweep r (wstep W e) = _; rw [h', h, List.append_assoc]⟩
theorem Wok.sweep {es : Es} {n a : Nat} : ∀ {ps : Es} {W : Ws}, Wok es n a W → (∀ e ∈ ps, e ∈ es ∧ e.1 < n ∧ e.2 < n) → Wok es n a (Gr.sweep ps W)
  | [], W, w, _ => w
  | e :: r, W, w, h => Wok.sweep (ps := r) (w.step (h e (by simp)).1 (h e (by simp)).2) fun e he => h e (by simp [he])
/-- where a sweep adds nothing each tie has both its houses or none of them -/
theorem sweep_closed : ∀ {ps : Es} {W : Ws}, (sweep ps W).length = W.length → ∀ e ∈ ps, (e.1 ∈ keys W ↔ e.2 ∈ keys W)
  | [], W, _, e, he => by simp at he
  | f :: r, W, hl, e, he => by
    obtain ⟨T, h⟩ := wstep_pre W f
    obtain ⟨T', h'⟩ := sweep_pre r (wstep W f)
    have hs : sweep (f :: r) W = W ++ T ++ T' := by show sweep r (wstep W f) = _; rw [h', h]
    rw [hs] at hl
    simp only [List.length_append] at hl
    have hT : T = [] := List.eq_nil_of_length_eq_zero (by omega)
    subst hT
    rw [List.append_nil] at h
    rcases List.mem_cons.mp he with rfl | he
    · unfold wstep at h
      constructor
      · intro h1
        by_cases c : e.2 ∈ keys W
        · exact c
        · rw [if_pos ⟨h1, c⟩] at h
          have := congrArg List.length h
          simp at this
      · intro h1
        by_cases c : e.1 ∈ keys W
        · exact c
        · rw [if_neg (fun z => c z.1), if_pos ⟨h1, c⟩] at h
          have := congrArg List.length h
          simp at this
    · refine sweep_closed (ps := r) (W := W) ?_ e he
      have : sweep r (wstep W f) = sweep (f :: r) W := rfl
      rw [h] at this
      rw [this, hs]
      simp only [List.length_append, List.length_nil]
      omega
theorem closed_con {es : Es} {K : List Nat} (h : ∀ e ∈ es, (e.1 ∈ K ↔ e.2 ∈ K)) {a b : Nat} (c : Con es a b) (ha : a ∈ K) : b ∈ K := by
  induction c with
  | refl => exact ha
  | step _ e ih =>
    rcases e with e | e
    · exact (h _ e).1 ih
    · exact (h _ e).2 ih
theorem keys_len {es : Es} {n a : Nat} {W : Ws} (w : Wok es n a W) : W.length ≤ n := by
  have := nodup_bound w.nd fun x hx => by
    obtain ⟨q, hq, rfl⟩ := List.mem_map.mp hx
    exact (w.wk q hq).2.2
  simpa [keys] using this
theorem wok_first {es : Es} {n a : Nat} (ha : a < n) : Wok es n a [(a, [a])] := by
  refine ⟨by simp [keys], fun q hq => ?_, by simp [keys]⟩
  simp at hq
  subst hq
  exact ⟨.one, by simp [keys], ha⟩
/-- the pairs of houses beside one another on a way are ties -/
theorem Walk.steps {es : Es} {a x : Nat} {p : List Nat} (w : Walk es a x p) : ∀ q ∈ p.zip p.tail, Adj es q.1 q.2 := by
  induction w with
  | one => intro q hq; simp at hq
  | @snoc x y p w e hy ih =>
    have hp : ∃ r, p = r ++ [x] := by
      cases w with
      | one => exact ⟨[], rfl⟩
      | snoc _ _ _ => exact ⟨_, rfl⟩
    obtain ⟨r, rfl⟩ := hp
    intro q hq
    have : (r ++ [x] ++ [y]).zip (r ++ [x] ++ [y]).tail = (r ++ [x]).zip (r ++ [x]).tail ++ [(x, y)] := by
      clear ih w hq hy e
      induction r with
      | nil => rfl
      | cons z r ih =>
        cases r with
        | nil => rfl
        | cons u r => simpa using ih
    rw [this] at hq
    rcases List.mem_append.mp hq with hq | hq
    · exact ih q hq
    · rw [List.mem_singleton] at hq; subst hq; exact e
theorem Walk.lt {es : Es} {a x n : Nat} {p : List Nat} (w : Walk es a x p) (ha : a < n) (hb : ∀ e ∈ es, e.1 < n ∧ e.2 < n) : ∀ y ∈ p, y < n := by
  induction w with
  | one => intro y hy; simp at hy; subst hy; exact ha
  | snoc w e hy ih =>
    intro z hz
    rcases List.mem_append.mp hz with hz | hz
    · exact ih z hz
    · rw [List.mem_singleton] at hz
      subst hz
      rcases e with e | e
      · exact (hb _ e).2
      · exact (hb _ e).1
theorem Walk.nd {es : Es} {a x : Nat} {p : List Nat} (w : Walk es a x p) : p.Nodup := by
  induction w with
  | one => simp
  | snoc w e hy ih =>
    rw [List.nodup_append]
    exact ⟨ih, by simp, fun u hu v hv z => by simp at hv; subst hv; subst z; exact hy hu⟩
end Gr

set_option linter.all false
namespace Gr
/-! ### counting the lots -/
open Classical in
noncomputable def reps (n : Nat) (es : Es) : List Nat := (List.range n).filter fun x => decide (∀ y, y < x → ¬ Con es y x)
theorem mem_reps {n : Nat} {es : Es} {x : Nat} : x ∈ reps n es ↔ x < n ∧ ∀ y, y < x → ¬ Con es y x := by
  unfold reps
  simp
theorem reps_nd {n : Nat} {es : Es} : (reps n es).Nodup := List.nodup_range.filter _
theorem rep_of (es : Es) (a : Nat) : ∃ r, r ≤ a ∧ Con es r a ∧ ∀ y, y < r → ¬ Con es y r := by
  induction a using Nat.strongRecOn with
  | ind a ih =>
    by_cases h : ∃ y, y < a ∧ Con es y a
    · obtain ⟨y, hy, c⟩ := h
      obtain ⟨r, h1, h2, h3⟩ := ih y hy
      exact ⟨r, by omega, h2.trans c, h3⟩
    · exact ⟨a, Nat.le_refl _, .refl _, fun y hy c => h ⟨y, hy, c⟩⟩
theorem reps_nil {n : Nat} : (reps n []).length = n := by
  have : reps n [] = List.range n := by
    unfold reps
    refine List.filter_eq_self.mpr fun x hx => ?_
    simp
    intro y hy c
    have := c.nil
    omega
  rw [this, List.length_range]
theorem reps_congr {n : Nat} {es fs : Es} (h : ∀ a b, Con es a b ↔ Con fs a b) : reps n es = reps n fs := by
  unfold reps
  congr 1
  funext x
  simp [h]
theorem out_one {m : Nat} : ∀ {l : List Nat}, l.Nodup → m ∈ l → (l.filter fun x => decide (x ≠ m)).length + 1 = l.length
  | [], _, h => by simp at h
  | x :: r, hn, h => by
    rw [List.nodup_cons] at hn
    by_cases e : x = m
    · subst e
      rw [List.filter_cons_of_neg (by simp), List.filter_eq_self.mpr fun y hy => by
        simp
        rintro rfl
        exact hn.1 hy]
      rfl
    · have hm : m ∈ r := (List.mem_cons.mp h).resolve_left (Ne.symm e)
      rw [List.filter_cons_of_pos (by simp [e]), List.length_cons, List.length_cons, out_one hn.2 hm]
theorem reps_add {n : Nat} {es : Es} {p q : Nat} (hp : p < n) (hq : q < n) (c : ¬ Con es p q) : (reps n (es ++ [(p, q)])).length + 1 = (reps n es).length := by
  obtain ⟨rp, lp, cp, mp⟩ := rep_of es p
  obtain ⟨rq, lq, cq, mq⟩ := rep_of es q
  have ne : rp ≠ rq := by
    rintro rfl
    exact c (cp.symm.trans cq)
  have hm : max rp rq ∈ reps n es := by
    by_cases h : rp ≤ rq
    · rw [Nat.max_eq_right h]; exact mem_reps.mpr ⟨by omega, mq⟩
    · rw [Nat.max_eq_left (by omega)]; exact mem_reps.mpr ⟨by omega, mp⟩
  rw [← out_one reps_nd hm]
  congr 2
  unfold reps
  rw [List.filter_filter]
  refine List.filter_congr fun x hx => ?_
  rw [Bool.eq_iff_iff]
  simp only [decide_eq_true_eq, Bool.and_eq_true]
  constructor
  · intro h
    refine ⟨?_, fun y hy k => h y hy (Con.add.mpr (.inl k))⟩
    rintro rfl
    refine h (min rp rq) (by omega) (Con.add.mpr (.inr ?_))
    by_cases k : rp ≤ rq
    · rw [Nat.min_eq_left k, Nat.max_eq_right k]; exact .inl ⟨cp, cq.symm⟩
    · rw [Nat.min_eq_right (by omega), Nat.max_eq_left (by omega)]; exact .inr ⟨cq, cp.symm⟩
  · rintro ⟨h1, h2⟩ y hy k
    rcases Con.add.mp k with k | ⟨k1, k2⟩ | ⟨k1, k2⟩
    · exact h2 y hy k
    · -- y ~ p, q ~ x : x is the least of q's lot
      have e1 : ¬ x < rq := fun z => mq x z (k2.symm.trans cq.symm)
      have e2 : ¬ rq < x := fun z => h2 rq z (cq.trans k2)
      have e3 : ¬ y < rp := fun z => mp y z (k1.trans cp.symm)
      omega
    · have e1 : ¬ x < rp := fun z => mp x z (k2.symm.trans cp.symm)
      have e2 : ¬ rp < x := fun z => h2 rp z (cp.trans k2)
      have e3 : ¬ y < rq := fun z => mq y z (k1.trans cq.symm)
      omega
theorem con_in {es : Es} {p q : Nat} (c : Con es p q) {a b : Nat} : Con (es ++ [(p, q)]) a b ↔ Con es a b := by
  rw [Con.add]
  refine ⟨fun h => ?_, .inl⟩
  rcases h with h | ⟨h1, h2⟩ | ⟨h1, h2⟩
  · exact h
  · exact (h1.trans c).trans h2
  · exact (h1.trans c.symm).trans h2
theorem reps_le {n : Nat} : ∀ (fs es : Es), (∀ p ∈ fs, p.1 < n ∧ p.2 < n) → (reps n es).length ≤ (reps n (es ++ fs)).length + fs.length
  | [], es, _ => by simp
  | p :: r, es, h => by
    have ih := reps_le r (es ++ [p]) fun q hq => h q (List.mem_cons_of_mem _ hq)
    rw [List.append_assoc] at ih
    have e : es ++ ([p] ++ r) = es ++ p :: r := rfl
    rw [e] at ih
    have hp := h p (List.mem_cons_self ..)
    by_cases c : Con es p.1 p.2
    · have : reps n (es ++ [p]) = reps n es := reps_congr fun a b => con_in (p := p.1) (q := p.2) c
      rw [this] at ih
      rw [List.length_cons]; omega
    · have := reps_add hp.1 hp.2 c
      have e2 : es ++ [(p.1, p.2)] = es ++ [p] := rfl
      rw [e2] at this
      rw [List.length_cons]; omega
theorem reps_low {n : Nat} {es : Es} (h : ∀ p ∈ es, p.1 < n ∧ p.2 < n) : n ≤ (reps n es).length + es.length := by
  have := reps_le es [] h
  rw [reps_nil] at this
  exact this
theorem reps_mono {n : Nat} {es fs : Es} (h : ∀ a b, Con es a b → Con fs a b) : (reps n fs).length ≤ (reps n es).length :=
  len_le_of_sub reps_nd fun x hx => mem_reps.mpr ⟨(mem_reps.mp hx).1, fun y hy c => (mem_reps.mp hx).2 y hy (h _ _ c)⟩
theorem con_all {es fs : Es} (h : ∀ p ∈ es, Con fs p.1 p.2) {a b : Nat} (c : Con es a b) : Con fs a b := by
  induction c with
  | refl => exact .refl _
  | step _ e ih =>
    rcases e with e | e
    · exact ih.trans (h _ e)
    · exact ih.trans (h _ e).symm
theorem reps_joined {n : Nat} {es : Es} (h0 : 0 < n) (j : Joined n es) : (reps n es).length = 1 := by
  have h1 : (reps n es).length ≤ 1 := len_le_of_sub (m := [0]) reps_nd fun x hx => by
    obtain ⟨h2, h3⟩ := mem_reps.mp hx
    by_cases e : x = 0
    · simp [e]
    · exact absurd (j x h2) (h3 0 (by omega))
  have h2 : 0 ∈ reps n es := mem_reps.mpr ⟨h0, fun y hy => absurd hy (Nat.not_lt_zero _)⟩
  have := List.length_pos_of_mem h2
  omega
/-! ### keeping what joins -/
open Classical in
noncomputable def kstep1 (f : Es) (p : Nat × Nat) : Es := if Con f p.1 p.2 then f else f ++ [p]
structure Kf (n : Nat) (os f : Es) : Prop where
  cnt : (reps n f).length + f.length = n
  con : ∀ a b, Con f a b ↔ Con os a b
  nd : f.Nodup
  sub : ∀ p ∈ f, p ∈ os
theorem kf_nil {n : Nat} : Kf n [] [] := ⟨by rw [reps_nil]; rfl, fun _ _ => Iff.rfl, List.nodup_nil, fun _ h => h⟩
theorem con_snoc {es fs : Es} (h : ∀ a b, Con es a b ↔ Con fs a b) (p : Nat × Nat) (a b : Nat) : Con (es ++ [p]) a b ↔ Con (fs ++ [p]) a b := by
  have e1 := Con.add (es := es) (p := p.1) (q := p.2) (a := a) (b := b)
  have e2 := Con.add (es := fs) (p := p.1) (q := p.2) (a := a) (b := b)
  rw [show es ++ [p] = es ++ [(p.1, p.2)] from rfl, show fs ++ [p] = fs ++ [(p.1, p.2)] from rfl, e1, e2, h, h, h, h, h]
theorem Kf.step {n : Nat} {os f : Es} (k : Kf n os f) {p : Nat × Nat} (hp : p.1 < n ∧ p.2 < n) : Kf n (os ++ [p]) (kstep1 f p) := by
  unfold kstep1
  by_cases c : Con f p.1 p.2
  · rw [if_pos c]
    refine ⟨k.cnt, fun a b => ?_, k.nd, fun q hq => List.mem_append_left _ (k.sub q hq)⟩
    rw [← con_snoc k.con p a b]
    exact (con_in (p := p.1) (q := p.2) c).symm
  · rw [if_neg c]
    refine ⟨?_, con_snoc k.con p, ?_, fun q hq => ?_⟩
    · have := reps_add hp.1 hp.2 c
      rw [show f ++ [(p.1, p.2)] = f ++ [p] from rfl] at this
      have := k.cnt
      rw [List.length_append, List.length_singleton]
      omega
    · rw [List.nodup_append]
      refine ⟨k.nd, by simp, fun x hx y hy => ?_⟩
      simp at hy
      subst hy
      rintro rfl
      exact c (Con.one (.inl hx))
    · rcases List.mem_append.mp hq with h | h
      · exact List.mem_append_left _ (k.sub q h)
      · exact List.mem_append_right _ h
theorem Kf.fold {n : Nat} : ∀ (ps os f : Es), Kf n os f → (∀ p ∈ ps, p.1 < n ∧ p.2 < n) → Kf n (os ++ ps) (ps.foldl kstep1 f)
  | [], os, f, k, _ => by simpa using k
  | p :: r, os, f, k, h => by
    have := Kf.fold r (os ++ [p]) (kstep1 f p) (k.step (h p (List.mem_cons_self ..))) fun q hq => h q (List.mem_cons_of_mem _ hq)
    rw [List.append_assoc] at this
    exact this
theorem kf_all {n : Nat} {ps : Es} (h : ∀ p ∈ ps, p.1 < n ∧ p.2 < n) : Kf n ps (ps.foldl kstep1 []) := by
  have := Kf.fold ps [] [] kf_nil h
  simpa using this
/-! ### a tree: as many ties as houses but one -/
theorem bridge {n : Nat} {ps : Es} (h0 : 0 < n) (hb : ∀ p ∈ ps, p.1 < n ∧ p.2 < n) (j : Joined n ps) (hl : ps.length + 1 = n) {e : Nat × Nat} (he : e ∈ ps) : ¬ Con (ps.erase e) e.1 e.2 := by
  intro c
  have j' : Joined n (ps.erase e) := fun x hx => con_all (es := ps) (fun p hp => by
    by_cases q : p = e
    · subst q; exact c
    · exact Con.one (.inl ((List.mem_erase_of_ne q).mpr hp))) (j x hx)
  have h1 := reps_joined h0 j'
  have h2 := reps_low (n := n) (es := ps.erase e) fun p hp => hb p (List.mem_of_mem_erase hp)
  have h3 := List.length_erase_of_mem he
  have h4 := List.length_pos_of_mem he
  omega
theorem Walk.start {es : Es} {a x : Nat} {p : List Nat} (w : Walk es a x p) : a ∈ p := by
  induction w with
  | one => simp
  | snoc _ _ _ ih => exact List.mem_append_left _ ih
theorem Walk.stop {es : Es} {a x : Nat} {p : List Nat} (w : Walk es a x p) : x ∈ p := by
  cases w <;> simp
theorem walk_off {ps : Es} {a x y : Nat} {p : List Nat} {e : Nat × Nat} (w : Walk ps a x p) : y ∉ p → (e.1 = y ∨ e.2 = y) → Con (ps.erase e) a x := by
  induction w with
  | one => intros; exact .refl _
  | @snoc u v p w1 ad hv ih =>
    intro hy he
    have hyp : y ∉ p := fun z => hy (List.mem_append_left _ z)
    have hyv : v ≠ y := fun z => hy (z ▸ List.mem_append_right _ (List.mem_singleton.mpr rfl))
    have hyu : u ≠ y := fun z => hyp (z ▸ w1.stop)
    refine (ih hyp he).trans (Con.one ?_)
    rcases ad with ad | ad
    · refine .inl ((List.mem_erase_of_ne ?_).mpr ad)
      rintro rfl
      rcases he with h | h
      · exact hyu h
      · exact hyv h
    · refine .inr ((List.mem_erase_of_ne ?_).mpr ad)
      rintro rfl
      rcases he with h | h
      · exact hyv h
      · exact hyu h
theorem walk_one {ps : Es} (hbr : ∀ e ∈ ps, ¬ Con (ps.erase e) e.1 e.2) {a b : Nat} {p : List Nat} (w : Walk ps a b p) : ∀ {q : List Nat}, Walk ps a b q → p = q := by
  induction w with
  | one =>
    intro q w'
    cases w' with
    | one => rfl
    | snoc w1 _ h => exact absurd w1.start h
  | @snoc x y p w1 ad hy ih =>
    intro q w'
    cases w' with
    | one => exact absurd w1.start hy
    | @snoc x' _ p' w1' ad' hy' =>
      by_cases hx : x = x'
      · subst hx
        rw [ih w1']
      · exfalso
        have key : ∀ e ∈ ps, (e = (x, y) ∨ e = (y, x)) → False := fun e he hex => by
          have hey : e.1 = y ∨ e.2 = y := by rcases hex with h | h <;> rw [h] <;> simp
          have c1 := walk_off (e := e) w1 hy hey
          have c2 := walk_off (e := e) w1' hy' hey
          have c3 : Con (ps.erase e) x' y := Con.one (by
            have hxy : x' ≠ y := fun z => hy' (z ▸ w1'.stop)
            have hxy2 : x ≠ y := fun z => hy (z ▸ w1.stop)
            rcases ad' with ad' | ad'
            · refine .inl ((List.mem_erase_of_ne ?_).mpr ad')
              rintro rfl
              rcases hex with h | h
              · simp at h; exact hx h.symm
              · simp at h; exact hxy h.1
            · refine .inr ((List.mem_erase_of_ne ?_).mpr ad')
              rintro rfl
              rcases hex with h | h
              · simp at h; exact hxy h.2
              · simp at h; exact hx h.symm)
          have c4 : Con (ps.erase e) x y := (c1.symm.trans c2).trans c3
          rcases hex with h | h
          · exact hbr e he (by rw [h] at c4 ⊢; exact c4)
          · exact hbr e he (by rw [h] at c4 ⊢; exact c4.symm)
        rcases ad with ad | ad
        · exact key _ ad (.inl rfl)
        · exact key _ ad (.inr rfl)
end Gr

set_option linter.all false
namespace Gr
/-! ### sums by their layers -/
def layers (l : List Nat) : Nat → Nat
  | 0 => 0
  | m + 1 => layers l m + (l.filter fun x => decide (m < x)).length
theorem layers_cons (x : Nat) (l : List Nat) : ∀ m, layers (x :: l) m = min x m + layers l m
  | 0 => by simp [layers]
  | m + 1 => by
    have ih := layers_cons x l m
    unfold layers
    rw [ih]
    by_cases h : m < x
    · rw [List.filter_cons_of_pos (by simp [h]), List.length_cons]; omega
    · rw [List.filter_cons_of_neg (by simp [h])]; omega
theorem sum_layers {m : Nat} : ∀ {l : List Nat}, (∀ x ∈ l, x ≤ m) → l.sum = layers l m
  | [], _ => by
    have : ∀ m, layers [] m = 0 := fun m => by
      induction m with
      | zero => rfl
      | succ m ih => simp [layers, ih]
    rw [this]; rfl
  | x :: r, h => by
    rw [layers_cons, List.sum_cons, sum_layers fun y hy => h y (List.mem_cons_of_mem _ hy)]
    have := h x (List.mem_cons_self ..)
    omega
theorem filter_not_len {α : Type} (p : α → Bool) : ∀ l : List α, (l.filter p).length + (l.filter fun x => !p x).length = l.length
  | [] => rfl
  | x :: r => by
    have ih := filter_not_len p r
    cases h : p x with
    | true => rw [List.filter_cons_of_pos h, List.filter_cons_of_neg (by simp [h]), List.length_cons, List.length_cons]; omega
    | false => rw [List.filter_cons_of_neg (by simp [h]), List.filter_cons_of_pos (by simp [h]), List.length_cons, List.length_cons]; omega
theorem sum_le {a b : List Nat} (hl : a.length = b.length) (h : ∀ c, (b.filter fun x => decide (x ≤ c)).length ≤ (a.filter fun x => decide (x ≤ c)).length) : a.sum ≤ b.sum := by
  have hm : ∃ m, (∀ x ∈ a, x ≤ m) ∧ ∀ x ∈ b, x ≤ m := by
    have one : ∀ l : List Nat, ∃ m, ∀ x ∈ l, x ≤ m := fun l => by
      induction l with
      | nil => exact ⟨0, by simp⟩
      | cons x r ih =>
        obtain ⟨m, hm⟩ := ih
        refine ⟨max x m, fun y hy => ?_⟩
        rcases List.mem_cons.mp hy with rfl | hy
        · omega
        · have := hm y hy; omega
    obtain ⟨m1, h1⟩ := one a
    obtain ⟨m2, h2⟩ := one b
    exact ⟨max m1 m2, fun x hx => by have := h1 x hx; omega, fun x hx => by have := h2 x hx; omega⟩
  obtain ⟨m, h1, h2⟩ := hm
  rw [sum_layers h1, sum_layers h2]
  clear h1 h2
  induction m with
  | zero => exact Nat.le_refl _
  | succ m ih =>
    unfold layers
    have e1 := filter_not_len (fun x => decide (x ≤ m)) a
    have e2 := filter_not_len (fun x => decide (x ≤ m)) b
    have f : (fun x => !decide (x ≤ m)) = fun x => decide (m < x) := by
      funext x
      rw [← decide_not]
      exact decide_eq_decide.mpr (by omega)
    rw [f] at e1 e2
    have := h m
    omega
/-- a part of a forest is one -/
theorem forest_part {n : Nat} {F : Es} (hc : (reps n F).length + F.length = n) (hb : ∀ p ∈ F, p.1 < n ∧ p.2 < n) (c : Nat × Nat → Bool) : (reps n (F.filter c)).length + (F.filter c).length ≤ n := by
  have h1 := reps_le (n := n) (F.filter fun x => !c x) (F.filter c) fun p hp => hb p (List.mem_filter.mp hp).1
  have h2 : (reps n (F.filter c ++ F.filter fun x => !c x)).length ≤ (reps n F).length := reps_mono fun a b k => k.mono fun p hp => by
    by_cases h : c p = true
    · exact List.mem_append_left _ (List.mem_filter.mpr ⟨hp, h⟩)
    · exact List.mem_append_right _ (List.mem_filter.mpr ⟨hp, by simp [h]⟩)
  have h3 := filter_not_len c F
  omega
end Gr

set_option linter.all false
namespace Gr
/-! ### going by breadth, with the ways -/
def addW (q : List Nat) (W : Ws) (o : Nat) : Ws := if o ∈ keys W then W else W ++ [(o, q ++ [o])]
def addAllW (q : List Nat) (W : Ws) (os : List Nat) : Ws := os.foldl (addW q) W
def uAt (W : Ws) (k : Nat) : Nat := (keys W).getD k 0
def bstep (near : List (List Nat)) (W : Ws) (k : Nat) : Ws :=
  if k < W.length then addAllW ((pathOf W (uAt W k)).getD []) W (near.getD (uAt W k) []) else W
def bto (near : List (List Nat)) (a k : Nat) : Ws := (List.range k).foldl (bstep near) [(a, [a])]
theorem keys_addW {q : List Nat} {W : Ws} {o : Nat} : keys (addW q W o) = if o ∈ keys W then keys W else keys W ++ [o] := by
  unfold addW
  split <;> simp [keys]
theorem keys_addAllW (q : List Nat) : ∀ (os : List Nat) (W : Ws), keys (addAllW q W os) = addAll (keys W) os
  | [], W => rfl
  | o :: r, W => by
    show keys (addAllW q (addW q W o) r) = addAll (if o ∈ keys W then keys W else keys W ++ [o]) r
    rw [keys_addAllW q r, keys_addW]
theorem keys_length {W : Ws} : (keys W).length = W.length := by unfold keys; rw [List.length_map]
theorem keys_bstep {near : List (List Nat)} {W : Ws} {k : Nat} : keys (bstep near W k) = lotStep near (keys W) k := by
  unfold bstep lotStep
  rw [keys_length]
  split
  · rw [keys_addAllW]; rfl
  · rfl
theorem keys_bto {near : List (List Nat)} {a k : Nat} : keys (bto near a k) = (List.range k).foldl (lotStep near) [a] := by
  unfold bto
  induction k with
  | zero => rfl
  | succ k ih =>
    rw [List.range_succ, List.foldl_append, List.foldl_append]
    show keys (bstep near _ k) = lotStep near _ k
    rw [keys_bstep, ih]
theorem bto_succ {near : List (List Nat)} {a k : Nat} : bto near a (k + 1) = bstep near (bto near a k) k := by
  unfold bto
  rw [List.range_succ, List.foldl_append]
  rfl
theorem pathOf_app' {W T : Ws} {x : Nat} {p : List Nat} (h : pathOf W x = some p) : pathOf (W ++ T) x = some p := by
  unfold pathOf at h ⊢
  rw [List.find?_append]
  cases e : W.find? (fun q => decide (q.1 = x)) with
  | none => rw [e] at h; simp at h
  | some q => rw [e] at h; simpa using h
theorem pathOf_new {W : Ws} {x : Nat} {p : List Nat} (h : x ∉ keys W) : pathOf (W ++ [(x, p)]) x = some p := by
  have e : W.find? (fun q => decide (q.1 = x)) = none := by
    rw [List.find?_eq_none]
    intro q hq z
    simp at z
    exact h (List.mem_map.mpr ⟨q, hq, z⟩)
  unfold pathOf
  rw [List.find?_append, e]
  simp
theorem Walk.last {es : Es} {a x : Nat} {p : List Nat} (w : Walk es a x p) : p.getLast? = some x := by
  cases w <;> simp
structure Bok (es : Es) (n a : Nat) (W : Ws) : Prop where
  wok : Wok es n a W
  cns : ∀ q ∈ W, ∀ j, j < q.2.length → pathOf W (q.2.getD j 0) = some (q.2.take (j + 1))
theorem bok_first {es : Es} {n a : Nat} (ha : a < n) : Bok es n a [(a, [a])] := by
  refine ⟨wok_first ha, fun q hq j hj => ?_⟩
  simp at hq
  subst hq
  have : j = 0 := by simpa using hj
  subst this
  simp [pathOf]
theorem Bok.add {es : Es} {n a x y : Nat} {W : Ws} (b : Bok es n a W) {p : List Nat} (hx : pathOf W x = some p) (hy : y ∉ keys W) (e : Adj es x y) (hn : y < n) : Bok es n a (W ++ [(y, p ++ [y])]) := by
  have hxk : x ∈ keys W := by
    by_cases c : x ∈ keys W
    · exact c
    · rw [pathOf_none c] at hx; cases hx
  have w := b.wok.add hxk hy e hn
  rw [hx] at w
  refine ⟨w, fun q hq j hj => ?_⟩
  rcases List.mem_append.mp hq with h | h
  · exact pathOf_app' (b.cns q h j hj)
  · simp at h
    subst h
    simp only [List.length_append, List.length_singleton] at hj
    by_cases hjp : j < p.length
    · obtain ⟨p', e', hm⟩ := pathOf_mem hxk
      rw [hx] at e'; cases e'
      have := b.cns _ hm j hjp
      have g : (p ++ [y]).getD j 0 = p.getD j 0 := by simp [List.getD_eq_getElem?_getD, List.getElem?_append_left hjp]
      show pathOf _ ((p ++ [y]).getD j 0) = some ((p ++ [y]).take (j + 1))
      rw [g, pathOf_app' this, List.take_append_of_le_length (by omega)]
    · have hj' : j = p.length := by omega
      subst hj'
      have g : (p ++ [y]).getD p.length 0 = y := by simp [List.getD_eq_getElem?_getD]
      show pathOf _ ((p ++ [y]).getD p.length 0) = some ((p ++ [y]).take (p.length + 1))
      rw [g, pathOf_new hy, List.take_of_length_le (by simp)]
theorem Bok.one {es : Es} {n a u o : Nat} {W : Ws} (b : Bok es n a W) {p : List Nat} (hu : pathOf W u = some p) (e : Adj es u o) (hn : o < n) : Bok es n a (addW p W o) ∧ pathOf (addW p W o) u = some p := by
  unfold addW
  split
  · exact ⟨b, hu⟩
  · rename_i h
    exact ⟨b.add hu h e hn, pathOf_app' hu⟩
theorem Bok.all {es : Es} {n a u : Nat} {p : List Nat} : ∀ {os : List Nat} {W : Ws}, Bok es n a W → pathOf W u = some p → (∀ o ∈ os, Adj es u o ∧ o < n) → Bok es n a (addAllW p W os) ∧ pathOf (addAllW p W os) u = some p
  | [], W, b, hu, _ => ⟨b, hu⟩
  | o :: r, W, b, hu, h => by
    obtain ⟨b1, h1⟩ := b.one hu (h o (List.mem_cons_self ..)).1 (h o (List.mem_cons_self ..)).2
    show Bok es n a (addAllW p (addW p W o) r) ∧ pathOf (addAllW p (addW p W o) r) u = some p
    exact Bok.all b1 h1 fun x hx => h x (List.mem_cons_of_mem _ hx)
theorem Bok.step {es : Es} {n a k : Nat} {W : Ws} {near : List (List Nat)} (hn : NearOf n es near) (b : Bok es n a W) : Bok es n a (bstep near W k) := by
  unfold bstep
  split
  · rename_i hk
    have hm : uAt W k ∈ keys W := by
      unfold uAt
      rw [List.getD_eq_getElem?_getD, List.getElem?_eq_getElem (by rw [keys_length]; exact hk)]
      exact List.getElem_mem _
    obtain ⟨p, e, hp⟩ := pathOf_mem hm
    have hu : uAt W k < n := (b.wok.wk _ hp).2.2
    rw [e]
    exact (Bok.all b e fun o ho => by
      have := (hn.2 _ o hu).1 ho
      exact ⟨this.2, this.1⟩).1
  · exact b
theorem bto_ok {es : Es} {n a : Nat} {near : List (List Nat)} (hn : NearOf n es near) (ha : a < n) : ∀ k, Bok es n a (bto near a k)
  | 0 => bok_first ha
  | k + 1 => by rw [bto_succ]; exact (bto_ok hn ha k).step hn
/-- the way that is found -/
theorem bto_way {es : Es} {n a b : Nat} {near : List (List Nat)} (hn : NearOf n es near) (hb : ∀ p ∈ es, p.1 < n ∧ p.2 < n) (ha : a < n) (c : Con es a b) : ∃ p, pathOf (bto near a n) b = some p ∧ (b, p) ∈ bto near a n ∧ Walk es a b p := by
  have hm : b ∈ keys (bto near a n) := by
    rw [keys_bto, ← hn.1]
    exact ((lot_mem hn hb ha).2.1 b).mpr c
  obtain ⟨p, e, hp⟩ := pathOf_mem hm
  exact ⟨p, e, hp, ((bto_ok hn ha n).wok.wk _ hp).1⟩
/-- the house before, on the way back -/
theorem back_one {p : List Nat} {i : Nat} (hi : i < p.length) : (p.take (p.length - 1 - i + 1)).dropLast.getLast? = p.reverse[i + 1]? := by
  rw [List.dropLast_eq_take, List.length_take, List.take_take, List.getLast?_eq_getElem?, List.getElem?_take]
  by_cases h : i + 1 < p.length
  · rw [List.getElem?_reverse h, List.length_take, if_pos (by omega)]
    congr 1
    omega
  · rw [List.getElem?_eq_none (l := p.reverse) (by simp; omega), List.length_take, if_neg (by omega)]
end Gr

set_option Elab.async false
set_option linter.all false
set_option maxRecDepth 100000
set_option maxHeartbeats 2000000
namespace K30
open PySem PySem.Spec PyProof.Rows L2 Mp
structure Hand (S : Store) (h n : Nat) : Prop where
  ex : ∃ (m : Nat) (cells : List Int) (i : Nat) (big mix : Int) (cnt : Nat), S[h]? = some (.lst [.ref m, .int i, .int big, .int mix, .int cnt]) ∧ S[m]? = some (.lst (cells.map .int)) ∧ h ≠ m ∧ 0 ≤ big ∧ 0 ≤ mix ∧ mix < 2147483647 ∧ cnt ≤ n ∧ m < h
def Same1 (h : Nat) (S S' : Store) : Prop := S'.length = S.length ∧ ∀ j, j ≠ h → S'[j]? = S[j]?
theorem same_set {S : Store} {h : Nat} (o : Ob) : Same1 h S (S.set h o) := ⟨by simp, fun j hj => List.getElem?_set_ne (Ne.symm hj)⟩
theorem hand_set {S : Store} {h m n : Nat} {cells : List Int} {i big mix k : Int} (hl : h < S.length) (e2 : S[m]? = some (.lst (cells.map .int))) (ne : h ≠ m) (hi : 0 ≤ i) (hb : 0 ≤ big) (h0 : 0 ≤ mix) (h1 : mix < 2147483647) (k0 : 0 ≤ k) (k1 : k ≤ n) (mh : m < h) :
    Hand (S.set h (.lst [.ref m, .int i, .int big, .int mix, .int k])) h n := by
  obtain ⟨i, rfl⟩ := Int.eq_ofNat_of_zero_le hi
  obtain ⟨k, rfl⟩ := Int.eq_ofNat_of_zero_le k0
  exact ⟨m, cells, i, big, mix, k, List.getElem?_set_self hl, by rw [List.getElem?_set_ne ne]; exact e2, ne, hb, h0, h1, by omega, mh⟩
theorem take_tail {S : Store} {h m n : Nat} {cells : List Int} {i big μ k many : Int} (hl : h < S.length) (e2 : S[m]? = some (.lst (cells.map .int))) (ne : h ≠ m) (hi : 0 ≤ i) (hb : 0 ≤ big) (m0 : 0 ≤ μ) (m1 : μ < 2147483647) (k0 : 0 ≤ k) (k1 : k ≤ n) (hn : n ≤ 1000000001) (hm : 1 ≤ many) (mh : m < h) :
    CM μ 69621 ∧ CM 7919 k ∧ CD ((μ * 69621 + 7919 * k) % 2147483647) 1009 ∧ CM ((μ * 69621 + 7919 * k) % 2147483647) ((μ * 69621 + 7919 * k) % 2147483647 / 1009 + 69621) ∧ CD (((μ * 69621 + 7919 * k) % 2147483647 * ((μ * 69621 + 7919 * k) % 2147483647 / 1009 + 69621) % 2147483647)) 2003 ∧ CM (((μ * 69621 + 7919 * k) % 2147483647 * ((μ * 69621 + 7919 * k) % 2147483647 / 1009 + 69621) % 2147483647)) (((μ * 69621 + 7919 * k) % 2147483647 * ((μ * 69621 + 7919 * k) % 2147483647 / 1009 + 69621) % 2147483647) / 2003 + 40692) ∧ CD (((μ * 69621 + 7919 * k) % 2147483647 * ((μ * 69621 + 7919 * k) % 2147483647 / 1009 + 69621) % 2147483647) * (((μ * 69621 + 7919 * k) % 2147483647 * ((μ * 69621 + 7919 * k) % 2147483647 / 1009 + 69621) % 2147483647) / 2003 + 40692) % 2147483399) 16 ∧ 0 < many ∧
      ∃ r : Nat, ((μ * 69621 + 7919 * k) % 2147483647 * ((μ * 69621 + 7919 * k) % 2147483647 / 1009 + 69621) % 2147483647) * (((μ * 69621 + 7919 * k) % 2147483647 * ((μ * 69621 + 7919 * k) % 2147483647 / 1009 + 69621) % 2147483647) / 2003 + 40692) % 2147483399 / 16 % many = ↑r ∧ (r : Int) < many ∧ Hand (S.set h (.lst [.ref m, .int i, .int big, .int ((μ * 69621 + 7919 * k) % 2147483647), .int k])) h n ∧ Same1 h S (S.set h (.lst [.ref m, .int i, .int big, .int ((μ * 69621 + 7919 * k) % 2147483647), .int k])) := by
  have a0 := Int.emod_nonneg (μ * 69621 + 7919 * k) (by decide : (2147483647 : Int) ≠ 0)
  have a1 := Int.emod_lt_of_pos (μ * 69621 + 7919 * k) (by decide : (0 : Int) < 2147483647)
  refine ⟨cm_ok (by omega) (by omega), cm_ok (by omega) (by omega), ⟨by decide, by decide⟩, ?_⟩
  generalize (μ * 69621 + 7919 * k) % 2147483647 = a at *
  have b0 := Int.emod_nonneg (a * (a / 1009 + 69621)) (by decide : (2147483647 : Int) ≠ 0)
  have b1 := Int.emod_lt_of_pos (a * (a / 1009 + 69621)) (by decide : (0 : Int) < 2147483647)
  refine ⟨cm_ok (by omega) (by omega), ⟨by decide, by decide⟩, ?_⟩
  generalize a * (a / 1009 + 69621) % 2147483647 = b at *
  refine ⟨cm_ok (by omega) (by omega), ⟨by decide, by decide⟩, by omega, ?_⟩
  have c0 := Int.emod_nonneg (b * (b / 2003 + 40692) % 2147483399 / 16) (by omega : many ≠ 0)
  have c1 := Int.emod_lt_of_pos (b * (b / 2003 + 40692) % 2147483399 / 16) (by omega : 0 < many)
  obtain ⟨r, hr⟩ := Int.eq_ofNat_of_zero_le c0
  exact ⟨r, hr, by omega, hand_set hl e2 ne hi hb a0 a1 k0 k1 mh, same_set _⟩
theorem take_ok {S : Store} {h n : Nat} {many : Int} (H : Hand S h n) (h1 : 1 ≤ many) (h2 : many < 2 ^ 60) (hn : n ≤ 1000000000) :
    wO (g_law_take [.ref h, .int many] S) (fun v S' => ∃ r : Nat, v = .int r ∧ (r : Int) < many ∧ Hand S' h (n + 1) ∧ Same1 h S S') noX := by
  obtain ⟨m, cells, i, big, mix, cnt, e1, e2, ne, b0, m0, m1, c0, mh⟩ := H.ex
  unfold g_law_take
  have hl : h < S.length := (List.getElem?_eq_some_iff.mp e1).1
  have gs : ∀ o, (S.set h o)[h]? = some o := fun o => List.getElem?_set_self hl
  have gm : ∀ o, (S.set h o)[m]? = some (.lst (cells.map .int)) := fun o => by rw [List.getElem?_set_ne ne]; exact e2
  have cell : i < cells.length → ∃ c, cells[i]? = some c := fun h => ⟨_, List.getElem?_eq_getElem h⟩
  have mods : ∀ x : Int, 0 ≤ x % 2147483647 ∧ x % 2147483647 < 2147483647 := fun x => ⟨Int.emod_nonneg _ (by decide), Int.emod_lt_of_pos _ (by decide)⟩
  by_cases hb : big = 0
  · subst hb
    by_cases hi : i < cells.length
    · obtain ⟨c, hc⟩ := cell hi
      have hc2 : cells[i] = c := by rw [List.getElem?_eq_getElem hi] at hc; exact Option.some.inj hc
      simp [wO_fnB, g_law_take_s, e1, e2, gs, gm, hi, hc, hc2]
      refine ⟨⟨by decide, by decide, by decide⟩, ?_⟩
      split
      · rename_i big
        rw [if_pos (by omega)]
        have q0 := Int.emod_nonneg c (by omega : many ≠ 0)
        have q1 := Int.emod_lt_of_pos c (by omega : 0 < many)
        obtain ⟨r, hr⟩ := Int.eq_ofNat_of_zero_le q0
        exact ⟨by omega, ⟨by omega, by omega⟩, r, hr, by omega, hand_set hl e2 ne (by omega) (Int.ediv_nonneg (by omega) (by omega)) m0 m1 (by omega) (by omega) mh, same_set _⟩
      · have z := mods (mix * 48271 + c % 2147483647 + 1)
        exact ⟨cm_ok (by omega) (by omega), take_tail hl e2 ne (by omega) (by omega) z.1 z.2 (by omega) (by omega) (by omega) h1 mh⟩
    · simp [wO_fnB, g_law_take_s, e1, e2, gs, gm, hi]
      exact take_tail hl e2 ne (by omega) (by omega) m0 m1 (by omega) (by omega) (by omega) h1 mh
  · have hp : 0 < big := by omega
    simp [wO_fnB, g_law_take_s, e1, e2, gs, gm, hb, hp]
    have q0 := Int.emod_nonneg big (by omega : many ≠ 0)
    have q1 := Int.emod_lt_of_pos big (by omega : 0 < many)
    obtain ⟨r, hr⟩ := Int.eq_ofNat_of_zero_le q0
    exact ⟨by omega, ⟨by omega, by omega⟩, r, hr, by omega, hand_set hl e2 ne (by omega) (Int.ediv_nonneg (by omega) (by omega)) m0 m1 (by omega) (by omega) mh, same_set _⟩

/-! ### stores that grow -/
/-- what stood stands, but the hand at h -/
def Grow (h : Nat) (S S' : Store) : Prop := S.length ≤ S'.length ∧ ∀ j, j < S.length → j ≠ h → S'[j]? = S[j]?
theorem Grow.refl {h : Nat} {S : Store} : Grow h S S := ⟨Nat.le_refl _, fun _ _ _ => rfl⟩
theorem Grow.trans {h : Nat} {S S1 S2 : Store} (a : Grow h S S1) (b : Grow h S1 S2) : Grow h S S2 :=
  ⟨Nat.le_trans a.1 b.1, fun j hj hn => (b.2 j (Nat.lt_of_lt_of_le hj a.1) hn).trans (a.2 j hj hn)⟩
theorem Same1.grow {h : Nat} {S S' : Store} (s : Same1 h S S') : Grow h S S' := ⟨by rw [s.1]; exact Nat.le_refl _, fun j _ hn => s.2 j hn⟩
theorem Grow.app {h : Nat} {S : Store} (T : Store) : Grow h S (S ++ T) := ⟨by simp, fun j hj _ => List.getElem?_append_left hj⟩
theorem Grow.at {h : Nat} {S S' : Store} (g : Grow h S S') {j : Nat} {o : Ob} (e : S[j]? = some o) (hn : j ≠ h) : S'[j]? = some o := (g.2 j (List.getElem?_eq_some_iff.mp e).1 hn).trans e
theorem Hand.app {S : Store} {h n : Nat} (H : Hand S h n) (T : Store) : Hand (S ++ T) h n := by
  obtain ⟨m, cells, i, big, mix, cnt, e1, e2, r⟩ := H.ex
  exact ⟨m, cells, i, big, mix, cnt, by rw [List.getElem?_append_left (List.getElem?_eq_some_iff.mp e1).1]; exact e1, by rw [List.getElem?_append_left (List.getElem?_eq_some_iff.mp e2).1]; exact e2, r⟩
theorem Hand.more {S : Store} {h n n' : Nat} (H : Hand S h n) (le : n ≤ n') : Hand S h n' := by
  obtain ⟨m, cells, i, big, mix, cnt, e1, e2, ne, b0, m0, m1, c0, mh⟩ := H.ex
  exact ⟨m, cells, i, big, mix, cnt, e1, e2, ne, b0, m0, m1, Nat.le_trans c0 le, mh⟩
theorem Hand.lt {S : Store} {h n : Nat} (H : Hand S h n) : h < S.length := by
  obtain ⟨m, cells, i, big, mix, cnt, e1, _⟩ := H.ex
  exact (List.getElem?_eq_some_iff.mp e1).1
/-- another object than the hand's two is changed -/
theorem Hand.keep {S S' : Store} {h n : Nat} (H : Hand S h n) (k : ∀ (j : Nat) (o : Ob), S[j]? = some o → (∃ xs, o = Ob.lst xs) → S'[j]? = some o) : Hand S' h n := by
  obtain ⟨m, cells, i, big, mix, cnt, e1, e2, r⟩ := H.ex
  exact ⟨m, cells, i, big, mix, cnt, k _ _ e1 ⟨_, rfl⟩, k _ _ e2 ⟨_, rfl⟩, r⟩
theorem hand_ok (ns : List Int) (S : Store) : wO (g_law_hand [.frz (ns.map .int)] S) (fun v S' => v = .ref (S.length + 1) ∧ Hand S' (S.length + 1) 0 ∧ ∃ T, S' = S ++ T) noX := by
  simp [wO_fnB, g_law_hand, g_law_hand_s, LIM]
  exact ⟨S.length, ns, 0, 0, 1, 0, by simp [List.getElem?_append_right], by simp, by omega, by omega, by omega, by omega, Nat.le_refl _, by omega⟩
theorem pick_ok {S : Store} {h n t : Nat} {xs : List Val} (H : Hand S h n) (hn : n ≤ 1000000000) (ht : S[t]? = some (.lst xs)) (ne : t ≠ h) (h1 : xs ≠ []) (h2 : xs.length ≤ 1000) :
    wO (g_law_pick [.ref h, .ref t] S) (fun v S' => v ∈ xs ∧ Hand S' h (n + 1) ∧ Same1 h S S') noX := by
  simp [wO_fnB, g_law_pick, g_law_pick_s, ht]
  have l1 : 0 < xs.length := List.length_pos_iff.mpr h1
  refine (take_ok (many := xs.length) H (by omega) (by omega) hn).imp fun v S' ⟨r, e, hr, H', sm⟩ => ?_
  subst e
  have e2 : S'[t]? = some (.lst xs) := (sm.2 t ne).trans ht
  have hr' : r < xs.length := by omega
  simp [e2, hr']
  exact ⟨H', sm⟩

/-! ### odd things -/
def Fit (S : Store) (v : Val) : Prop := ∃ t, tyOf S v = some t
def Fit2 (S : Store) (v : Val) : Prop := Fit S v ∧ ∀ xs, v = .tup xs → ∀ x ∈ xs, Fit S x
theorem fit_non {S : Store} : Fit S .non := ⟨_, rfl⟩
theorem fit_bl {S : Store} (b : Bool) : Fit S (.bl b) := ⟨_, rfl⟩
theorem fit_int {S : Store} (b : Int) : Fit S (.int b) := ⟨_, rfl⟩
theorem fit_str {S : Store} (b : Str) : Fit S (.str b) := ⟨_, rfl⟩
theorem fit_tup {S : Store} (b : List Val) : Fit S (.tup b) := ⟨_, rfl⟩
/-! ### ties -/
structure Tm (kvs : List (List Key × Val)) (size : Nat) : Prop where
  nd : (kvs.map (·.1)).Nodup
  el : ∀ p ∈ kvs, ∃ a b w : Nat, p = ([.inl (a : Int), .inl (b : Int)], .int (w : Int)) ∧ a < b ∧ b < size ∧ w < 1000000
theorem Tm.put {kvs : List (List Key × Val)} {size a b w : Nat} (t : Tm kvs size) (h1 : a < b) (h2 : b < size) (h3 : w < 1000000) : Tm (putD kvs [.inl (a : Int), .inl (b : Int)] (.int (w : Int))) size :=
  ⟨putD_nodup t.nd, fun p hp => (putD_mem hp).elim (fun e => ⟨a, b, w, e, h1, h2, h3⟩) (t.el p)⟩
theorem Hand.setD {S : Store} {h n d : Nat} {kvs kvs' : List (List Key × Val)} (H : Hand S h n) (hd : S[d]? = some (.dt kvs)) : Hand (S.set d (.dt kvs')) h n :=
  H.keep fun j o e ⟨xs, e2⟩ => by
    subst e2
    have : d ≠ j := fun z => by subst z; rw [hd] at e; cases e
    rw [List.getElem?_set_ne this]; exact e
theorem Grow.setD {h d : Nat} {S0 S : Store} {o : Ob} (g : Grow h S0 S) (hd : S0.length ≤ d) : Grow h S0 (S.set d o) :=
  ⟨by rw [List.length_set]; exact g.1, fun j hj hn => by rw [List.getElem?_set_ne (by omega)]; exact g.2 j hj hn⟩
def Tinv (h size d shape span n : Nat) (S0 : Store) (more : Nat) (cov : Nat) (env : En) (S : Store) : Prop :=
  ∃ kvs o5 o6 o7 o8 o9 o10 o11, env = [some (.ref h), some (.int (size : Int)), some (.ref d), some (.int (shape : Int)), some (.int (span : Int)), o5, o6, o7, o8, o9, o10, o11] ∧ S[d]? = some (.dt kvs) ∧ Tm kvs size ∧ kvs.length ≤ more ∧
    (∀ b : Nat, 1 ≤ b → b ≤ cov → ∃ a : Nat, a < b ∧ [Sum.inl (a : Int), Sum.inl (b : Int)] ∈ kvs.map (·.1)) ∧ Hand S h n ∧ Grow h S0 S
/-- a tie as a value, its two houses -/
abbrev T3 : Type := Nat × Nat × Nat
def tieV (t : T3) : Val := .tup [.int (t.1 : Int), .int (t.2.1 : Int), .int (t.2.2 : Int)]
def tiesV (ts : List T3) : Val := .tup (ts.map tieV)
/-- ahead of: by the two houses -/
def pLt (s t : T3) : Prop := s.1 < t.1 ∨ (s.1 = t.1 ∧ s.2.1 < t.2.1)
structure Ties (size : Nat) (ts : List T3) : Prop where
  el : ∀ t ∈ ts, t.1 < t.2.1 ∧ t.2.1 < size ∧ t.2.2 < 1000000
  so : ts.Pairwise pLt
  cov : ∀ b, 1 ≤ b → b < size → ∃ a w, a < b ∧ (a, b, w) ∈ ts

theorem eq_of_wO {α : Type} {o : Out α} {S : Store} {v : α} (h : wO o (fun x S' => x = v ∧ S' = S) noX) : o = .ok v S := by
  obtain ⟨x, S', e, rfl, rfl⟩ := wO_ok h
  exact e
def numB : Val → Bool
  | .int i => decide (0 ≤ i)
  | _ => false
theorem ty_ref {S : Store} {n : Nat} {t : String} (h : tyOf S (.ref n) = some t) : t = "list" ∨ t = "dict" := by
  simp only [tyOf] at h
  split at h <;> simp_all
theorem is_number_eq {S : Store} {v : Val} (h : Fit S v) : g_is_number [v] S = .ok (.bl (numB v)) S := by
  refine eq_of_wO ?_
  obtain ⟨t, ht⟩ := h
  cases v with
  | ref n =>
    rcases ty_ref ht with rfl | rfl <;>
    simp [wO_fnB, g_is_number, g_is_number_s, ht, tyNames, subTy, numB]
  | frz xs => simp [tyOf] at ht
  | _ => simp [wO_fnB, g_is_number, g_is_number_s, tyOf, tyNames, subTy, numB]
theorem is_number_w {S : Store} {v : Val} {P : Val → Store → Prop} {E : XO} (h : Fit S v) : wO (g_is_number [v] S) P E = P (.bl (numB v)) S := by rw [is_number_eq h]; rfl
theorem Fit.ex {S S' : Store} {v : Val} (h : Fit S v) (a : Ex S S') : Fit S' v := by
  obtain ⟨t, ht⟩ := h
  refine ⟨t, ?_⟩
  cases v with
  | ref n =>
    simp only [tyOf] at ht ⊢
    cases e : S[n]? with
    | none => simp [e] at ht
    | some o => rw [a.at e]; rw [e] at ht; exact ht
  | _ => exact ht
theorem Fit2.ex {S S' : Store} {v : Val} (h : Fit2 S v) (a : Ex S S') : Fit2 S' v := ⟨h.1.ex a, fun xs e x hx => (h.2 xs e x hx).ex a⟩
def tonB : Val → Bool
  | .tup xs => xs.all numB
  | _ => false
def tieB (n : Int) : Val → Bool
  | .tup [.int a, .int b, .int w] => decide ((0 ≤ a ∧ 0 ≤ b ∧ 0 ≤ w) ∧ a < b ∧ b < n ∧ w < 1000000)
  | _ => false
theorem ton3 {v : Val} (h : tonB v = true) (h3 : ∀ xs, v = .tup xs → xs.length = 3) : ∃ a b w : Int, v = .tup [.int a, .int b, .int w] ∧ 0 ≤ a ∧ 0 ≤ b ∧ 0 ≤ w := by
  cases v with
  | tup xs =>
    have := h3 xs rfl
    match xs, this with
    | [x, y, z], _ =>
      cases x <;> cases y <;> cases z <;> simp [tonB, numB] at h
      exact ⟨_, _, _, rfl, h.1, h.2.1, h.2.2⟩
  | _ => simp [tonB] at h
/-- what may come in the place of a tie -/
def Itm3 (S : Store) (v : Val) : Prop := Fit2 S v ∧ ∀ xs, v = .tup xs → xs.length ≤ 1000
theorem Itm3.ex {S S' : Store} {v : Val} (h : Itm3 S v) (a : Ex S S') : Itm3 S' v := ⟨h.1.ex a, h.2⟩
theorem Itm3.lim {S : Store} {v : Val} (h : Itm3 S v) : ∀ xs, v = .tup xs → xs.length ≤ LIM := fun xs e => Nat.le_trans (h.2 xs e) (by decide)
theorem eqv1_nat {S : Store} {a b : Nat} : eqv1 S (.int (a : Int)) (.int (b : Int)) = some (decide (a = b)) := by rw [eqv1_int]; congr 1; exact decide_eq_decide.mpr (by omega)
def prI : Val → List Int
  | .tup (.int a :: .int b :: _) => [a, b]
  | _ => []
def aheadOf (xs : List Val) (i : Nat) : List Int := if i = 0 then [] else prI (xs.getD (i - 1) .non)
def okAt (n : Int) (xs : List Val) (k : Nat) : Bool := tieB n (xs.getD k .non) && !leL (prI (xs.getD k .non)) (aheadOf xs k)
def firstBad (n : Int) (xs : List Val) : Option Nat := (List.range xs.length).find? fun k => !okAt n xs k
def resV : Option Nat → Val
  | some k => .int (k : Int)
  | none => .non
theorem enumL_get {xs : List Val} {i : Nat} {x : Val} (h : (enumL xs)[i]? = some x) : ∃ y, xs[i]? = some y ∧ x = .tup [.int (i : Int), y] := by
  unfold enumL at h
  rw [List.getElem?_mapIdx] at h
  obtain ⟨y, e, rfl⟩ := Option.map_eq_some_iff.mp h
  exact ⟨y, e, rfl⟩
theorem enumL_len {xs : List Val} : (enumL xs).length = xs.length := by simp [enumL]
theorem tieB_cut {n : Int} {v : Val} (h : tieB n v = true) : ∃ a b w : Int, v = .tup [.int a, .int b, .int w] ∧ ((0 ≤ a ∧ 0 ≤ b ∧ 0 ≤ w) ∧ a < b ∧ b < n ∧ w < 1000000) := by
  unfold tieB at h
  split at h
  · exact ⟨_, _, _, rfl, of_decide_eq_true h⟩
  · cases h
theorem cut2 {a b w : Val} : cutL [a, b, w] none (some 2) = [a, b] := by
  have h1 : HT.sIx 3 0 none = 0 := rfl
  have h2 : HT.sIx 3 3 (some 2) = 2 := by decide
  show (([a, b, w].drop (HT.sIx 3 0 none)).take (HT.sIx 3 3 (some 2) - HT.sIx 3 0 none)) = [a, b]
  rw [h1, h2]; rfl
theorem firstBad_some {n : Int} {xs : List Val} {i : Nat} (hi : i < xs.length) (h : okAt n xs i = false) (hj : ∀ j < i, okAt n xs j = true) : firstBad n xs = some i := by
  unfold firstBad
  rw [List.find?_range_eq_some]
  exact ⟨by simp [h], by simpa using hi, fun j hj' => by simp [hj j hj']⟩
theorem firstBad_none {n : Int} {xs : List Val} (hj : ∀ j < xs.length, okAt n xs j = true) : firstBad n xs = none := by
  unfold firstBad
  rw [List.find?_range_eq_none]
  exact fun j hj' => by simp [hj j hj']
def Items (S : Store) (xs : List Val) : Prop := xs.length ≤ 1000 ∧ ∀ x ∈ xs, Itm3 S x
theorem Items.ex {S S' : Store} {xs : List Val} (h : Items S xs) (a : Ex S S') : Items S' xs := ⟨h.1, fun x hx => (h.2 x hx).ex a⟩
theorem getD_of {xs : List Val} {i : Nat} {y : Val} (h : xs[i]? = some y) : xs.getD i .non = y := by simp [List.getD_eq_getElem?_getD, h]
/-- a list made here, what it holds -/
def isL (xs : List Val) (S : Store) : Val → Store → Prop := fun v S' => ∃ r, v = .ref r ∧ Ex S S' ∧ S.length ≤ r ∧ S'[r]? = some (.lst xs)
def PuL (o : Out Val) (S : Store) (xs : List Val) : Prop := wO o (isL xs S) noX
theorem PuL.wk {o : Out Val} {S : Store} {xs : List Val} {P : Val → Store → Prop} {E : XO} (h : PuL o S xs) (k : ∀ r S', Ex S S' → S.length ≤ r → S'[r]? = some (.lst xs) → P (.ref r) S') : wO o P E :=
  wO.imp h fun v S' ⟨r, e, a, l, q⟩ => e ▸ k r S' a l q
def natV (n : Nat) : Val := .int (n : Int)
theorem nat_get {ms : List Nat} {i : Nat} (h : i < ms.length) : ms[i]? = some (ms.getD i 0) := by simp [h, List.getD_eq_getElem?_getD]
def pairV (p : Nat × Nat) : Val := .tup [natV p.1, natV p.2]
def marksTo (n : Nat) (es : Gr.Es) (i : Nat) : List Nat := (es.take i).foldl (fun ms p => Gr.merge1 ms p.1 p.2) (List.range n)
theorem merge1_len {ms : List Nat} {a b : Nat} : (Gr.merge1 ms a b).length = ms.length := by simp [Gr.merge1]
theorem foldM_len (es : Gr.Es) : ∀ ms : List Nat, (es.foldl (fun ms p => Gr.merge1 ms p.1 p.2) ms).length = ms.length := by
  induction es with
  | nil => intro ms; rfl
  | cons p r ih => intro ms; rw [List.foldl_cons, ih, merge1_len]
theorem marksTo_len {n : Nat} {es : Gr.Es} {i : Nat} : (marksTo n es i).length = n := by unfold marksTo; rw [foldM_len]; simp
theorem marksTo_succ {n : Nat} {es : Gr.Es} {i : Nat} {p : Nat × Nat} (h : es[i]? = some p) : marksTo n es (i + 1) = Gr.merge1 (marksTo n es i) p.1 p.2 := by
  unfold marksTo
  have hi := (List.getElem?_eq_some_iff.mp h).1
  have e : es[i] = p := by rw [List.getElem?_eq_getElem hi] at h; exact Option.some.inj h
  rw [List.take_succ_eq_append_getElem hi, List.foldl_append, e]
  rfl
theorem marksTo_all {n : Nat} {es : Gr.Es} : marksTo n es es.length = Gr.marksOf n es := by unfold marksTo Gr.marksOf; rw [List.take_length]
theorem upL0 {n : Nat} : upL 0 n = (List.range n).map natV := by
  unfold upL
  refine List.map_congr_left fun k _ => ?_
  simp [natV]
theorem map_get {α : Type} {f : α → Val} {xs : List α} {i : Nat} {x : Val} (h : (xs.map f)[i]? = some x) : ∃ y, xs[i]? = some y ∧ x = f y := by
  rw [List.getElem?_map] at h
  obtain ⟨y, e, rfl⟩ := Option.map_eq_some_iff.mp h
  exact ⟨y, e, rfl⟩
theorem dd_grow (ms : List Int) : ∀ σ : List Int, σ.length ≤ (ms.foldl PyProof.Rows.step_dedup σ).length := by
  induction ms with
  | nil => intro σ; exact Nat.le_refl _
  | cons y r ih =>
    intro σ
    rw [List.foldl_cons]
    refine Nat.le_trans ?_ (ih _)
    unfold PyProof.Rows.step_dedup
    split <;> simp
theorem dd_one (m : Int) (ms : List Int) : (ms.foldl PyProof.Rows.step_dedup [m]).length = 1 ↔ ∀ x ∈ ms, x = m := by
  induction ms with
  | nil => simp
  | cons y r ih =>
    rw [List.foldl_cons]
    by_cases h : y = m
    · subst h
      have : PyProof.Rows.step_dedup [y] y = [y] := by simp [PyProof.Rows.step_dedup]
      rw [this, ih]; simp
    · have : PyProof.Rows.step_dedup [m] y = [m, y] := by simp [PyProof.Rows.step_dedup, Ne.symm h]
      rw [this]
      have g := dd_grow r [m, y]
      simp only [List.length_cons, List.length_nil] at g
      constructor
      · intro e; omega
      · intro e; exact absurd (e y (by simp)) h
theorem dedup_one {ms : List Nat} (h0 : 0 < ms.length) : (dedup (ms.map Int.ofNat)).length = 1 ↔ ∀ x ∈ ms, x = ms.getD 0 0 := by
  cases ms with
  | nil => simp at h0
  | cons m r =>
    have : dedup ((m :: r).map Int.ofNat) = (r.map Int.ofNat).foldl PyProof.Rows.step_dedup [(m : Int)] := by simp [dedup, PyProof.Rows.step_dedup]
    rw [this, dd_one]
    simp [List.getD_eq_getElem?_getD]
    constructor <;> intro h a ha <;> have := h a ha <;> omega
theorem intsOf_nat (ms : List Nat) : intsOf (ms.map natV) = some (ms.map Int.ofNat) := intsOf_mapF _ ms
theorem set_map_range {β : Type} {n : Nat} (f : Nat → β) (i : Nat) (r : β) : ((List.range n).map f).set i r = (List.range n).map (fun h => if h = i then r else f h) := by
  refine List.ext_getElem? fun j => ?_
  rw [List.getElem?_set]
  simp only [List.getElem?_map, List.length_map, List.length_range]
  by_cases hj : j < n
  · rw [List.getElem?_range hj]
    by_cases h : i = j
    · subst h; simp [hj]
    · simp [h, Ne.symm h]
  · have : (List.range n)[j]? = none := List.getElem?_eq_none (by simpa using hj)
    rw [this]
    by_cases h : i = j
    · subst h; simp [hj]
    · simp [h]
theorem set_off {S T : Store} {a b : Ob} {i : Nat} : (S ++ a :: T).set (S.length + 1 + i) b = S ++ a :: T.set i b := by
  rw [List.set_append_right _ _ (by omega), show S.length + 1 + i - S.length = i + 1 by omega]
  rfl
theorem at_off1 {S T : Store} {a : Ob} {i : Nat} : (S ++ a :: T)[S.length + 1 + i]? = T[i]? := by
  rw [List.getElem?_append_right (by omega), show S.length + 1 + i - S.length = i + 1 by omega]
  rfl
def nearTo (es : Gr.Es) (h j : Nat) : List Nat := (List.range j).filter fun o => decide ((min h o, max h o) ∈ es)
def obN (r : List Nat) : Ob := .lst (r.map natV)
def nearZ (S : Store) (n : Nat) (f : Nat → List Nat) : Store := S ++ .lst ((List.range n).map fun i => .ref (S.length + 1 + i)) :: (List.range n).map fun h => obN (f h)
theorem nearZ_ref {S : Store} {n : Nat} {f : Nat → List Nat} : (nearZ S n f)[S.length]? = some (.lst ((List.range n).map fun i => .ref (S.length + 1 + i))) := at_new
theorem nearZ_row {S : Store} {n i : Nat} {f : Nat → List Nat} (h : i < n) : (nearZ S n f)[S.length + 1 + i]? = some (obN (f i)) := by
  unfold nearZ
  rw [at_off1]
  simp [h]
theorem nearZ_ex {S : Store} {n : Nat} {f : Nat → List Nat} : Ex S (nearZ S n f) := ⟨_, rfl⟩
theorem nearZ_set {S : Store} {n i : Nat} {f : Nat → List Nat} {r : List Nat} : (nearZ S n f).set (S.length + 1 + i) (obN r) = nearZ S n fun h => if h = i then r else f h := by
  unfold nearZ
  rw [set_off, set_map_range]
  congr 2
  refine List.map_congr_left fun h _ => ?_
  dsimp only
  by_cases c : h = i <;> simp [c]
theorem nearZ_congr {S : Store} {n : Nat} {f g : Nat → List Nat} (h : ∀ i < n, f i = g i) : nearZ S n f = nearZ S n g := by
  unfold nearZ
  congr 2
  refine List.map_congr_left fun i hi => ?_
  rw [h i (by simpa using hi)]
theorem nearTo_succ {es : Gr.Es} {h j : Nat} : nearTo es h (j + 1) = if (min h j, max h j) ∈ es then nearTo es h j ++ [j] else nearTo es h j := by
  unfold nearTo
  rw [List.range_succ, List.filter_append]
  split <;> simp_all
theorem pairsV_cln (es : Gr.Es) : clns (es.map pairV) = true := clns_iff.mpr fun x hx => by
  obtain ⟨p, _, rfl⟩ := List.mem_map.mp hx
  simp [pairV, natV]
theorem natV_inj {a b : Nat} : natV a = natV b ↔ a = b := by simp [natV]; omega
theorem pairV_inj {p q : Nat × Nat} : pairV p = pairV q ↔ p = q := by
  obtain ⟨a, b⟩ := p
  obtain ⟨c, d⟩ := q
  simp [pairV, natV_inj]
theorem pairV_mem {p : Nat × Nat} {es : Gr.Es} : pairV p ∈ es.map pairV ↔ p ∈ es := by
  rw [List.mem_map]
  exact ⟨fun ⟨q, h, e⟩ => pairV_inj.mp e ▸ h, fun h => ⟨p, h, rfl⟩⟩
theorem isIn_pairs {S : Store} {l : Nat} {es : Gr.Es} {p : Nat × Nat} (hl : S[l]? = some (.lst (es.map pairV))) : isIn S (pairV p) (.ref l) = some (decide (p ∈ es)) := by
  rw [isIn_list hl (by simp [pairV, natV]) (by simp [pairV, natV]) (pairsV_cln es)]
  congr 1
  exact decide_eq_decide.mpr pairV_mem
def NearAt (S : Store) (nr : Nat) (near : List (List Nat)) : Prop := ∃ rs : List Nat, S[nr]? = some (.lst (rs.map .ref)) ∧ rs.length = near.length ∧ ∀ i r, rs[i]? = some r → S[r]? = some (obN (near.getD i []))
theorem NearAt.ex {S S' : Store} {nr : Nat} {near : List (List Nat)} (h : NearAt S nr near) (a : Ex S S') : NearAt S' nr near := by
  obtain ⟨rs, h1, h2, h3⟩ := h
  exact ⟨rs, a.at h1, h2, fun i r e => a.at (h3 i r e)⟩
def nearL (n : Nat) (es : Gr.Es) : List (List Nat) := (List.range n).map fun h => nearTo es h n
theorem nearZ_at {S : Store} {n : Nat} {es : Gr.Es} : NearAt (nearZ S n fun h => nearTo es h n) S.length (nearL n es) := by
  refine ⟨(List.range n).map fun i => S.length + 1 + i, ?_, by simp [nearL], fun i r e => ?_⟩
  · rw [nearZ_ref]; simp
  · rw [List.getElem?_map] at e
    obtain ⟨j, e1, rfl⟩ := Option.map_eq_some_iff.mp e
    obtain ⟨h1, h2⟩ := List.getElem?_eq_some_iff.mp e1
    simp at h1 h2
    subst h2
    rw [nearZ_row h1]
    simp [nearL, List.getD_eq_getElem?_getD, h1]
structure Near (n : Nat) (near : List (List Nat)) : Prop where
  len : near.length = n
  lt : ∀ i, ∀ x ∈ near.getD i [], x < n
theorem near_L {n : Nat} {es : Gr.Es} : Near n (nearL n es) := by
  refine ⟨by simp [nearL], fun i x hx => ?_⟩
  by_cases h : i < n
  · simp [nearL, List.getD_eq_getElem?_getD, h, nearTo] at hx
    exact hx.1
  · simp [nearL, List.getD_eq_getElem?_getD, h] at hx
def lotTo (near : List (List Nat)) (h k : Nat) : List Nat := (List.range k).foldl (Gr.lotStep near) [h]
theorem lotTo_succ {near : List (List Nat)} {h k : Nat} : lotTo near h (k + 1) = Gr.lotStep near (lotTo near h k) k := by
  unfold lotTo; rw [List.range_succ, List.foldl_append]; rfl
theorem lotTo_all {near : List (List Nat)} {h : Nat} : lotTo near h near.length = Gr.lotOf near h := rfl
theorem lotTo_ok {n : Nat} {near : List (List Nat)} {h : Nat} (N : Near n near) (hh : h < n) (k : Nat) : (lotTo near h k).Nodup ∧ ∀ x ∈ lotTo near h k, x < n := by
  have L := Gr.lot_fold (near := near) (R := fun x => x < n) (fun a x _ hx => N.lt a x hx) k (f := [h]) ⟨by simp, by simpa using hh, by intro j hj; omega⟩
  exact ⟨L.nd, L.re⟩
theorem addAll_ok {n : Nat} {f os : List Nat} (hf : f.Nodup ∧ ∀ x ∈ f, x < n) (ho : ∀ x ∈ os, x < n) : (Gr.addAll f os).Nodup ∧ ∀ x ∈ Gr.addAll f os, x < n := by
  obtain ⟨a, _, c⟩ := Gr.addAll_spec os f hf.1
  exact ⟨a, fun x hx => ((c x).1 hx).elim (hf.2 x) (ho x)⟩
theorem addAll_take {f os : List Nat} {j o : Nat} (h : os[j]? = some o) : Gr.addAll f (os.take (j + 1)) = if o ∈ Gr.addAll f (os.take j) then Gr.addAll f (os.take j) else Gr.addAll f (os.take j) ++ [o] := by
  have hi := (List.getElem?_eq_some_iff.mp h).1
  have e : os[j] = o := by rw [List.getElem?_eq_getElem hi] at h; exact Option.some.inj h
  unfold Gr.addAll
  rw [List.take_succ_eq_append_getElem hi, List.foldl_append, e]
  rfl
theorem natsV_cln (es : List Nat) : clns (es.map natV) = true := clns_iff.mpr fun x hx => by
  obtain ⟨p, _, rfl⟩ := List.mem_map.mp hx
  simp [natV]
theorem natV_mem {p : Nat} {es : List Nat} : natV p ∈ es.map natV ↔ p ∈ es := by
  rw [List.mem_map]
  exact ⟨fun ⟨q, h, e⟩ => natV_inj.mp e ▸ h, fun h => ⟨p, h, rfl⟩⟩
theorem isIn_nats {S : Store} {l : Nat} {es : List Nat} {p : Nat} (hl : S[l]? = some (.lst (es.map natV))) : isIn S (natV p) (.ref l) = some (decide (p ∈ es)) := by
  rw [isIn_list hl (by simp [natV]) (by simp [natV]) (natsV_cln es)]
  congr 1
  exact decide_eq_decide.mpr natV_mem
def sortN (ns : List Nat) : List Nat := ns.mergeSort fun a b => decide (a ≤ b)
theorem fSorted_nats {S : Store} {l : Nat} {K : List Nat} {P : Val → Store → Prop} {E : XO} (hl : S[l]? = some (.lst (K.map natV))) (hz : K.length ≤ LIM) :
    wO (fSorted [.ref l] S) P E = P (.ref S.length) (S ++ [.lst ((sortN K).map natV)]) := by
  have e : K.map natV = (K.map Int.ofNat).map Val.int := by rw [List.map_map]; rfl
  rw [e] at hl
  rw [fSorted_ints hl (by simpa using hz)]
  have : (K.map Int.ofNat).mergeSort (fun a b => decide (a ≤ b)) = (sortN K).map Int.ofNat := by
    unfold sortN
    rw [List.map_mergeSort (r := fun a b => decide (a ≤ b)) (s := fun a b => decide (a ≤ b)) (f := Int.ofNat) fun a _ b _ => by simp]
  rw [this, List.map_map]
  rfl
theorem rng_get {n i : Nat} {x : Val} (h : (upL 0 n)[i]? = some x) : i < n ∧ x = natV i := by
  rw [upL0] at h
  obtain ⟨j, hj, rfl⟩ := map_get h
  obtain ⟨h1, h2⟩ := List.getElem?_eq_some_iff.mp hj
  simp at h1 h2
  exact ⟨h1, by rw [h2]⟩
theorem upL_len {n : Nat} : (upL 0 n).length = n := by simp [upL]
def prN (t : T3) : Nat × Nat := (t.1, t.2.1)
def esOf (xs : List Val) : Gr.Es := xs.map fun v => match v with
  | .tup (.int a :: .int b :: _) => (a.toNat, b.toNat)
  | _ => (0, 0)
theorem esOf_ties (ts : List T3) : esOf (ts.map tieV) = ts.map prN := by
  unfold esOf
  rw [List.map_map]
  exact List.map_congr_left fun t _ => by simp [tieV, prN]
def fitT (n : Int) (t : T3) : Prop := t.1 < t.2.1 ∧ (t.2.1 : Int) < n ∧ t.2.2 < 1000000
theorem ties_of {n : Int} : ∀ {xs : List Val}, (∀ x ∈ xs, tieB n x = true) → ∃ ts : List T3, xs = ts.map tieV ∧ ∀ t ∈ ts, fitT n t
  | [], _ => ⟨[], rfl, by simp⟩
  | x :: r, h => by
    obtain ⟨ts, rfl, h2⟩ := ties_of (xs := r) fun y hy => h y (by simp [hy])
    obtain ⟨a, b, w, rfl, ⟨h0, h1, h3⟩, h4, h5, h6⟩ := tieB_cut (h x (by simp))
    obtain ⟨a, rfl⟩ := Int.eq_ofNat_of_zero_le h0
    obtain ⟨b, rfl⟩ := Int.eq_ofNat_of_zero_le h1
    obtain ⟨w, rfl⟩ := Int.eq_ofNat_of_zero_le h3
    refine ⟨(a, b, w) :: ts, by simp [tieV], fun t ht => ?_⟩
    rcases List.mem_cons.mp ht with rfl | ht
    · exact ⟨by simpa using h4, by simpa using h5, by have h6' : (w : Int) < 1000000 := h6; show w < 1000000; omega⟩
    · exact h2 t ht
theorem firstBad_all {n : Int} {xs : List Val} (h : firstBad n xs = none) : ∀ k < xs.length, okAt n xs k = true := by
  unfold firstBad at h
  rw [List.find?_range_eq_none] at h
  exact fun k hk => by simpa using h k hk
theorem firstBad_ties {n : Int} {xs : List Val} (h : firstBad n xs = none) : ∃ ts : List T3, xs = ts.map tieV ∧ ∀ t ∈ ts, fitT n t := by
  refine ties_of (n := n) fun x hx => ?_
  obtain ⟨k, hk, rfl⟩ := List.mem_iff_getElem.mp hx
  have := firstBad_all h k hk
  unfold okAt at this
  rw [getD_of (List.getElem?_eq_getElem hk), Bool.and_eq_true] at this
  exact this.1
open Classical in
noncomputable def bad (m t : Val) : Val := match m with
  | .int n => if 1 ≤ n ∧ n ≤ 10 then (match t with
    | .tup xs => (match firstBad n xs with
      | some k => .int (k : Int)
      | none => if Gr.Joined n.toNat (esOf xs) then .non else .str "joined")
    | _ => .int (-1)) else .str "many"
  | _ => .str "many"
structure Good (S : Store) (m t : Val) : Prop where
  fm : Fit S m
  ft : Fit S t
  fx : ∀ xs, t = .tup xs → Items S xs
theorem Good.ex {S S' : Store} {m t : Val} (h : Good S m t) (a : Ex S S') : Good S' m t := ⟨h.fm.ex a, h.ft.ex a, fun xs e => (h.fx xs e).ex a⟩
theorem numB_int {m : Val} : numB m = true ↔ ∃ n : Nat, m = .int n := by
  cases m <;> simp [numB]
  rename_i i
  constructor
  · intro h; exact ⟨i.toNat, by omega⟩
  · rintro ⟨n, rfl⟩; omega
theorem prN_lt {n : Nat} {ts : List T3} (h : ∀ t ∈ ts, fitT (n : Int) t) : ∀ p ∈ ts.map prN, p.1 < n ∧ p.2 < n := fun p hp => by
  obtain ⟨t, ht, rfl⟩ := List.mem_map.mp hp
  obtain ⟨h1, h2, _⟩ := h t ht
  simp only [prN]
  omega
theorem bad_out {n : Nat} {t : Val} (h : ¬ (1 ≤ n ∧ n ≤ 10)) : bad (.int (n : Int)) t = .str "many" := by
  unfold bad; dsimp only; rw [if_neg (by omega)]
theorem bad_no {m t : Val} (h : numB m ≠ true) : bad m t = .str "many" := by
  unfold bad
  cases m <;> try rfl
  rename_i i
  simp [numB] at h
  dsimp only
  rw [if_neg (by omega)]
open Classical in
theorem bad_in {n : Nat} {t : Val} (h : 1 ≤ n ∧ n ≤ 10) : bad (.int (n : Int)) t = match t with
    | .tup xs => (match firstBad n xs with
      | some k => .int (k : Int)
      | none => if Gr.Joined n (esOf xs) then .non else .str "joined")
    | _ => .int (-1) := by
  unfold bad; dsimp only; rw [if_pos (by omega)]; rfl
def intB : Val → Bool
  | .int _ => true
  | _ => false
theorem is_integer_eq {S : Store} {v : Val} (h : Fit S v) : g_law_is_integer [v] S = .ok (.bl (intB v)) S := by
  refine eq_of_wO ?_
  obtain ⟨t, ht⟩ := h
  cases v with
  | ref n =>
    rcases ty_ref ht with rfl | rfl <;>
    simp [wO_fnB, g_law_is_integer, g_law_is_integer_s, ht, tyNames, subTy, intB]
  | frz xs => simp [tyOf] at ht
  | _ => simp [wO_fnB, g_law_is_integer, g_law_is_integer_s, tyOf, tyNames, subTy, intB]
def wiB (v : Val) (a b : Int) : Bool := match v with
  | .int i => decide (a ≤ i) && decide (i ≤ b)
  | _ => false
theorem is_within_eq {S : Store} {v : Val} {a b : Int} (h : Fit S v) : g_law_is_within [v, .int a, .int b] S = .ok (.bl (wiB v a b)) S := by
  refine eq_of_wO ?_
  simp -dsimp [wO_fnB, g_law_is_within, g_law_is_within_s, is_integer_eq h]
  cases v <;> simp [intB, wiB]
  rename_i i
  by_cases c : a ≤ i <;> simp [c]
theorem is_within_w {S : Store} {v : Val} {a b : Int} {P : Val → Store → Prop} {E : XO} (h : Fit S v) : wO (g_law_is_within [v, .int a, .int b] S) P E = P (.bl (wiB v a b)) S := by rw [is_within_eq h]; rfl
theorem sortN_len {ns : List Nat} : (sortN ns).length = ns.length := by unfold sortN; exact List.length_mergeSort _
/-- which way the parts of a tie turn out, one behind the other -/
theorem tieB_false {n : Int} {v : Val} (h : tieB n v = false) : (∀ xs, v ≠ .tup xs) ∨ (∃ xs, v = .tup xs ∧ xs.length ≠ 3) ∨ ∃ x y w, v = .tup [x, y, w] ∧ (wiB w 0 999999 = false ∨ wiB x 0 (n - 1) = false ∨ wiB y 0 (n - 1) = false ∨ ∃ a b : Int, x = .int a ∧ y = .int b ∧ b ≤ a) := by
  cases v with
  | tup xs =>
    refine .inr ?_
    by_cases h3 : xs.length = 3
    · refine .inr ?_
      match xs, h3 with
      | [x, y, w], _ =>
        refine ⟨x, y, w, rfl, ?_⟩
        cases w with
        | int w =>
          cases x with
          | int a =>
            cases y with
            | int b =>
              by_cases c : b ≤ a
              · exact .inr (.inr (.inr ⟨a, b, rfl, rfl, c⟩))
              · simp [tieB] at h
                simp [wiB]
                omega
            | _ => exact .inr (.inr (.inl rfl))
          | _ => exact .inr (.inl rfl)
        | _ => exact .inl rfl
    · exact .inl ⟨xs, rfl, h3⟩
  | _ => exact .inl fun xs e => by cases e
theorem tieB_true {n : Int} {x y w : Int} (h : tieB n (.tup [.int x, .int y, .int w]) = true) : wiB (.int w) 0 999999 = true ∧ wiB (.int x) 0 (n - 1) = true ∧ wiB (.int y) 0 (n - 1) = true ∧ ¬ y ≤ x := by
  simp [tieB] at h
  simp [wiB]
  omega
theorem prI_tie {a b w : Int} : prI (.tup [.int a, .int b, .int w]) = [a, b] := rfl
theorem near_of {n : Nat} {es : Gr.Es} (hb : ∀ p ∈ es, p.1 < n ∧ p.2 < n) (ho : ∀ p ∈ es, p.1 < p.2) : Gr.NearOf n es (nearL n es) := by
  refine ⟨by simp [nearL], fun a x ha => ?_⟩
  simp only [nearL, List.getD_eq_getElem?_getD]
  rw [List.getElem?_map, List.getElem?_range ha]
  simp only [Option.map_some, Option.getD_some, nearTo, List.mem_filter, List.mem_range, decide_eq_true_eq]
  refine and_congr_right fun hx => ?_
  by_cases c : a ≤ x
  · rw [Nat.min_eq_left c, Nat.max_eq_right c]
    refine ⟨.inl, fun h => h.elim id fun h => ?_⟩
    have := ho _ h
    simp at this
    omega
  · rw [Nat.min_eq_right (by omega), Nat.max_eq_left (by omega)]
    refine ⟨.inr, fun h => h.elim (fun h => ?_) id⟩
    have := ho _ h
    simp at this
    omega
def kvT (t : T3) : List Key × Val := ([.inl (t.1 : Int), .inl (t.2.1 : Int)], .int (t.2.2 : Int))
def rowT (t : T3) : List Int := [(t.1 : Int), (t.2.1 : Int)]
def rle (s t : T3) : Bool := decide (s.1 < t.1 ∨ (s.1 = t.1 ∧ s.2.1 ≤ t.2.1))
theorem row_le (s t : T3) : decide (rowT s ≤ rowT t) = rle s t := by
  unfold rle rowT
  refine decide_eq_decide.mpr ?_
  rw [← List.not_lt]
  simp only [List.cons_lt_cons_iff]
  simp
  omega
def sortT (L : List T3) : List T3 := L.mergeSort rle
theorem sortT_rows (L : List T3) : (L.map rowT).mergeSort (fun a b => decide (a ≤ b)) = (sortT L).map rowT := by
  unfold sortT
  exact (List.map_mergeSort (r := rle) (s := fun a b => decide (a ≤ b)) (f := rowT) fun a _ b _ => (row_le a b).symm).symm
theorem tm_list {kvs : List (List Key × Val)} {size : Nat} (h : Tm kvs size) : ∃ L : List T3, kvs = L.map kvT ∧ ∀ t ∈ L, t.1 < t.2.1 ∧ t.2.1 < size ∧ t.2.2 < 1000000 := by
  have el := h.el
  clear h
  induction kvs with
  | nil => exact ⟨[], rfl, by simp⟩
  | cons p r ih =>
    obtain ⟨L, rfl, h2⟩ := ih fun q hq => el q (by simp [hq])
    obtain ⟨a, b, w, rfl, h3, h4, h5⟩ := el p (by simp)
    exact ⟨(a, b, w) :: L, rfl, fun t ht => (List.mem_cons.mp ht).elim (fun e => by subst e; exact ⟨h3, h4, h5⟩) (h2 t)⟩
theorem keysL_T (L : List T3) : keysL (L.map kvT) = (L.map rowT).map tI := by
  unfold keysL
  rw [List.map_map, List.map_map]
  exact List.map_congr_left fun t _ => rfl
theorem rle_trans (a b c : T3) : rle a b = true → rle b c = true → rle a c = true := by
  simp only [rle, decide_eq_true_eq]; omega
theorem rle_total (a b : T3) : (rle a b || rle b a) = true := by
  simp only [rle, Bool.or_eq_true, decide_eq_true_eq]; omega
theorem sort_ok {L : List T3} {size : Nat} (nd : ((L.map kvT).map (·.1)).Nodup) (el : ∀ t ∈ L, t.1 < t.2.1 ∧ t.2.1 < size ∧ t.2.2 < 1000000)
    (cov : ∀ b : Nat, 1 ≤ b → b < size → ∃ a : Nat, a < b ∧ [Sum.inl (a : Int), Sum.inl (b : Int)] ∈ (L.map kvT).map (·.1)) : Ties size (sortT L) := by
  have pm : (sortT L).Perm L := List.mergeSort_perm _ _
  refine ⟨fun t ht => el t (pm.mem_iff.mp ht), ?_, fun b h1 h2 => ?_⟩
  · have h1 : (sortT L).Pairwise (fun s t => rle s t = true) := List.pairwise_mergeSort rle_trans rle_total L
    have h2 : (sortT L).Pairwise (fun s t => (kvT s).1 ≠ (kvT t).1) := by
      have : (((sortT L).map kvT).map (·.1)).Nodup := ((pm.map kvT).map (·.1)).nodup_iff.mpr nd
      rw [List.map_map] at this
      exact List.pairwise_map.mp this
    refine (h1.and h2).imp fun {s t} h => ?_
    obtain ⟨h3, h4⟩ := h
    simp only [rle, decide_eq_true_eq] at h3
    have : ¬ (s.1 = t.1 ∧ s.2.1 = t.2.1) := fun z => h4 (by simp [kvT, z.1, z.2])
    unfold pLt
    omega
  · obtain ⟨a, ha, hm⟩ := cov b h1 h2
    rw [List.map_map] at hm
    obtain ⟨t, ht, e⟩ := List.mem_map.mp hm
    simp only [Function.comp, kvT, List.cons.injEq, Sum.inl.injEq, and_true] at e
    refine ⟨a, t.2.2, ha, pm.mem_iff.mpr ?_⟩
    have e1 : t.1 = a := by omega
    have e2 : t.2.1 = b := by omega
    rw [← e1, ← e2]
    exact ht
theorem bad_cases (m t : Val) : bad m t = .non ∨ (∃ k, bad m t = .int k) ∨ ∃ s, bad m t = .str s := by
  unfold bad
  split
  · split
    · split
      · split
        · exact .inr (.inl ⟨_, rfl⟩)
        · split
          · exact .inl rfl
          · exact .inr (.inr ⟨_, rfl⟩)
      · exact .inr (.inl ⟨_, rfl⟩)
    · exact .inr (.inr ⟨_, rfl⟩)
  · exact .inr (.inr ⟨_, rfl⟩)
abbrev webO (m t : Val) : Ob := .ins "Web" [("many", m), ("ties", t)]
def houseB (n : Nat) (v : Val) : Bool := match v with
  | .int i => decide (0 ≤ i) && decide (i < n)
  | _ => false
def WebAt (S : Store) (w n : Nat) (ts : List T3) : Prop := S[w]? = some (webO (.int (n : Int)) (tiesV ts))
theorem WebAt.ex {S S' : Store} {w n : Nat} {ts : List T3} (h : WebAt S w n ts) (a : Ex S S') : WebAt S' w n ts := a.at h
theorem fld_many {S : Store} {w n : Nat} {ts : List T3} (h : WebAt S w n ts) : fldOf ["Web"] "many" (insOf S (.ref w)) = some (.int (n : Int)) := by
  rw [insOf_at h]; simp [fldOf]
theorem fld_ties {S : Store} {w n : Nat} {ts : List T3} (h : WebAt S w n ts) : fldOf ["Web"] "ties" (insOf S (.ref w)) = some (tiesV ts) := by
  have : (("ties" : Str) == "many") = false := by decide
  rw [insOf_at h]; simp [fldOf, List.lookup, this]
theorem house_of {n : Nat} {v : Val} (h : houseB n v = true) : ∃ i : Nat, v = natV i ∧ i < n := by
  cases v <;> simp [houseB] at h
  rename_i i
  obtain ⟨j, rfl⟩ := Int.eq_ofNat_of_zero_le h.1
  exact ⟨j, rfl, by omega⟩
def lesser (ts : List T3) (i : Nat) : List Nat := (ts.filter fun t => decide (t.2.1 = i)).map (·.1)
def greater (ts : List T3) (i : Nat) : List Nat := (ts.filter fun t => decide (t.1 = i)).map (·.2.1)
theorem ts_lim {size : Nat} {ts : List T3} (h : Ties size ts) (hz : size ≤ 10) : ts.length ≤ 100 := by
  have nd : (ts.map fun t => t.1 * 10 + t.2.1).Nodup := by
    refine List.pairwise_map.mpr (h.so.imp_of_mem fun {s t} hs ht hp => ?_)
    have := h.el s hs
    have := h.el t ht
    unfold pLt at hp
    omega
  have := Gr.nodup_bound (n := 100) nd fun x hx => by
    obtain ⟨t, ht, rfl⟩ := List.mem_map.mp hx
    have := h.el t ht
    omega
  simpa using this
theorem fitN {S : Store} {i : Nat} : Fit S (natV i) := ⟨_, rfl⟩
theorem asc_ext : ∀ l m : List Nat, l.Pairwise (· < ·) → m.Pairwise (· < ·) → (∀ x, x ∈ l ↔ x ∈ m) → l = m
  | [], [], _, _, _ => rfl
  | [], y :: m, _, _, h => by have := (h y).2 (by simp); simp at this
  | x :: l, [], _, _, h => by have := (h x).1 (by simp); simp at this
  | x :: l, y :: m, hl, hm, h => by
    rw [List.pairwise_cons] at hl hm
    have exy : x = y := by
      have h1 := (h x).1 (by simp)
      have h2 := (h y).2 (by simp)
      rcases List.mem_cons.mp h1 with e | h1
      · exact e
      · rcases List.mem_cons.mp h2 with e | h2
        · exact e.symm
        · have := hl.1 y h2
          have := hm.1 x h1
          omega
    subst exy
    have := asc_ext l m hl.2 hm.2 fun z => by
      constructor
      · intro hz
        rcases List.mem_cons.mp ((h z).1 (by simp [hz])) with e | hz'
        · subst e; exact absurd (hl.1 z hz) (Nat.lt_irrefl _)
        · exact hz'
      · intro hz
        rcases List.mem_cons.mp ((h z).2 (by simp [hz])) with e | hz'
        · subst e; exact absurd (hm.1 z hz) (Nat.lt_irrefl _)
        · exact hz'
    rw [this]
theorem sortN_asc {l : List Nat} (nd : l.Nodup) : (sortN l).Pairwise (· < ·) := by
  have pm : (sortN l).Perm l := List.mergeSort_perm _ _
  have h1 : (sortN l).Pairwise (fun a b => decide (a ≤ b) = true) := List.pairwise_mergeSort (fun a b c => by simp only [decide_eq_true_eq]; omega) (fun a b => by simp only [Bool.or_eq_true, decide_eq_true_eq]; omega) l
  have h2 : (sortN l).Nodup := pm.nodup_iff.mpr nd
  exact (h1.and h2).imp fun {a b} h => by
    have := h.1
    simp only [decide_eq_true_eq] at this
    have := h.2
    omega
theorem sortN_mem {l : List Nat} {x : Nat} : x ∈ sortN l ↔ x ∈ l := (List.mergeSort_perm _ _).mem_iff
theorem nearTo_asc {es : Gr.Es} {h j : Nat} : (nearTo es h j).Pairwise (· < ·) := List.Pairwise.filter _ List.pairwise_lt_range
theorem lesser_mem {ts : List T3} {i x : Nat} : x ∈ lesser ts i ↔ (x, i) ∈ ts.map prN := by
  unfold lesser
  simp only [List.mem_map, List.mem_filter, decide_eq_true_eq, prN]
  constructor
  · rintro ⟨t, ⟨h1, h2⟩, rfl⟩; exact ⟨t, h1, by rw [← h2]⟩
  · rintro ⟨t, h1, e⟩
    obtain ⟨rfl, rfl⟩ := Prod.mk.inj e
    exact ⟨t, ⟨h1, rfl⟩, rfl⟩
theorem greater_mem {ts : List T3} {i x : Nat} : x ∈ greater ts i ↔ (i, x) ∈ ts.map prN := by
  unfold greater
  simp only [List.mem_map, List.mem_filter, decide_eq_true_eq, prN]
  constructor
  · rintro ⟨t, ⟨h1, h2⟩, rfl⟩; exact ⟨t, h1, by rw [← h2]⟩
  · rintro ⟨t, h1, e⟩
    obtain ⟨rfl, rfl⟩ := Prod.mk.inj e
    exact ⟨t, ⟨h1, rfl⟩, rfl⟩
theorem lesser_asc {ts : List T3} {i : Nat} (so : ts.Pairwise pLt) : (lesser ts i).Pairwise (· < ·) := by
  unfold lesser
  refine List.pairwise_map.mpr ((so.filter _).imp_of_mem fun {s t} hs ht hp => ?_)
  simp only [List.mem_filter, decide_eq_true_eq] at hs ht
  unfold pLt at hp
  omega
theorem greater_asc {ts : List T3} {i : Nat} (so : ts.Pairwise pLt) : (greater ts i).Pairwise (· < ·) := by
  unfold greater
  refine List.pairwise_map.mpr ((so.filter _).imp_of_mem fun {s t} hs ht hp => ?_)
  simp only [List.mem_filter, decide_eq_true_eq] at hs ht
  unfold pLt at hp
  omega
theorem neigh_near {size : Nat} {ts : List T3} (h : Ties size ts) {i : Nat} (hi : i < size) : sortN (lesser ts i ++ greater ts i) = nearTo (ts.map prN) i size := by
  have ho : ∀ p ∈ ts.map prN, p.1 < p.2 := fun p hp => by
    obtain ⟨t, ht, rfl⟩ := List.mem_map.mp hp
    exact (h.el t ht).1
  have hb : ∀ p ∈ ts.map prN, p.2 < size := fun p hp => by
    obtain ⟨t, ht, rfl⟩ := List.mem_map.mp hp
    exact (h.el t ht).2.1
  refine asc_ext _ _ (sortN_asc ?_) nearTo_asc fun x => ?_
  · rw [List.nodup_append]
    refine ⟨(lesser_asc h.so).imp (fun h => by omega), (greater_asc h.so).imp (fun h => by omega), fun a ha b hb' => ?_⟩
    have := ho _ (lesser_mem.mp ha)
    have := ho _ (greater_mem.mp hb')
    simp at *
    omega
  · rw [sortN_mem, List.mem_append, lesser_mem, greater_mem]
    simp only [nearTo, List.mem_filter, List.mem_range, decide_eq_true_eq]
    constructor
    · rintro (hx | hx)
      · have := ho _ hx
        have := hb _ hx
        simp at *
        rw [Nat.min_eq_right (by omega), Nat.max_eq_left (by omega)]
        exact ⟨by omega, hx⟩
      · have := ho _ hx
        have := hb _ hx
        simp at *
        rw [Nat.min_eq_left (by omega), Nat.max_eq_right (by omega)]
        exact ⟨by omega, hx⟩
    · rintro ⟨h1, h2⟩
      by_cases c : i ≤ x
      · rw [Nat.min_eq_left c, Nat.max_eq_right c] at h2; exact .inr h2
      · rw [Nat.min_eq_right (by omega), Nat.max_eq_left (by omega)] at h2; exact .inl h2
/-! ### ranks -/
def row3 (t : T3) : List Int := [(t.2.2 : Int), (t.1 : Int), (t.2.1 : Int)]
def kvR (t : T3) : List Key × Val := ([.inl (t.1 : Int), .inl (t.2.1 : Int)], tI (row3 t))
theorem kvR_nodup {ts : List T3} (so : ts.Pairwise pLt) : ((ts.map kvR).map (·.1)).Nodup := by
  rw [List.map_map]
  refine List.pairwise_map.mpr (so.imp fun {s t} hp => ?_)
  unfold pLt at hp
  simp [kvR]
  omega
theorem isIn_dt {S : Store} {d : Nat} {kvs : List (List Key × Val)} {xs : List Val} {k : List Key} (hd : S[d]? = some (.dt kvs)) (hk : keysOf xs = some k) : isIn S (.tup xs) (.ref d) = some (lookK kvs k).isSome := by
  have : dLook S (.ref d) (.tup xs) = some (lookK kvs k) := by simp only [dLook, hd, tkeyOf, hk, Option.map_some]
  simp only [isIn, this]
def pairK (i j : Nat) : List Key := [.inl (min (i : Int) j), .inl (max (i : Int) j)]
def lkR (ts : List T3) (i j : Nat) : Option Val := lookK (ts.map kvR) (pairK i j)
theorem pairK_of {i j : Nat} : keysOf [Val.int (min (i : Int) j), Val.int (max (i : Int) j)] = some (pairK i j) := rfl
theorem eqv1_bl {S : Store} {a b : Bool} : eqv1 S (.bl a) (.bl b) = some (decide (a = b)) := by
  have h1 : SeqAt.shaped (.bool a) = true := rfl
  have h2 : SeqAt.shaped (.bool b) = true := rfl
  simp only [eqv1, toD1, toD, Option.bind_some, h1, h2, and_self, if_true, PyData.eqv]
  cases a <;> cases b <;> rfl
theorem wO_iZip2T {fa : En → Store → Out (List Val)} {env : En} {S : Store} {PI : Itm → Store → Prop} {E : XO} : wO (iZip2 fa env S) PI E = wO (fa env S) (fun xs S1 => wO (kZip xs S1) PI E) E := wO_bind
theorem same_ok : ∀ (d : Nat) (S : Store) (v : Val), cln v = true → dep v < d → d ≤ 64 → Pu (g_law_same d [v, v] S) S (.bl true)
  | 0, _, _, _, h, _ => absurd h (Nat.not_lt_zero _)
  | d + 1, S, v, hc, hd, h64 => by
    refine Pu.of ?_
    simp -dsimp only [g_law_same]
    have ee : eqv1 S v v = some true := by rw [eqv1_cln hc hc (by omega) (by omega)]; simp
    cases v with
    | non => simp [wO_fnB, g_law_same_s, isV]
    | int i => simp [wO_fnB, g_law_same_s, isV, tyOf, tyNames, subTy, is_integer_eq (fit_int _), intB]
    | str s =>
      simp [wO_fnB, g_law_same_s, isV, tyOf, tyNames, subTy, ee]
    | tup xs =>
      simp -dsimp [wO_fnB, g_law_same_s, isV, tyOf, tyNames, subTy, eqv1_bl, wR_sFor, wO_iZip2T, kZip]
      refine wR_forX (zipL xs xs) (fun i e S' => (∃ o2 o3, e = [some (.tup xs), some (.tup xs), o2, o3]) ∧ Ex S S') ?_ (fun i x e S' hx hI => ?_) fun e S' hI => ?_
      · exact ⟨⟨_, _, rfl⟩, Ex.refl⟩
      · obtain ⟨⟨o2, o3, rfl⟩, a⟩ := hI
        rw [zipL_get] at hx
        obtain ⟨y, hy, hx⟩ := Option.bind_eq_some_iff.mp hx
        obtain ⟨z, hz, rfl⟩ := Option.map_eq_some_iff.mp hx
        rw [hy] at hz
        cases hz
        refine ⟨trivial, _, rfl, ?_⟩
        have hyc : cln y = true := clns_iff.mp (by simpa using hc) y (List.mem_of_getElem? hy)
        have hyd : dep y ≤ deps xs := by
          have : ∀ (l : List Val), y ∈ l → dep y ≤ deps l := by
            intro l
            induction l with
            | nil => simp
            | cons z r ih =>
              intro h
              rcases List.mem_cons.mp h with rfl | h
              · simp; omega
              · simp; have := ih h; omega
          exact this xs (List.mem_of_getElem? hy)
        simp only [dep_tup] at hd
        simp -dsimp [g_law_same_b1]
        refine (same_ok d S' y hyc (by omega) (by omega)).wk fun S2 a2 => ?_
        simp -dsimp
        exact a.trans a2
      · obtain ⟨⟨o2, o3, rfl⟩, a⟩ := hI
        refine ⟨trivial, ?_⟩
        simp -dsimp
        exact isP_ex a
    | _ => simp [cln] at hc

def rle3 (s t : T3) : Bool := decide (row3 s ≤ row3 t)
def sortR (ts : List T3) : List T3 := ts.mergeSort rle3
theorem sortR_rows (L : List T3) : (L.map row3).mergeSort (fun a b => decide (a ≤ b)) = (sortR L).map row3 := by
  unfold sortR
  exact (List.map_mergeSort (r := rle3) (s := fun a b => decide (a ≤ b)) (f := row3) fun a _ b _ => rfl).symm
theorem cutL_from1 {x y z : Val} : cutL [x, y, z] (some 1) none = [y, z] := by
  have h1 : HT.sIx 3 0 (some 1) = 1 := by decide
  have h2 : HT.sIx 3 3 none = 3 := rfl
  show (([x, y, z].drop (HT.sIx 3 0 (some 1))).take (HT.sIx 3 3 none - HT.sIx 3 0 (some 1))) = [y, z]
  rw [h1, h2]; rfl
def ranksV (ts : List T3) : List Val := (sortR ts).map fun t => pairV (prN t)
theorem Fit.grow {S S' : Store} {h n n' : Nat} {v : Val} (f : Fit S v) (g : Grow h S S') (H' : Hand S' h n') : Fit S' v := by
  obtain ⟨t, ht⟩ := f
  cases v with
  | ref i =>
    by_cases c : i = h
    · subst c
      obtain ⟨m, cells, i', big, mix, cnt, e1, _⟩ := H'.ex
      exact ⟨"list", by simp only [tyOf, e1]⟩
    · refine ⟨t, ?_⟩
      simp only [tyOf] at ht ⊢
      cases e : S[i]? with
      | none => simp [e] at ht
      | some o => rw [g.at e c]; rw [e] at ht; exact ht
  | _ => exact ⟨t, ht⟩
theorem Itm3.grow {S S' : Store} {h n n' : Nat} {v : Val} (f : Itm3 S v) (g : Grow h S S') (H' : Hand S' h n') : Itm3 S' v :=
  ⟨⟨f.1.1.grow (n := n) g H', fun xs e x hx => (f.1.2 xs e x hx).grow (n := n) g H'⟩, f.2⟩
theorem Items.grow {S S' : Store} {h n n' : Nat} {xs : List Val} (f : Items S xs) (g : Grow h S S') (H' : Hand S' h n') : Items S' xs := ⟨f.1, fun x hx => (f.2 x hx).grow (n := n) g H'⟩
/-- what may stand for ties -/
def Tup3 (S : Store) (v : Val) : Prop := Itm3 S v ∧ ∀ xs, v = .tup xs → Items S xs
theorem Tup3.grow {S S' : Store} {h n n' : Nat} {v : Val} (f : Tup3 S v) (g : Grow h S S') (H' : Hand S' h n') : Tup3 S' v := ⟨f.1.grow (n := n) g H', fun xs e => (f.2 xs e).grow (n := n) g H'⟩
theorem itm_of {S : Store} {v : Val} (f : Fit S v) (h : ∀ xs, v ≠ .tup xs) : Itm3 S v := ⟨⟨f, fun xs e => absurd e (h xs)⟩, fun xs e => absurd e (h xs)⟩
theorem itm_tup {S : Store} {xs : List Val} (l : xs.length ≤ 1000) (h : ∀ x ∈ xs, Fit S x) : Itm3 S (.tup xs) := ⟨⟨fit_tup _, fun ys e x hx => by cases e; exact h x hx⟩, fun ys e => by cases e; exact l⟩
theorem t3_of {S : Store} {v : Val} (f : Fit S v) (h : ∀ xs, v ≠ .tup xs) : Tup3 S v := ⟨itm_of f h, fun xs e => absurd e (h xs)⟩
theorem t3_tup {S : Store} {xs : List Val} (l : xs.length ≤ 1000) (h : ∀ x ∈ xs, Itm3 S x) : Tup3 S (.tup xs) := ⟨itm_tup l fun x hx => (h x hx).1.1, fun ys e => by cases e; exact ⟨l, h⟩⟩
theorem fit_lst {S : Store} {i : Nat} {xs : List Val} (h : S[i]? = some (.lst xs)) : Fit S (.ref i) := ⟨"list", by simp only [tyOf, h]⟩
theorem fit_dk {S : Store} {i : Nat} {xs : List (Key × Val)} (h : S[i]? = some (.dk xs)) : Fit S (.ref i) := ⟨"dict", by simp only [tyOf, h]⟩
theorem Tup3.good {S : Store} {m v : Val} (f : Tup3 S v) (g : Fit S m) : Good S m v := ⟨g, f.1.1.1, f.2⟩
theorem tie_itm {S : Store} (t : T3) : Itm3 S (tieV t) := itm_tup (by simp) fun x hx => by
  simp at hx
  rcases hx with rfl | rfl | rfl <;> exact fit_int _
theorem ties_t3 {S : Store} {ts : List T3} (l : ts.length ≤ 1000) : Tup3 S (tiesV ts) := t3_tup (by simpa using l) fun x hx => by
  obtain ⟨t, _, rfl⟩ := List.mem_map.mp hx
  exact tie_itm t
theorem cut_mem {α : Type} {xs : List α} {lo hi : Option Int} {x : α} (h : x ∈ cutL xs lo hi) : x ∈ xs := List.mem_of_mem_drop (List.mem_of_mem_take h)
theorem cut_len {α : Type} {xs : List α} {lo hi : Option Int} : (cutL xs lo hi).length ≤ xs.length := by
  unfold cutL
  rw [List.length_take, List.length_drop]
  omega

def SpoiltR (h n : Nat) (S : Store) (v : Val) (S' : Store) : Prop := ∃ m t, v = .tup [m, t] ∧ Good S' m t ∧ Hand S' h n ∧ Grow h S S'
theorem good_tup {S : Store} {m : Val} {ys : List Val} (f : Fit S m) (l : ys.length ≤ 1000) (h : ∀ y ∈ ys, Itm3 S y) : Good S m (.tup ys) := (t3_tup l h).good f
theorem Hand.up {S S' : Store} {h n : Nat} (H : Hand S h n) (a : Ex S S') : Hand S' h n := by
  obtain ⟨T, rfl⟩ := a
  exact H.app T
theorem good_web {S : Store} {m t : Val} (h : Good S m t) (e : bad m t = .non) : ∃ (n : Nat) (ts : List T3), m = .int (n : Int) ∧ t = tiesV ts := by
  cases m with
  | int i =>
    by_cases c : 1 ≤ i ∧ i ≤ 10
    · obtain ⟨n, rfl⟩ := Int.eq_ofNat_of_zero_le (by omega : 0 ≤ i)
      rw [bad_in (by omega)] at e
      cases t with
      | tup xs =>
        simp only [] at e
        cases hb : firstBad (n : Int) xs with
        | some k => simp [hb] at e
        | none =>
          obtain ⟨ts, rfl, _⟩ := firstBad_ties hb
          exact ⟨n, ts, rfl, rfl⟩
      | _ => simp at e
    · unfold bad at e
      simp only [if_neg c] at e
      simp at e
  | _ => simp [bad] at e
theorem tie_cln (t : T3) : cln (tieV t) = true := by simp [tieV]
theorem ties_cln (ts : List T3) : cln (tiesV ts) = true := by
  simp only [tiesV, cln_tup]
  exact clns_iff.mpr fun x hx => by
    obtain ⟨t, _, rfl⟩ := List.mem_map.mp hx
    exact tie_cln t
theorem ties_dep (ts : List T3) : dep (tiesV ts) ≤ 2 := by
  simp only [tiesV, dep_tup]
  have : deps (ts.map tieV) ≤ 1 := deps_le fun x hx => by
    obtain ⟨t, _, rfl⟩ := List.mem_map.mp hx
    simp [tieV]
  omega
theorem cln_str {s : Str} (h : PyData.strOk s = true) : cln (.str s) = true := by simpa [cln] using h
open Classical in
noncomputable def madeV (m t : Val) : Val := if bad m t = .non then .tup [.str "told", m, t] else .tup [.str "BadWeb", bad m t]
theorem bad_cln (m t : Val) : cln (bad m t) = true ∧ dep (bad m t) = 0 := by
  unfold bad
  split
  · split
    · split
      · split
        · exact ⟨by simp, by simp⟩
        · split
          · exact ⟨by simp, by simp⟩
          · exact ⟨cln_str (by decide +kernel), by simp⟩
      · exact ⟨by simp, by simp⟩
    · exact ⟨cln_str (by decide +kernel), by simp⟩
  · exact ⟨cln_str (by decide +kernel), by simp⟩
theorem made_cln {S : Store} {m t : Val} (h : Good S m t) : cln (madeV m t) = true ∧ dep (madeV m t) ≤ 3 := by
  unfold madeV
  split
  · rename_i e
    obtain ⟨n, ts, rfl, rfl⟩ := good_web h e
    have := ties_dep ts
    exact ⟨by simp [ties_cln, cln_str (s := "told") (by decide +kernel)], by simp; omega⟩
  · obtain ⟨h1, h2⟩ := bad_cln m t
    exact ⟨by simp [h1, cln_str (s := "BadWeb") (by decide +kernel)], by simp [h2]⟩
def EnvA (script : Val) (h size w : Nat) (ts : List T3) (e : En) : Prop := ∃ o5 o6 o7 o8 o9 o10 o11 o12 o13, e = [some script, some (.ref h), some (.int (size : Int)), some (tiesV ts), some (.ref w), o5, o6, o7, o8, o9, o10, o11, o12, o13]
theorem WebAt.grow {S S' : Store} {h n w size : Nat} {ts : List T3} (W : WebAt S w size ts) (g : Grow h S S') (H : Hand S h n) : WebAt S' w size ts := by
  refine g.at W fun z => ?_
  subst z
  obtain ⟨_, _, _, _, _, _, e1, _⟩ := H.ex
  unfold WebAt at W
  rw [e1] at W; cases W
theorem NearAt.grow {S S' : Store} {h n nr : Nat} {near : List (List Nat)} (N : NearAt S nr near) (g : Grow h S S') (H : Hand S h n) : NearAt S' nr near := by
  obtain ⟨rs, h1, h2, h3⟩ := N
  obtain ⟨m, cells, i, big, mix, cnt, e1, _⟩ := H.ex
  refine ⟨rs, g.at h1 fun z => ?_, h2, fun i r e => g.at (h3 i r e) fun z => ?_⟩
  · subst z
    rw [e1] at h1
    simp at h1
    match rs, h1 with
    | [], h1 => simp at h1
    | [a], h1 => simp at h1
    | a :: b :: r, h1 => simp at h1
  · subst z
    have := h3 i r e
    rw [e1] at this
    simp only [obN, Option.some.injEq, Ob.lst.injEq] at this
    match near.getD i [], this with
    | [], h1 => simp at h1
    | a :: r, h1 => simp [natV] at h1
theorem dt_grow {S S' : Store} {h n d : Nat} {kvs : List (List Key × Val)} (q : S[d]? = some (.dt kvs)) (g : Grow h S S') (H : Hand S h n) : S'[d]? = some (.dt kvs) := by
  refine g.at q fun z => ?_
  subst z
  obtain ⟨_, _, _, _, _, _, e1, _⟩ := H.ex
  rw [e1] at q; cases q
theorem wi_house {size : Nat} {v : Val} : wiB v 0 ((size : Int) - 1) = houseB size v := by
  cases v <;> simp [wiB, houseB]
  rename_i i
  have : (i ≤ (size : Int) - 1) = (i < size) := by simp; omega
  simp [this]
def EnvB (script : Val) (h size w nr rd : Nat) (ts : List T3) (e : En) : Prop := ∃ o5 o6 o7 o8 o11 o12 o13, e = [some script, some (.ref h), some (.int (size : Int)), some (tiesV ts), some (.ref w), o5, o6, o7, o8, some (.ref nr), some (.ref rd), o11, o12, o13]
theorem near_row {n i : Nat} {es : Gr.Es} (h : i < n) : (nearL n es).getD i [] = nearTo es i n := by
  simp [nearL, List.getD_eq_getElem?_getD, h]
structure B2 (script : Val) (h size w nr rd n : Nat) (ts : List T3) (e : En) (S : Store) : Prop where
  en : EnvB script h size w nr rd ts e
  ha : Hand S h n
  we : WebAt S w size ts
  ne : NearAt S nr (nearL size (ts.map prN))
  ra : S[rd]? = some (.dt (ts.map kvR))
theorem lkR_cln {ts : List T3} {i j : Nat} {r : Val} (h : lkR ts i j = some r) : cln r = true ∧ dep r ≤ 1 := by
  unfold lkR lookK at h
  obtain ⟨p, hp, rfl⟩ := Option.map_eq_some_iff.mp h
  have := List.mem_of_find?_eq_some hp
  obtain ⟨t, _, rfl⟩ := List.mem_map.mp this
  simp [kvR, tI, row3]
theorem fit_house {S : Store} {v : Val} (h : Itm3 S v) : Fit S v := h.1.1
theorem leL2 (a b c d : Int) : leL [a, b] [c, d] = decide (a < c ∨ (a = c ∧ b ≤ d)) := by
  unfold leL
  simp [_root_.Ob.lexAt]
  by_cases h : a = c
  · subst h
    by_cases k : b = d
    · subst k; simp
    · simp [k]
  · simp [h]; omega
theorem leL20 (a b : Int) : leL [a, b] [] = false := by
  unfold leL
  simp [_root_.Ob.lexAt]
theorem ties_tie {size : Nat} {t : T3} (h : t.1 < t.2.1 ∧ t.2.1 < size ∧ t.2.2 < 1000000) : tieB size (tieV t) = true := by
  simp [tieV, tieB]
  omega
theorem ties_first {size : Nat} {ts : List T3} (T : Ties size ts) : firstBad size (ts.map tieV) = none := by
  refine firstBad_none fun j hj => ?_
  rw [List.length_map] at hj
  have g : ∀ k, (hk : k < ts.length) → (ts.map tieV).getD k .non = tieV ts[k] := fun k hk => by simp [List.getD_eq_getElem?_getD, hk]
  have hb := T.el ts[j] (List.getElem_mem hj)
  unfold okAt
  rw [g j hj, ties_tie hb, Bool.true_and]
  unfold aheadOf
  have pj : prI (tieV ts[j]) = [(ts[j].1 : Int), (ts[j].2.1 : Int)] := rfl
  rw [pj]
  by_cases j0 : j = 0
  · rw [if_pos j0, leL20]; rfl
  · rw [if_neg j0, g (j - 1) (by omega)]
    have pp : prI (tieV ts[j - 1]) = [(ts[j - 1].1 : Int), (ts[j - 1].2.1 : Int)] := rfl
    rw [pp, leL2]
    have := List.pairwise_iff_getElem.mp T.so (j - 1) j (by omega) hj (by omega)
    unfold pLt at this
    simp
    omega
theorem ties_joined {size : Nat} {ts : List T3} (T : Ties size ts) : Gr.Joined size (ts.map prN) := by
  intro x
  induction x using Nat.strongRecOn with
  | ind x ih =>
    intro hx
    by_cases h0 : x = 0
    · subst h0; exact .refl 0
    · obtain ⟨a, w, ha, hm⟩ := T.cov x (by omega) hx
      exact .step (ih a ha (by omega)) (.inl (List.mem_map.mpr ⟨_, hm, rfl⟩))
open Classical in
theorem ties_bad {size : Nat} {ts : List T3} (h1 : 1 ≤ size) (hz : size ≤ 10) (T : Ties size ts) : bad (.int (size : Int)) (tiesV ts) = .non := by
  rw [bad_in ⟨h1, hz⟩]
  simp only [tiesV, ties_first T, esOf_ties, if_pos (ties_joined T)]
/-! ### rows of pairs -/
def rowP (p : Nat × Nat) : List Int := [(p.1 : Int), (p.2 : Int)]
theorem pairV_row (p : Nat × Nat) : pairV p = tI (rowP p) := rfl
def rleP (s t : Nat × Nat) : Bool := decide (rowP s ≤ rowP t)
def sortP (ps : Gr.Es) : Gr.Es := ps.mergeSort rleP
theorem sortP_rows (L : Gr.Es) : (L.map rowP).mergeSort (fun a b => decide (a ≤ b)) = (sortP L).map rowP := by
  unfold sortP
  exact (List.map_mergeSort (r := rleP) (s := fun a b => decide (a ≤ b)) (f := rowP) fun a _ b _ => rfl).symm
theorem sortP_mem {L : Gr.Es} {p : Nat × Nat} : p ∈ sortP L ↔ p ∈ L := (List.mergeSort_perm _ _).mem_iff
theorem sortP_len {L : Gr.Es} : (sortP L).length = L.length := List.length_mergeSort _
theorem fSorted_pairs {S : Store} {l : Nat} {K : Gr.Es} {P : Val → Store → Prop} {E : XO} (hl : S[l]? = some (.lst (K.map pairV))) (hz : K.length ≤ LIM) : wO (fSorted [.ref l] S) P E = P (.ref S.length) (S ++ [.lst ((sortP K).map pairV)]) := by
  have e : K.map pairV = (K.map rowP).map tI := by rw [List.map_map]; rfl
  rw [e] at hl
  rw [fSorted_rows hl (fun k hk => by
    obtain ⟨t, _, rfl⟩ := List.mem_map.mp hk
    simp [rowP]) (by simpa using hz), sortP_rows, List.map_map]
  rfl
/-! ### which hang together -/
def Fine (n : Nat) (es : Gr.Es) : Prop := ∀ p ∈ es, p.1 < p.2 ∧ p.2 < n
theorem Fine.lt {n : Nat} {es : Gr.Es} (h : Fine n es) : ∀ p ∈ es, p.1 < n ∧ p.2 < n := fun p hp => by have := h p hp; omega
theorem Fine.ties {n : Nat} {ts : List T3} (T : Ties n ts) : Fine n (ts.map prN) := fun p hp => by
  obtain ⟨t, ht, rfl⟩ := List.mem_map.mp hp
  exact ⟨(T.el t ht).1, (T.el t ht).2.1⟩
theorem Fine.near {n : Nat} {es : Gr.Es} (h : Fine n es) : Gr.NearOf n es (nearL n es) := near_of h.lt fun p hp => (h p hp).1
open Classical in
/-- b in _law_lot_of(_law_near(n, es), a) -/
theorem lot_con {S S' : Store} {n a b r : Nat} {es : Gr.Es} (h : Fine n es) (ha : a < n) (q : S'[r]? = some (.lst ((sortN (Gr.lotOf (nearL n es) a)).map natV))) : isIn S' (natV b) (.ref r) = some (decide (Gr.Con es a b)) := by
  rw [isIn_nats q]
  congr 1
  refine decide_eq_decide.mpr ?_
  rw [sortN_mem]
  exact (Gr.lot_mem h.near h.lt ha).2.1 b
open Classical in
noncomputable def kstep (f : Gr.Es) (p : Nat × Nat) : Gr.Es := if Gr.Con f p.1 p.2 then f else f ++ [p]
noncomputable def kto (ps : Gr.Es) (i : Nat) : Gr.Es := (ps.take i).foldl kstep []
theorem kto_succ {ps : Gr.Es} {i : Nat} {p : Nat × Nat} (h : ps[i]? = some p) : kto ps (i + 1) = kstep (kto ps i) p := by
  unfold kto
  have hi := (List.getElem?_eq_some_iff.mp h).1
  have e : ps[i] = p := by rw [List.getElem?_eq_getElem hi] at h; exact Option.some.inj h
  rw [List.take_succ_eq_append_getElem hi, List.foldl_append, e]
  rfl
theorem kfold_sub (ps : Gr.Es) : ∀ f : Gr.Es, ∀ p ∈ ps.foldl kstep f, p ∈ f ∨ p ∈ ps := by
  induction ps with
  | nil => intro f p hp; exact .inl hp
  | cons q r ih =>
    intro f p hp
    rcases ih _ p hp with h | h
    · unfold kstep at h
      split at h
      · exact .inl h
      · rcases List.mem_append.mp h with h | h
        · exact .inl h
        · exact .inr (by simp at h; simp [h])
    · exact .inr (by simp [h])
theorem kto_sub {ps : Gr.Es} {i : Nat} : ∀ p ∈ kto ps i, p ∈ ps := fun p hp => (kfold_sub _ [] p hp).elim (fun h => by simp at h) fun h => List.mem_of_mem_take h
theorem kfold_len (ps : Gr.Es) : ∀ f : Gr.Es, (ps.foldl kstep f).length ≤ f.length + ps.length := by
  induction ps with
  | nil => intro f; simp
  | cons q r ih =>
    intro f
    refine Nat.le_trans (ih _) ?_
    unfold kstep
    split <;> simp <;> omega
theorem kto_len {ps : Gr.Es} {i : Nat} : (kto ps i).length ≤ ps.length := by
  have := kfold_len (ps.take i) []
  have h2 : (ps.take i).length ≤ ps.length := by rw [List.length_take]; omega
  unfold kto
  simp at this
  omega
theorem kto_all {ps : Gr.Es} : kto ps ps.length = ps.foldl kstep [] := by unfold kto; rw [List.take_length]
def byR (ts : List T3) : Gr.Es := (sortR ts).map prN
theorem ranksV_byR (ts : List T3) : ranksV ts = (byR ts).map pairV := by unfold ranksV byR; rw [List.map_map]; rfl
theorem byR_mem {ts : List T3} {p : Nat × Nat} : p ∈ byR ts ↔ p ∈ ts.map prN := by
  unfold byR
  have := ((List.mergeSort_perm ts rle3).map prN).mem_iff (a := p)
  exact this
theorem byR_len {ts : List T3} : (byR ts).length = ts.length := by unfold byR sortR; rw [List.length_map]; exact List.length_mergeSort _
noncomputable def leastL (ts : List T3) : Gr.Es := sortP ((byR ts).foldl kstep [])
theorem Ex.setAt {S S' : Store} {d : Nat} {o : Ob} (a : Ex S S') (hd : S.length ≤ d) : Ex S (S'.set d o) := by
  obtain ⟨T, rfl⟩ := a
  rw [List.set_append_right _ _ hd]
  exact ⟨_, rfl⟩
theorem wO_popAt {n k : Nat} {xs : List Val} {y : Val} {S : Store} {P : Val → Store → Prop} {E : XO} (hk : xs[k]? = some y) (hl : xs.length ≤ LIM) : wO (lPopAt n xs [.int (k : Int)] S) P E = P y (S.set n (.lst (xs.eraseIdx k))) := by
  have h := (List.getElem?_eq_some_iff.mp hk).1
  have LL : LIM = 100000 := rfl
  have e : seqIndex? (k : Int) xs.length = some k := by
    unfold seqIndex?
    simp
    omega
  have c : -(2 ^ 63) ≤ (k : Int) ∧ (k : Int) < 2 ^ 63 := by omega
  simp only [lPopAt, if_pos c, e, hk]
  rfl
theorem perm_erase {α : Type} : ∀ (l : List α) (r : Nat) (h : r < l.length), (l[r] :: l.eraseIdx r).Perm l
  | a :: l, 0, _ => by simp
  | a :: l, r + 1, h => by
    simp only [List.getElem_cons_succ, List.eraseIdx_cons_succ]
    exact (List.Perm.swap _ _ _).trans ((perm_erase l r (by simpa using h)).cons a)
theorem erase_map {α β : Type} (f : α → β) : ∀ (l : List α) (r : Nat), (l.map f).eraseIdx r = (l.eraseIdx r).map f
  | [], r => by simp
  | a :: l, 0 => by simp
  | a :: l, r + 1 => by simp [erase_map f l r]
open Classical in
def TreeR (ts : List T3) (ps : Gr.Es) : Prop := ∃ qs : Gr.Es, qs.Perm (ts.map prN) ∧ ps = sortP (qs.foldl kstep [])
theorem least_treeR (ts : List T3) : TreeR ts (leastL ts) := ⟨byR ts, (List.mergeSort_perm ts rle3).map prN, rfl⟩
theorem TreeR.sub {ts : List T3} {ps : Gr.Es} (h : TreeR ts ps) : (∀ p ∈ ps, p ∈ ts.map prN) ∧ ps.length ≤ ts.length := by
  obtain ⟨qs, pm, rfl⟩ := h
  refine ⟨fun p hp => ?_, ?_⟩
  · rw [sortP_mem] at hp
    exact (kfold_sub qs [] p hp).elim (fun h => by simp at h) fun h => pm.mem_iff.mp h
  · rw [sortP_len]
    have := kfold_len qs []
    have := pm.length_eq
    simp at *
    omega
def ltP (p q : Nat × Nat) : Prop := p.1 < q.1 ∨ (p.1 = q.1 ∧ p.2 < q.2)
instance (p q : Nat × Nat) : Decidable (ltP p q) := by unfold ltP; infer_instance
/-- ascending, one behind the other -/
def AscP (ps : Gr.Es) : Prop := ∀ q ∈ ps.zip ps.tail, ltP q.1 q.2
instance (ps : Gr.Es) : Decidable (AscP ps) := by unfold AscP; infer_instance
structure TreeP (n : Nat) (es ps : Gr.Es) : Prop where
  len : ps.length + 1 = n
  sub : ∀ p ∈ ps, p ∈ es
  asc : AscP ps
  joi : Gr.Joined n ps
def isTree (n : Nat) (es : Gr.Es) (thing : Val) : Prop := ∃ ps, thing = .tup (ps.map pairV) ∧ TreeP n es ps
theorem lexLt2 (p q : Nat × Nat) : HT.lexLt (rowP p) (rowP q) = decide (ltP p q) := by
  have h : HT.lexLt (rowP p) (rowP q) = decide ((p.1 : Int) < q.1 ∨ ((p.1 : Int) = q.1 ∧ (p.2 : Int) < q.2)) := by
    unfold rowP
    simp only [HT.lexLt]
    by_cases c1 : (p.1 : Int) = q.1
    · by_cases c2 : (p.2 : Int) = q.2
      · simp [c1, c2]
      · simp [c1, c2]
    · simp [c1]
  rw [h]
  exact decide_eq_decide.mpr (by unfold ltP; omega)
theorem pairs_inj {ps qs : Gr.Es} (h : ps.map pairV = qs.map pairV) : ps = qs := by
  induction ps generalizing qs with
  | nil => cases qs with
    | nil => rfl
    | cons q r => simp at h
  | cons p r ih =>
    cases qs with
    | nil => simp at h
    | cons q r' =>
      simp only [List.map_cons, List.cons.injEq] at h
      rw [pairV_inj.mp h.1, ih h.2]
theorem all_pairs {es : Gr.Es} : ∀ {xs : List Val}, (∀ x ∈ xs, ∃ p ∈ es, x = pairV p) → ∃ ps : Gr.Es, xs = ps.map pairV ∧ ∀ p ∈ ps, p ∈ es
  | [], _ => ⟨[], rfl, by simp⟩
  | x :: r, h => by
    obtain ⟨ps, rfl, h2⟩ := all_pairs (xs := r) fun y hy => h y (by simp [hy])
    obtain ⟨p, hp, rfl⟩ := h x (by simp)
    exact ⟨p :: ps, rfl, fun q hq => (List.mem_cons.mp hq).elim (fun e => e ▸ hp) (h2 q)⟩
theorem num_keys : ∀ {ys : List Val}, ys.all numB = true → ∃ ns : List Nat, ys = ns.map natV
  | [], _ => ⟨[], rfl⟩
  | y :: r, h => by
    simp only [List.all_cons, Bool.and_eq_true] at h
    obtain ⟨n, rfl⟩ := numB_int.mp h.1
    obtain ⟨ns, rfl⟩ := num_keys h.2
    exact ⟨n :: ns, rfl⟩
theorem keysOf_nats (ns : List Nat) : keysOf (ns.map natV) = some (ns.map fun (n : Nat) => (Sum.inl (n : Int) : Key)) := by
  induction ns with
  | nil => rfl
  | cons n r ih =>
    show (keyOf (natV n)).bind (fun k => (keysOf (r.map natV)).map fun ks => k :: ks) = _
    rw [ih]; rfl
theorem lookK_isSome {κ : Type} [DecidableEq κ] {kvs : List (κ × Val)} {k : κ} : (lookK kvs k).isSome = true ↔ k ∈ kvs.map (·.1) := by
  unfold lookK
  rw [Option.isSome_map, List.find?_isSome]
  simp
theorem cut_take {α : Type} (xs : List α) (k : Nat) : cutL xs none (some (k : Int)) = xs.take k := by
  unfold cutL
  rw [HT.sIx_nat]
  show ((xs.drop 0).take (min k xs.length - 0)) = xs.take k
  rw [List.drop_zero, Nat.sub_zero]
  by_cases h : k ≤ xs.length
  · rw [Nat.min_eq_left h]
  · rw [Nat.min_eq_right (by omega), List.take_length, List.take_of_length_le (by omega)]
theorem cut_drop {α : Type} (xs : List α) (k : Nat) : cutL xs (some (k : Int)) none = xs.drop k := by
  unfold cutL
  rw [HT.sIx_nat]
  show ((xs.drop (min k xs.length)).take (xs.length - min k xs.length)) = xs.drop k
  by_cases h : k ≤ xs.length
  · rw [Nat.min_eq_left h, List.take_of_length_le (by simp)]
  · rw [Nat.min_eq_right (by omega), List.drop_of_length_le (by omega), List.drop_of_length_le (by omega)]
    simp
theorem cut_tail {α : Type} (xs : List α) : cutL xs (some 1) none = xs.tail := by
  have := cut_drop xs 1
  rw [List.drop_one] at this
  exact this
theorem zipL_map {α : Type} (f : α → Val) (xs ys : List α) : zipL (xs.map f) (ys.map f) = (xs.zip ys).map fun q => .tup [f q.1, f q.2] := by
  induction xs generalizing ys with
  | nil => rfl
  | cons x r ih =>
    cases ys with
    | nil => rfl
    | cons y r' => simp [zipL, ih]
theorem fAll_map {α : Type} {S : Store} {l : Nat} {xs : List α} {p : α → Bool} {P : Val → Store → Prop} {E : XO} (h : S[l]? = some (.lst (xs.map fun x => .bl (p x)))) : wO (fAll [.ref l] S) P E = P (.bl (xs.all p)) S := by
  show wO (fOne flagsOf (fun ks => .bl (ks.all id)) [.ref l] S) P E = _
  rw [wO_fOne]
  have : getL S (.ref l) = some (xs.map fun x => .bl (p x)) := by simp only [getL, h]
  rw [this]
  simp [flagsOf_map]
end K30

set_option Elab.async false
set_option linter.all false
set_option maxRecDepth 100000
set_option maxHeartbeats 2000000
namespace K30
open PySem PySem.Spec PyProof.Rows L2 Mp
/-! ### an outgoing end -/
abbrev outO (g t : Nat) : Ob := .ins "Outgoing" [("many_known", .int (g : Int)), ("things", .ref t)]
structure OutAt (S : Store) (o g t : Nat) (xs : List Val) : Prop where
  ob : S[o]? = some (outO g t)
  li : S[t]? = some (.lst xs)
  sm : xs.length ≤ 50000
theorem OutAt.ex {S S' : Store} {o g t : Nat} {xs : List Val} (h : OutAt S o g t xs) (a : Ex S S') : OutAt S' o g t xs := ⟨a.at h.ob, a.at h.li, h.sm⟩
theorem wO_slL {S : Store} {n : Nat} {xs : List Val} {lo hi : Option Int} {P : Val → Store → Prop} {E : XO} (h : S[n]? = some (.lst xs)) : wO (vSl (.ref n) lo hi S) P E = P (.ref S.length) (S ++ [.lst (cutL xs lo hi)]) := by
  have e : getL S (.ref n) = some xs := by rw [getL_ref, h]
  simp only [vSl, e]
  rfl
section
variable {S S' : Store} {o t g k : Nat} {xs : List Val} {v : Val} {P : Val → Store → Prop} {E : XO}
theorem out_known (h : S[o]? = some (outO g t)) : fldOf ["Outgoing"] "many_known" (insOf S (.ref o)) = some (.int (g : Int)) := by
  rw [insOf_at h]; rfl
theorem out_things (h : S[o]? = some (outO g t)) : fldOf ["Outgoing"] "things" (insOf S (.ref o)) = some (.ref t) := by
  rw [insOf_at h]; rfl
theorem out_pick (h : S[o]? = some (outO g t)) {n : Str} {f : Fn} (hn : ([("many_known", .int (g : Int)), ("things", .ref t)] : List (Str × Val)).lookup n = none) : pickM [("Outgoing", f)] n S (.ref o) = some f := pickM_at h hn rfl
theorem out_make : wO (fMake "Outgoing" g_Outgoing_init [] S) P E = P (.ref S.length) (S ++ [outO 0 (S.length + 1), .lst []]) := by
  have h1 : (S ++ [Ob.ins "Outgoing" []])[S.length]? = some (.ins "Outgoing" []) := at_new
  have h2 : (S ++ [Ob.ins "Outgoing" []]).set S.length (.ins "Outgoing" [("many_known", .int 0)]) = S ++ [Ob.ins "Outgoing" [("many_known", .int 0)]] := by
    rw [List.set_append_right _ _ (Nat.le_refl _)]; simp
  have h3 : (S ++ [Ob.ins "Outgoing" [("many_known", .int 0)], .lst []])[S.length]? = some (.ins "Outgoing" [("many_known", .int 0)]) := at_new
  have h4 : (S ++ [Ob.ins "Outgoing" [("many_known", .int 0)], .lst []]).set S.length (outO 0 (S.length + 1)) = S ++ [outO 0 (S.length + 1), .lst []] := by
    rw [List.set_append_right _ _ (Nat.le_refl _)]; simp
  rw [wO_fMake]
  simp -dsimp [wO_fnB, g_Outgoing_init, g_Outgoing_init_s, wR_sFldS]
  rw [wR_kFld h1 (by simp) (by simp)]
  simp -dsimp [wR_sFldS, putS, h2, LIM]
  rw [wR_kFld h3 (by simp) (by simp)]
  have n1 : ¬ (("many_known" : Str) = "things") := by decide
  simp -dsimp [putS, n1]
  exact Iff.rfl
theorem many_put_w (h : OutAt S o g t xs) : wO (g_Outgoing_many_put [.ref o] S) P E = P (.int ((g + xs.length : Nat) : Int)) S := by
  simp -dsimp [wO_fnB, g_Outgoing_many_put, g_Outgoing_many_put_s, out_known h.ob, out_things h.ob, h.li]
theorem put_w (h : OutAt S o g t xs) (hl : xs.length < 50000) : wO (g_Outgoing_put [.ref o, v] S) P E = P (.int ((g + xs.length : Nat) : Int)) (S.set t (.lst (xs ++ [v]))) := by
  have hlt := lt_at h.li
  have ne : t ≠ o := fun z => by have := h.li; rw [z, h.ob] at this; cases this
  have h2 : OutAt (S.set t (.lst (xs ++ [v]))) o g t (xs ++ [v]) := ⟨by rw [List.getElem?_set_ne ne]; exact h.ob, at_set hlt, by simp; omega⟩
  have LL : LIM = 100000 := rfl
  have l0 : xs.length < LIM := by omega
  simp -dsimp [wO_fnB, g_Outgoing_put, g_Outgoing_put_s, out_things h.ob, h.li, l0, wO_eMeth, out_pick h2.ob (n := "many_put") rfl, many_put_w h2]
  have e : (g : Int) + ((xs.length : Int) + 1) - 1 = (g : Int) + xs.length := by omega
  rw [e]
theorem known_w (h : OutAt S o g t xs) (hk : k ≤ g + xs.length) : wO (g_Outgoing_known [.ref o, natV k] S) (fun v S' => v = natV (k - g) ∧ OutAt S' o (max g k) S.length (xs.drop (k - g)) ∧ KeepL [o] S S') noX := by
  have LL : LIM = 100000 := rfl
  have hlo := lt_at h.ob
  have f : Fit S (natV k) := ⟨_, rfl⟩
  have nb : numB (natV k) = true := by simp [numB, natV]
  have c1 : ¬ ((k : Int) > ((g + xs.length : Nat) : Int)) := by omega
  have sm := h.sm
  have ob2 : (S ++ [Ob.lst (xs.drop (k - g))])[o]? = some (outO g t) := at_app h.ob _
  have e1 : max (0 : Int) ((k : Int) - g) = ((k - g : Nat) : Int) := by omega
  have mp := many_put_w (P := fun v S1 => wP (asI v) fun j => True) (E := noX) h
  simp -dsimp [wO_fnB, g_Outgoing_known, g_Outgoing_known_s, is_number_w f, nb, wO_eMeth, out_pick h.ob (n := "many_put") rfl, many_put_w h]
  simp -dsimp [natV, c1, out_known h.ob, out_things h.ob, e1, wO_slL h.li, cut_drop, wR_sFldS]
  refine ⟨by omega, ?_⟩
  rw [wR_kFld ob2 (by simp) (by simp)]
  have n1 : ¬ (("many_known" : Str) = "things") := by decide
  have hlo2 : o < (S ++ [Ob.lst (xs.drop (k - g))]).length := by simp; omega
  have ob3 : ((S ++ [Ob.lst (xs.drop (k - g))]).set o (outO g S.length))[o]? = some (outO g S.length) := at_set hlo2
  have li3 : ((S ++ [Ob.lst (xs.drop (k - g))]).set o (outO g S.length))[S.length]? = some (.lst (xs.drop (k - g))) := by
    rw [List.getElem?_set_ne (by omega)]; exact at_new
  have kp3 : KeepL [o] S ((S ++ [Ob.lst (xs.drop (k - g))]).set o (outO g S.length)) := (KeepL.ex Ex.app).setAt (.inl (by simp))
  have hlo3 : o < ((S ++ [Ob.lst (xs.drop (k - g))]).set o (outO g S.length)).length := by simp; omega
  have hls3 : S.length ≠ o := by omega
  simp -dsimp [putS, n1]
  generalize (S ++ [Ob.lst (xs.drop (k - g))]).set o (outO g S.length) = S3 at *
  have i3 : incOf ["Outgoing"] "many_known" S3 (.ref o) = some (("Outgoing" : Str), (g : Int)) := by
    unfold incOf; rw [insOf_at ob3]; rfl
  simp -dsimp [i3]
  rw [wR_kInc2 ob3 (by simp)]
  simp -dsimp [putS]
  have e2 : (g : Int) + ((k - g : Nat) : Int) = ((max g k : Nat) : Int) := by omega
  rw [e2]
  exact ⟨rfl, ⟨at_set hlo3, by rw [List.getElem?_set_ne (Ne.symm hls3)]; exact li3, by simp; omega⟩, kp3.setAt (.inl (by simp))⟩
/-- what waits at an outgoing end -/
def waitL (g : Nat) (xs : List Val) : List Val := xs.mapIdx fun i x => .tup [.int ((g + i : Nat) : Int), x]
def shiftV (g : Nat) : Val → Val
  | .tup [.int i, x] => .tup [.int (g + i), x]
  | v => v
theorem shift_enum (g : Nat) (xs : List Val) : (enumL xs).map (shiftV g) = waitL g xs := by
  unfold enumL waitL
  refine List.ext_getElem? fun i => ?_
  rw [List.getElem?_map, List.getElem?_mapIdx, List.getElem?_mapIdx]
  cases xs[i]? with
  | none => rfl
  | some x => simp [shiftV]
theorem waitL_len {g : Nat} {xs : List Val} : (waitL g xs).length = xs.length := by simp [waitL]
theorem waiting_ok (h : OutAt S o g t xs) : PuL (g_Outgoing_waiting [.ref o] S) S (waitL g xs) := by
  have LL : LIM = 100000 := rfl
  have sm := h.sm
  unfold PuL
  simp -dsimp [wO_fnB, g_Outgoing_waiting, g_Outgoing_waiting_s, wO_lc, out_things h.ob, walkOf_at h.li, enumOf]
  refine wO_lcV (shiftV g) (by rw [enumL_len]; omega) (fun S' a => a.at h.li) (fun x hx S' a => ?_) fun S' a q => ?_
  · obtain ⟨i, hi⟩ := List.mem_iff_getElem?.mp hx
    obtain ⟨y, hy, rfl⟩ := enumL_get hi
    refine ⟨_, rfl, Pu.of ?_⟩
    simp [g_Outgoing_waiting_e1, wipeE, out_known (a.at h.ob), shiftV, LL]
  · rw [shift_enum] at q
    exact ⟨S.length, rfl, a, Nat.le_refl _, q⟩
theorem out_state_w (h : OutAt S o g t xs) : wO (g_Outgoing_state [.ref o] S) P E = P (.tup [.int (g : Int), .tup xs]) S := by
  have LL : LIM = 100000 := rfl
  simp -dsimp [wO_fnB, g_Outgoing_state, g_Outgoing_state_s, out_known h.ob, out_things h.ob, h.li, LL]
theorem out_copy_w (h : OutAt S o g t xs) : wO (g_Outgoing_copy [.ref o] S) (fun v S' => v = .ref S.length ∧ OutAt S' S.length g (S.length + 2) xs ∧ Ex S S') noX := by
  have LL : LIM = 100000 := rfl
  have n1 : ¬ (("many_known" : Str) = "things") := by decide
  have h1 : (S ++ [outO 0 (S.length + 1), Ob.lst []])[S.length]? = some (outO 0 (S.length + 1)) := at_new
  have a1 : Ex S (S ++ [outO 0 (S.length + 1), Ob.lst []]) := Ex.app
  simp -dsimp [wO_fnB, g_Outgoing_copy, g_Outgoing_copy_s, out_make, out_known (a1.at h.ob), wR_sFldS]
  rw [wR_kFld h1 (by simp) (by simp)]
  simp -dsimp [putS]
  have e1 : (S ++ [outO 0 (S.length + 1), Ob.lst []]).set S.length (outO g (S.length + 1)) = S ++ [outO g (S.length + 1), Ob.lst []] := by
    rw [List.set_append_right _ _ (Nat.le_refl _)]; simp
  have a2 : Ex S (S ++ [outO g (S.length + 1), Ob.lst []]) := Ex.app
  have li2 := a2.at h.li
  simp -dsimp [wR_sFldS, out_things (a2.at h.ob), li2]
  have h2 : (S ++ [outO g (S.length + 1), Ob.lst [], .lst xs])[S.length]? = some (outO g (S.length + 1)) := at_new
  rw [wR_kFld h2 (by simp) (by simp)]
  simp -dsimp [putS, n1]
  have e2 : (S ++ [outO g (S.length + 1), Ob.lst [], .lst xs]).set S.length (outO g (S.length + 2)) = S ++ [outO g (S.length + 2), Ob.lst [], .lst xs] := by
    rw [List.set_append_right _ _ (Nat.le_refl _)]; simp
  refine ⟨⟨at_new, ?_, h.sm⟩, Ex.app⟩
  rw [at_off]; rfl
end
end K30

set_option Elab.async false
set_option linter.all false
set_option maxRecDepth 100000
set_option maxHeartbeats 2000000
namespace K30
open PySem PySem.Spec PyProof.Rows L2 Mp
theorem isDct_dk {S : Store} {q : Nat} {kvs : List (Key × Val)} (h : S[q]? = some (.dk kvs)) : isDct S (.ref q) = true := by simp [isDct, h]
/-! ### what stands ahead, by number -/
abbrev AL : Type := List (Nat × Val)
def kN (n : Nat) : Key := .inl (n : Int)
theorem kN_inj : ∀ a b, kN a = kN b → a = b := fun a b h => by
  have := Sum.inl.inj h
  omega
def kvA (A : AL) : List (Key × Val) := A.map fun p => (kN p.1, id p.2)
theorem kvA_len {A : AL} : (kvA A).length = A.length := by simp [kvA]
theorem look_A {A : AL} {k : Nat} : lookK (kvA A) (kN k) = getA A k := by
  have := lookK_enc (kf := kN) (vf := (id : Val → Val)) kN_inj (l := A) (k := k)
  unfold kvA
  rw [this]
  cases getA A k <;> rfl
theorem put_A {A : AL} {k : Nat} {v : Val} : putD (kvA A) (kN k) v = kvA (putA A k v) := putD_enc (kf := kN) (vf := (id : Val → Val)) kN_inj
theorem drop_A {A : AL} {k : Nat} : dropD (kvA A) (kN k) = kvA (delA A k) := dropD_enc (kf := kN) (vf := (id : Val → Val)) kN_inj
theorem keyN (k : Nat) : keyOf (natV k) = some (kN k) := rfl
theorem isIn_A {S : Store} {d k : Nat} {A : AL} (h : S[d]? = some (.dk (kvA A))) : isIn S (natV k) (.ref d) = some (getA A k).isSome := by
  simp only [isIn, dLook, h, keyN, Option.map_some, look_A]
theorem dPop_A {S : Store} {d k : Nat} {A : AL} {v : Val} (h : S[d]? = some (.dk (kvA A))) (hv : getA A k = some v) : dPop (.ref d) (natV k) S = some (v, S.set d (.dk (kvA (delA A k)))) := by
  simp only [dPop, h, keyN, Option.bind_some, look_A, hv, Option.map_some, drop_A]
theorem putIx_A {S : Store} {d k : Nat} {A : AL} {v : Val} (h : S[d]? = some (.dk (kvA A))) (hl : A.length < LIM) : putIx (.ref d) (natV k) v S = some (S.set d (.dk (kvA (putA A k v)))) := by
  simp only [putIx, h, keyN, Option.bind_some, kvA_len, if_pos hl, put_A]
theorem delA_lt {A : AL} {k : Nat} {v : Val} (h : getA A k = some v) : (delA A k).length < A.length := by
  unfold delA
  rw [List.length_filter_lt_length_iff_exists]
  exact ⟨_, getA_mem h, by simp⟩
/-- one behind the other is taken out -/
def pops : Nat → Nat → AL → List Val × Nat × AL
  | 0, m, A => ([], m, A)
  | f + 1, m, A => match getA A m with
    | none => ([], m, A)
    | some v => (v :: (pops f (m + 1) (delA A m)).1, (pops f (m + 1) (delA A m)).2)
theorem pops_none {f m : Nat} {A : AL} (h : getA A m = none) : pops f m A = ([], m, A) := by
  cases f with
  | zero => rfl
  | succ f => simp only [pops, h]
theorem pops_some {f m : Nat} {A : AL} {v : Val} (h : getA A m = some v) : pops (f + 1) m A = (v :: (pops f (m + 1) (delA A m)).1, (pops f (m + 1) (delA A m)).2) := by simp only [pops, h]
theorem pops_end : ∀ {f m : Nat} {A : AL}, A.length ≤ f → getA (pops f m A).2.2 (pops f m A).2.1 = none
  | 0, m, A, h => by
    cases A with
    | nil => rfl
    | cons p r => simp at h
  | f + 1, m, A, h => by
    cases e : getA A m with
    | none => rw [pops_none e]; exact e
    | some v =>
      rw [pops_some e]
      have := delA_lt e
      exact pops_end (by omega)
theorem pops_len : ∀ {f m : Nat} {A : AL}, (pops f m A).1.length ≤ f ∧ (pops f m A).2.1 = m + (pops f m A).1.length ∧ (pops f m A).2.2.length ≤ A.length
  | 0, m, A => ⟨Nat.le_refl _, rfl, Nat.le_refl _⟩
  | f + 1, m, A => by
    cases e : getA A m with
    | none => rw [pops_none e]; exact ⟨Nat.zero_le _, rfl, Nat.le_refl _⟩
    | some v =>
      rw [pops_some e]
      have h1 := delA_lt e
      obtain ⟨h2, h3, h4⟩ := pops_len (f := f) (m := m + 1) (A := delA A m)
      refine ⟨by simp; omega, by simp [h3]; omega, by simp only []; omega⟩
/-! ### an incoming end -/
abbrev inO (m d : Nat) : Ob := .ins "Incoming" [("many_taken", .int (m : Int)), ("ahead", .ref d)]
structure InAt (S : Store) (e m d : Nat) (A : AL) : Prop where
  ob : S[e]? = some (inO m d)
  di : S[d]? = some (.dk (kvA A))
  sm : A.length ≤ 50000
theorem InAt.ex {S S' : Store} {e m d : Nat} {A : AL} (h : InAt S e m d A) (a : Ex S S') : InAt S' e m d A := ⟨a.at h.ob, a.at h.di, h.sm⟩
section
variable {S S' : Store} {e d m k : Nat} {A : AL} {v : Val} {P : Val → Store → Prop} {E : XO}
theorem in_taken (h : S[e]? = some (inO m d)) : fldOf ["Incoming"] "many_taken" (insOf S (.ref e)) = some (natV m) := by
  rw [insOf_at h]; rfl
theorem in_ahead (h : S[e]? = some (inO m d)) : fldOf ["Incoming"] "ahead" (insOf S (.ref e)) = some (.ref d) := by
  rw [insOf_at h]; rfl
theorem in_pick (h : S[e]? = some (inO m d)) {n : Str} {f : Fn} (hn : ([("many_taken", .int (m : Int)), ("ahead", .ref d)] : List (Str × Val)).lookup n = none) : pickM [("Incoming", f)] n S (.ref e) = some f := pickM_at h hn rfl
theorem in_make : wO (fMake "Incoming" g_Incoming_init [] S) P E = P (.ref S.length) (S ++ [inO 0 (S.length + 1), .dk []]) := by
  have h1 : (S ++ [Ob.ins "Incoming" []])[S.length]? = some (.ins "Incoming" []) := at_new
  have h2 : (S ++ [Ob.ins "Incoming" []]).set S.length (.ins "Incoming" [("many_taken", .int 0)]) = S ++ [Ob.ins "Incoming" [("many_taken", .int 0)]] := by
    rw [List.set_append_right _ _ (Nat.le_refl _)]; simp
  have h3 : (S ++ [Ob.ins "Incoming" [("many_taken", .int 0)], .dk []])[S.length]? = some (.ins "Incoming" [("many_taken", .int 0)]) := at_new
  rw [wO_fMake]
  simp -dsimp [wO_fnB, g_Incoming_init, g_Incoming_init_s, wR_sFldS]
  rw [wR_kFld h1 (by simp) (by simp)]
  simp -dsimp [wR_sFldS, putS, h2, LIM]
  rw [wR_kFld h3 (by simp) (by simp)]
  have n1 : ¬ (("many_taken" : Str) = "ahead") := by decide
  simp -dsimp [putS, n1]
  exact Iff.rfl
theorem in_taken_w (h : InAt S e m d A) : wO (g_Incoming_taken [.ref e] S) P E = P (natV m) S := by
  simp -dsimp [wO_fnB, g_Incoming_taken, g_Incoming_taken_s, in_taken h.ob]
theorem link_w {n : Nat} (hn : n < 4294967296) : wO (g_is_link_number [natV n] S) P E = P (.bl true) S := by
  have f : Fit S (natV n) := ⟨_, rfl⟩
  have nb : numB (natV n) = true := by simp [numB, natV]
  simp -dsimp [wO_fnB, g_is_link_number, g_is_link_number_s, is_number_w f, nb]
  simp -dsimp [natV]
  have : decide ((n : Int) < bigI 4294967296) = true := by rw [bigI_eq]; simp; omega
  rw [this]
/-- what stands ahead behind a take -/
def addA (m k : Nat) (v : Val) (A : AL) : AL := if m ≤ k ∧ k < m + 1000 ∧ getA A k = none then putA A k v else A
theorem addA_len {m k : Nat} {v : Val} {A : AL} : (addA m k v A).length ≤ A.length + 1 := by
  unfold addA
  split
  · exact putA_length
  · omega
theorem take_loop {R : RP} {f : Nat} {x1 x2 : Option Val} (h : InAt S e m d A) (hf : S[f]? = some (.lst [])) (hl : A.length ≤ 40000)
    (K : ∀ S' x3 x4, S'[f]? = some (.lst (pops A.length m A).1) → InAt S' e (pops A.length m A).2.1 d (pops A.length m A).2.2 → KeepL [e, d, f] S S' → R.nx [some (.ref e), x3, x4, some (.ref f)] S') :
    wR (sWhile (bV (eB2 (vIn false) (eFld ["Incoming"] "many_taken" (eV 0)) (eFld ["Incoming"] "ahead" (eV 0)))) g_Incoming_take_b1 [some (.ref e), x1, x2, some (.ref f)] S) R := by
  have LL : LIM = 100000 := rfl
  have nef : e ≠ f := fun z => by have := h.ob; rw [z, hf] at this; cases this
  have ndf : d ≠ f := fun z => by have := h.di; rw [z, hf] at this; cases this
  have ned : e ≠ d := fun z => by have := h.ob; rw [z, h.di] at this; cases this
  refine wR_while (fun n env S' => ∃ acc m' A', env = [some (.ref e), x1, x2, some (.ref f)] ∧ A'.length ≤ n ∧ S'[f]? = some (.lst acc) ∧ InAt S' e m' d A' ∧ KeepL [e, d, f] S S' ∧ acc.length + A'.length ≤ A.length ∧
    ∃ g, A'.length ≤ g ∧ pops A.length m A = (acc ++ (pops g m' A').1, (pops g m' A').2)) A.length (by show A.length < 1000000; omega) ⟨[], m, A, rfl, Nat.le_refl _, hf, h, KeepL.refl, by simp, A.length, Nat.le_refl _, by simp⟩ ?_
  rintro n env S1 ⟨acc, m', A', rfl, hn, hf1, h1, kp, la, g, hg, hp⟩
  simp -dsimp [in_taken h1.ob, in_ahead h1.ob, isIn_A h1.di]
  cases c : getA A' m' with
  | none =>
    simp -dsimp
    rw [pops_none c] at hp
    rw [hp] at K
    simp only [List.append_nil] at K
    exact K S1 x1 x2 hf1 h1 kp
  | some v =>
    simp -dsimp
    have lt := delA_lt c
    obtain ⟨g, rfl⟩ : ∃ g', g = g' + 1 := ⟨g - 1, by omega⟩
    rw [pops_some c] at hp
    refine ⟨n - 1, by omega, ?_⟩
    have la2 : acc.length < LIM := by omega
    simp -dsimp [g_Incoming_take_b1, hf1, in_ahead h1.ob, in_taken h1.ob, isDct_dk h1.di, dPop_A h1.di c]
    have hf2 : (S1.set d (.dk (kvA (delA A' m'))))[f]? = some (.lst acc) := by rw [List.getElem?_set_ne ndf]; exact hf1
    simp -dsimp [hf2, la2]
    have lf : f < S1.length := lt_at hf1
    have ld : d < S1.length := lt_at h1.di
    have le : e < S1.length := lt_at h1.ob
    have ob2 : ((S1.set d (.dk (kvA (delA A' m')))).set f (.lst (acc ++ [v])))[e]? = some (inO m' d) := by
      rw [List.getElem?_set_ne (Ne.symm nef), List.getElem?_set_ne (Ne.symm ned)]; exact h1.ob
    have di2 : ((S1.set d (.dk (kvA (delA A' m')))).set f (.lst (acc ++ [v])))[d]? = some (.dk (kvA (delA A' m'))) := by
      rw [List.getElem?_set_ne (Ne.symm ndf)]; exact at_set ld
    have hf3 : ((S1.set d (.dk (kvA (delA A' m')))).set f (.lst (acc ++ [v])))[f]? = some (.lst (acc ++ [v])) := at_set (by simp; omega)
    have kp2 : KeepL [e, d, f] S ((S1.set d (.dk (kvA (delA A' m')))).set f (.lst (acc ++ [v]))) := (kp.setAt (.inl (by simp))).setAt (.inl (by simp))
    generalize (S1.set d (.dk (kvA (delA A' m')))).set f (.lst (acc ++ [v])) = S2 at *
    have i3 : incOf ["Incoming"] "many_taken" S2 (.ref e) = some (("Incoming" : Str), (m' : Int)) := by
      unfold incOf; rw [insOf_at ob2]; rfl
    simp -dsimp [i3]
    rw [wR_kInc2 ob2 (by simp)]
    simp -dsimp [putS]
    refine ⟨acc ++ [v], m' + 1, delA A' m', by omega, ?_, ⟨?_, ?_, ?_⟩, kp2.setAt (.inl (by simp)), by simp; omega, g, by omega, ?_⟩
    · rw [List.getElem?_set_ne nef]; exact hf3
    · exact at_set (lt_at ob2)
    · rw [List.getElem?_set_ne ned]; exact di2
    · have := h1.sm; omega
    · rw [hp]; simp
def takeRest : En → Store → Res := sSeq (sSet 3 (eLst aNil)) (sSeq (sWhile (bV (eB2 (vIn false) (eFld ["Incoming"] "many_taken" (eV 0)) (eFld ["Incoming"] "ahead" (eV 0)))) g_Incoming_take_b1) (sRet (eV 3)))
theorem take_s_eq : g_Incoming_take_s = sSeq (sIf (bNot (bV (eCall g_is_link_number (aCons (eV 1) aNil)))) (sRaise0 "NoNumber") sNil) (sSeq (sIf (bAnd (bV (eCh vLe vLt (eFld ["Incoming"] "many_taken" (eV 0)) (eV 1) (eB2 vAdd (eFld ["Incoming"] "many_taken" (eV 0)) (eC (.int 1000))))) (bV (eB2 (vIn true) (eV 1) (eFld ["Incoming"] "ahead" (eV 0))))) (sPutIx (eV 2) (eFld ["Incoming"] "ahead" (eV 0)) (eV 1)) sNil) takeRest) := rfl
theorem take_rest {R : RP} {x1 x2 x3 : Option Val} (h : InAt S e m d A) (hl : A.length ≤ 40000)
    (K : ∀ f S', S.length ≤ f → S'[f]? = some (.lst (pops A.length m A).1) → InAt S' e (pops A.length m A).2.1 d (pops A.length m A).2.2 → KeepL [e, d] S S' → R.rt (.ref f) S') :
    wR (takeRest [some (.ref e), x1, x2, x3] S) R := by
  have LL : LIM = 100000 := rfl
  unfold takeRest
  rw [wR_sSeq]
  simp -dsimp only [sSet, wR_sAsg, wO_eLst, wO_aNil, gN_ap, wP_some]
  refine ⟨by simp, ?_⟩
  rw [wR_sSeq]
  refine take_loop (h.ex Ex.app) at_new hl fun S' x3 x4 q1 q2 q3 => ?_
  simp -dsimp
  refine K S.length S' (Nat.le_refl _) q1 q2 ?_
  have k2 := (KeepL.ex (F := [e, d, S.length]) (Ex.app (S := S) (T := [.lst []])))
  refine ⟨Nat.le_trans k2.1 q3.1, fun j o e1 n => ?_⟩
  have := lt_at e1
  have n2 : j ∉ [e, d, S.length] := by simp at n ⊢; omega
  exact q3.at (k2.at e1 n2) n2
theorem in_take_w (h : InAt S e m d A) (hk : k < 4294967296) (hl : A.length ≤ 30000)
    (K : ∀ f S', S.length ≤ f → S'[f]? = some (.lst (pops (addA m k v A).length m (addA m k v A)).1) → InAt S' e (pops (addA m k v A).length m (addA m k v A)).2.1 d (pops (addA m k v A).length m (addA m k v A)).2.2 → KeepL [e, d] S S' → P (.ref f) S') : wO (g_Incoming_take [.ref e, natV k, v] S) P E := by
  have LL : LIM = 100000 := rfl
  have la := addA_len (m := m) (k := k) (v := v) (A := A)
  have lt : A.length < LIM := by omega
  have ned : d ≠ e := fun z => by have := h.ob; rw [← z, h.di] at this; cases this
  have rest : ∀ S1 x1 x2 x3, InAt S1 e m d (addA m k v A) → KeepL [e, d] S S1 → wR (takeRest [some (.ref e), x1, x2, x3] S1) ⟨fun _ S1 => P .non S1, P, fun _ _ => False, fun _ _ => False, fun c fs _ S1 => E c fs S1⟩ := fun S1 x1 x2 x3 h1 kp =>
    take_rest h1 (by omega) fun f S' z1 z2 z3 z4 => K f S' (Nat.le_trans kp.1 z1) z2 z3 (kp.trans z4)
  have c2 : (m : Int) ≤ (k : Int) ↔ m ≤ k := by omega
  have c3 : (k : Int) < (m : Int) + 1000 ↔ k < m + 1000 := by omega
  have inA := isIn_A (k := k) h.di
  have rest0 : addA m k v A = A → wR (takeRest [some (.ref e), some (natV k), some v, none] S) ⟨fun _ S1 => P .non S1, P, fun _ _ => False, fun _ _ => False, fun c fs _ S1 => E c fs S1⟩ := fun q => rest S _ _ _ (by rw [q]; exact h) KeepL.refl
  have rest1 : addA m k v A = putA A k v → wR (takeRest [some (.ref e), some (natV k), some v, none] (S.set d (.dk (kvA (putA A k v))))) ⟨fun _ S1 => P .non S1, P, fun _ _ => False, fun _ _ => False, fun c fs _ S1 => E c fs S1⟩ := fun q =>
    rest _ _ _ _ (by rw [q] at la ⊢; exact ⟨by rw [List.getElem?_set_ne ned]; exact h.ob, at_set (lt_at h.di), by omega⟩) (KeepL.set (by simp))
  have hput : putIx (.ref d) (natV k) v S = some (S.set d (.dk (kvA (putA A k v)))) := putIx_A h.di lt
  clear K rest
  generalize hA : addA m k v A = A1 at *
  unfold addA at hA
  have e1 : g_Incoming_take = fnB 4 3 g_Incoming_take_s := rfl
  rw [e1, take_s_eq]
  generalize takeRest = T at *
  have hob : fldOf ["Incoming"] "many_taken" (insOf S (.ref e)) = some (.int (m : Int)) := in_taken h.ob
  have eN : natV k = .int (k : Int) := rfl
  simp -dsimp [wO_fnB, link_w hk, hob, in_ahead h.ob]
  rw [show (vLe (.int (m : Int)) (natV k) S) = .ok (.bl (decide ((m : Int) ≤ k))) S from rfl]
  by_cases d1 : m ≤ k
  · have d1' : (m : Int) ≤ (k : Int) := by omega
    by_cases d2 : k < m + 1000
    · have d2' : (k : Int) < (m : Int) + 1000 := by omega
      have d3 : vLt (natV k) (.int ((m : Int) + 1000)) S = .ok (.bl (decide ((k : Int) < (m : Int) + 1000))) S := rfl
      simp -dsimp [d1', hob, d3, d2', in_ahead h.ob, inA]
      cases c : getA A k with
      | none =>
        simp -dsimp [in_ahead h.ob, h.di, keyN, kvA_len, lt, put_A]
        refine rest1 ?_
        rw [← hA, if_pos ⟨d1, d2, c⟩]
      | some w =>
        simp -dsimp
        refine rest0 ?_
        rw [← hA, if_neg]
        rw [c]; simp
    · have d2' : ¬ (k : Int) < (m : Int) + 1000 := by omega
      have d3 : vLt (natV k) (.int ((m : Int) + 1000)) S = .ok (.bl (decide ((k : Int) < (m : Int) + 1000))) S := rfl
      simp -dsimp [d1', hob, d3, d2']
      refine rest0 ?_
      rw [← hA, if_neg (by omega)]
  · have d1' : ¬ (m : Int) ≤ (k : Int) := by omega
    simp -dsimp [d1']
    refine rest0 ?_
    rw [← hA, if_neg (by omega)]
/-- .. the keys, in order -/
def heldL (A : AL) : List Nat := sortN (A.map (·.1))
theorem sortedD_nats {q : Nat} (h : S[q]? = some (.dk (kvA A))) (hl : A.length ≤ LIM) : wO (fSortedD [.ref q] S) P E = P (.ref S.length) (S ++ [.lst ((heldL A).map natV)]) := by
  have hk : keyVals S (.ref q) = some ((A.map fun p => (p.1 : Int)).map Val.int) := by
    simp only [keyVals, h, kvA, List.map_map]
    rfl
  have c : (∃ ds, toDs ((A.map fun p => (p.1 : Int)).map Val.int) = some ds ∧ PySem.W.AllAlike ds ∧ PySem.W.Sortable ds ∧ ∀ d ∈ ds, d.depth ≤ 64) ∧ ((A.map fun p => (p.1 : Int)).map Val.int).length ≤ LIM := by
    refine ⟨⟨_, toDs_ints _, fun d hd d' hd' => ?_, .inr fun d hd => ?_, fun d hd => ?_⟩, by simpa using hl⟩
    · obtain ⟨a, _, rfl⟩ := List.mem_map.mp hd
      obtain ⟨b, _, rfl⟩ := List.mem_map.mp hd'
      simp [PySem.W.alike]
    · obtain ⟨a, ha, rfl⟩ := List.mem_map.mp hd
      exact ⟨fun z => (by cases z), fun xs z => (by cases z)⟩
    · obtain ⟨a, ha, rfl⟩ := List.mem_map.mp hd
      simp [PyData.depth]
  simp only [fSortedD, hk, if_pos c, wO_okE]
  rw [← List.map_mergeSort (r := fun a b => decide (a ≤ b)) (s := leV) (f := Val.int) fun a _ b _ => (leV_int a b).symm]
  have : (A.map fun p => (p.1 : Int)).mergeSort (fun a b => decide (a ≤ b)) = (heldL A).map Int.ofNat := by
    unfold heldL sortN
    rw [List.map_mergeSort (r := fun a b => decide (a ≤ b)) (s := fun a b => decide (a ≤ b)) (f := Int.ofNat) fun a _ b _ => by simp]
    rw [List.map_map]; rfl
  rw [this, List.map_map]
  rfl
theorem in_held_w (h : InAt S e m d A) : Pu (g_Incoming_held [.ref e] S) S (.tup ((heldL A).map natV)) := by
  have sm := h.sm
  have LL : LIM = 100000 := rfl
  refine Pu.of ?_
  simp -dsimp [wO_fnB, g_Incoming_held, g_Incoming_held_s, in_ahead h.ob]
  rw [sortedD_nats h.di (by omega)]
  simp -dsimp
end
end K30

set_option Elab.async false
set_option linter.all false
set_option maxRecDepth 100000
set_option maxHeartbeats 2000000
namespace K30
open PySem PySem.Spec PyProof.Rows L2 Mp
/-! ### things -/
/-- all that is in it is of a known type -/
inductive DF (S : Store) : Val → Prop
  | non : DF S .non
  | bl (b : Bool) : DF S (.bl b)
  | int (i : Int) : DF S (.int i)
  | str {s : Str} (h : PyData.strOk s = true) : DF S (.str s)
  | tup {xs : List Val} (h : ∀ x ∈ xs, DF S x) : DF S (.tup xs)
  | ref {i : Nat} (h : ∃ t, tyOf S (.ref i) = some t) : DF S (.ref i)
theorem DF.fit {S : Store} {v : Val} (h : DF S v) : Fit S v := by
  cases h <;> first | exact ⟨_, rfl⟩ | assumption
theorem DF.ex {S S' : Store} {v : Val} (h : DF S v) (a : Ex S S') : DF S' v := by
  induction h with
  | non => exact .non
  | bl b => exact .bl b
  | int i => exact .int i
  | str h => exact .str h
  | tup h ih => exact .tup ih
  | ref h => exact .ref (Fit.ex (v := .ref _) h a)
mutual
def itB : Val → Bool
  | .non => true
  | .bl _ => true
  | .int _ => true
  | .str _ => true
  | .tup xs => itsB xs
  | _ => false
def itsB : List Val → Bool
  | [] => true
  | x :: xs => itB x && itsB xs
end
mutual
def szV : Val → Nat
  | .tup xs => szs xs + 1
  | _ => 1
def szs : List Val → Nat
  | [] => 0
  | x :: xs => szV x + szs xs
end
def isTup : Val → Bool
  | .tup _ => true
  | _ => false
def thB (v : Val) : Bool := isTup v && itB v
@[simp] theorem itB_tup {xs : List Val} : itB (.tup xs) = itsB xs := by simp [itB]
@[simp] theorem itsB_nil : itsB [] = true := by simp [itsB]
@[simp] theorem itsB_cons {x : Val} {xs : List Val} : itsB (x :: xs) = (itB x && itsB xs) := by simp [itsB]
@[simp] theorem szV_tup {xs : List Val} : szV (.tup xs) = szs xs + 1 := by simp [szV]
@[simp] theorem szs_nil : szs [] = 0 := by simp [szs]
@[simp] theorem szs_cons {x : Val} {xs : List Val} : szs (x :: xs) = szV x + szs xs := by simp [szs]
theorem szs_append {xs ys : List Val} : szs (xs ++ ys) = szs xs + szs ys := by
  induction xs with
  | nil => simp
  | cons x r ih => simp [ih]; omega
theorem itsB_append {xs ys : List Val} : itsB (xs ++ ys) = (itsB xs && itsB ys) := by
  induction xs with
  | nil => simp
  | cons x r ih => simp [ih, Bool.and_assoc]
theorem itsB_all {xs : List Val} : itsB xs = xs.all itB := by
  induction xs with
  | nil => simp
  | cons x r ih => simp [ih]
theorem szs_len {xs : List Val} (h : ∀ x ∈ xs, isTup x = true) : xs.length ≤ szs xs := by
  induction xs with
  | nil => simp
  | cons x r ih =>
    have := ih fun y hy => h y (by simp [hy])
    have h1 : 1 ≤ szV x := by cases x <;> simp [szV]
    simp; omega
theorem szs_len' {xs : List Val} : xs.length ≤ szs xs := by
  induction xs with
  | nil => simp
  | cons x r ih =>
    have h1 : 1 ≤ szV x := by cases x <;> simp [szV]
    simp; omega
theorem szs_filter {xs : List Val} {p : Val → Bool} : szs (xs.filter p) ≤ szs xs := by
  induction xs with
  | nil => simp
  | cons x r ih =>
    simp only [List.filter_cons, szs_cons]
    split
    · simp; exact ih
    · omega
theorem szV_mem {x : Val} {xs : List Val} (h : x ∈ xs) : szV x ≤ szs xs := by
  induction xs with
  | nil => simp at h
  | cons y r ih =>
    rcases List.mem_cons.mp h with rfl | h
    · simp
    · have := ih h; simp; omega
/-- .. and so clean -/
theorem it_clb {S : Store} {v : Val} (h : DF S v) (hi : itB v = true) : clb v = true := by
  induction h with
  | non => simp
  | bl b => simp
  | int i => simp
  | str h => simpa [clb] using h
  | tup h ih =>
    rw [clb_tup, clbs_iff]
    rw [itB_tup, itsB_all, List.all_eq_true] at hi
    exact fun x hx => ih x hx (hi x hx)
  | ref h => simp [itB] at hi
section
variable {S : Store} {v : Val} {P : Val → Store → Prop} {E : XO}
theorem ty_ref' {i : Nat} (h : Fit S (.ref i)) : tyOf S (.ref i) = some "list" ∨ tyOf S (.ref i) = some "dict" := by
  obtain ⟨t, ht⟩ := h
  rcases ty_ref ht with rfl | rfl
  · exact .inl ht
  · exact .inr ht
/-- one row of items: a part of it as it stands ahead -/
theorem row_loop {S0 : Store} {r : Nat} {rs xs : List Val} {x0 x2 x3 : Option Val} {R : RP} (a : Ex S0 S) (hr0 : S0.length ≤ r) (hr : S[r]? = some (.lst rs)) (hd : ∀ x ∈ xs, DF S0 x) (hl : rs.length + xs.length ≤ 90000)
    (K1 : ∀ S' x3, (S' = S.set r (.lst (rs ++ xs.filter isTup)) ∧ ∀ x ∈ xs, isTup x = true ∨ itB x = true) → R.nx [x0, some (.ref r), x2, x3] S') (K2 : itsB xs = false → ∀ S', Ex S0 S' → R.rt (.bl false) S') :
    wR (forX (fun _ => True) (gN 3) g_is_thing_b1 xs [x0, some (.ref r), x2, x3] S) R := by
  have LL : LIM = 100000 := rfl
  have lr := lt_at hr
  have wr : ∀ zs, Ex S0 (S.set r (.lst zs)) := fun zs => by
    obtain ⟨T, rfl⟩ := a
    exact ⟨T.set (r - S0.length) (.lst zs), by rw [List.set_append_right _ _ hr0]⟩
  refine wR_forX xs (fun i en S' => (∃ x3, en = [x0, some (.ref r), x2, x3]) ∧ S' = S.set r (.lst (rs ++ (xs.take i).filter isTup)) ∧ ∀ x ∈ xs.take i, isTup x = true ∨ itB x = true) ⟨⟨_, rfl⟩, ?_, by simp⟩ (fun i x en S' hx hI => ?_) fun en S' hI => ?_
  · simp
    refine List.ext_getElem? fun j => ?_
    by_cases hj : j = r
    · subst hj; rw [at_set lr, hr]
    · rw [List.getElem?_set_ne (Ne.symm hj)]
  · obtain ⟨⟨x3, rfl⟩, e2, e3⟩ := hI
    refine ⟨trivial, _, rfl, ?_⟩
    have hxm := List.mem_of_getElem? hx
    have dx := (hd x hxm).ex (wr (rs ++ (xs.take i).filter isTup))
    rw [← e2] at dx
    have tk : xs.take (i + 1) = xs.take i ++ [x] := by rw [List.take_succ, hx]; rfl
    have hS : S'[r]? = some (.lst (rs ++ (xs.take i).filter isTup)) := by rw [e2]; exact at_set lr
    have ll : (rs ++ (xs.take i).filter isTup).length < LIM := by
      have h1 := List.length_filter_le isTup (xs.take i)
      have h2 := List.length_take_le i xs
      have h3 := (List.getElem?_eq_some_iff.mp hx).1
      have h4 : (xs.take i).length ≤ i := by rw [List.length_take]; omega
      simp only [List.length_append]; omega
    have aS' : Ex S0 S' := by rw [e2]; exact wr _
    have step0 : isTup x = false → itB x = true → (S' = S.set r (.lst (rs ++ (xs.take (i + 1)).filter isTup)) ∧ ∀ y ∈ xs.take (i + 1), isTup y = true ∨ itB y = true) := fun h1 h2 => by
      rw [tk]
      refine ⟨by rw [e2]; simp [h1], fun y hy => ?_⟩
      rcases List.mem_append.mp hy with hy | hy
      · exact e3 y hy
      · simp at hy; subst hy; exact .inr h2
    have bad : isTup x = false → itB x = false → itsB xs = false := fun _ h2 => by
      rw [itsB_all, List.all_eq_false]
      exact ⟨x, hxm, by simp [h2]⟩
    cases x with
    | tup ys =>
      simp -dsimp [g_is_thing_b1, tyOf, tyNames, subTy, hS, ll]
      refine ⟨by simpa using ll, ?_, fun y hy => ?_⟩
      · rw [e2, List.set_set, tk]; simp; rfl
      · rw [tk] at hy
        rcases List.mem_append.mp hy with hy | hy
        · exact e3 y hy
        · simp at hy; subst hy; exact .inl rfl
    | non => simp -dsimp [g_is_thing_b1, tyOf, tyNames, subTy, isV]; exact step0 rfl (by simp [itB])
    | bl b => simp -dsimp [g_is_thing_b1, tyOf, tyNames, subTy, isV]; exact step0 rfl (by simp [itB])
    | int b => simp -dsimp [g_is_thing_b1, tyOf, tyNames, subTy, isV]; exact step0 rfl (by simp [itB])
    | str b => simp -dsimp [g_is_thing_b1, tyOf, tyNames, subTy, isV]; exact step0 rfl (by simp [itB])
    | frz ys => cases dx
    | ref j =>
      rcases ty_ref' dx.fit with ht | ht <;> simp -dsimp [g_is_thing_b1, ht, tyNames, subTy, isV] <;> exact K2 (bad rfl (by simp [itB])) S' aS'
  · obtain ⟨⟨x3, rfl⟩, e2, e3⟩ := hI
    rw [List.take_length] at e2 e3
    exact ⟨trivial, K1 S' x3 ⟨e2, e3⟩⟩
theorem isTup_of {v : Val} (h : isTup v = true) : ∃ xs, v = .tup xs := by
  cases v <;> first | exact ⟨_, rfl⟩ | simp [isTup] at h
theorem split_tups {xs : List Val} (h : ∀ x ∈ xs, isTup x = true ∨ itB x = true) : itsB xs = itsB (xs.filter isTup) := by
  induction xs with
  | nil => simp
  | cons x r ih =>
    have i := ih fun y hy => h y (by simp [hy])
    cases c : isTup x with
    | true => simp [List.filter_cons, c, i]
    | false =>
      rcases h x (by simp) with z | z
      · rw [c] at z; cases z
      · simp [List.filter_cons, c, i, z]
theorem is_thing_pu (hd : DF S v) (hs : szV v ≤ 40000) : Pu (g_is_thing [v] S) S (.bl (thB v)) := by
  have LL : LIM = 100000 := rfl
  refine Pu.of ?_
  by_cases ht : isTup v = true
  · obtain ⟨vs, rfl⟩ := isTup_of ht
    have e0 : thB (.tup vs) = itB (.tup vs) := by simp [thB, isTup]
    rw [e0]
    have eg : g_is_thing = fnB 4 1 g_is_thing_s := rfl
    simp -dsimp [eg, wO_fnB, g_is_thing_s, tyOf, tyNames, subTy]
    refine ⟨by omega, ?_⟩
    refine wR_while (fun n en S' => ∃ rs, (∃ x2 x3, en = [some (.tup vs), some (.ref S.length), x2, x3]) ∧ S'[S.length]? = some (.lst rs) ∧ (∀ x ∈ rs, isTup x = true) ∧ (∀ x ∈ rs, DF S x) ∧ szs rs ≤ n ∧ n ≤ 40000 ∧ itB (.tup vs) = itsB rs ∧ Ex S S') 40000 (by show 40000 < 1000000; omega)
      ⟨[.tup vs], ⟨_, _, rfl⟩, at_new, by simp [isTup], by simpa using hd, by simp at hs ⊢; omega, Nat.le_refl _, by simp, Ex.app⟩ ?_
    rintro n en S1 ⟨rs, ⟨x2, x3, rfl⟩, h1, h2, h2d, h3, h4, h5, a1⟩
    have tr : truV S1 (.ref S.length) = some (!rs.isEmpty) := by simp [truV, h1]
    simp -dsimp [tr]
    by_cases e : rs = []
    · subst e
      simp -dsimp at h5 ⊢
      rw [h5]
      exact isP_ex a1
    · obtain ⟨r0, row, rfl⟩ : ∃ r0 row, rs = r0 ++ [row] := ⟨rs.dropLast, rs.getLast e, (List.dropLast_concat_getLast e).symm⟩
      obtain ⟨ys, rfl⟩ := isTup_of (h2 row (by simp))
      rw [szs_append] at h3
      simp at h3
      skip
      rw [if_neg e]
      refine ⟨n - 1, by omega, ?_⟩
      simp -dsimp [g_is_thing_b2, h1, wR_sFor]
      have lr := lt_at h1
      have a2 : Ex S (S1.set S.length (.lst r0)) := Ex.setAt a1 (Nat.le_refl _)
      have dys : ∀ x ∈ ys, DF S x := by
        have := h2d (.tup ys) (by simp)
        cases this with
        | tup h => exact h
      have l1 : r0.length ≤ szs r0 := szs_len'
      have l2 : ys.length ≤ szs ys := szs_len'
      refine row_loop (S0 := S) a2 (Nat.le_refl _) (at_set lr) dys (by omega) (fun S' x3 hS => ?_) fun hb S' a3 => ?_
      · obtain ⟨hS, hit⟩ := hS
        have sf := szs_filter (xs := ys) (p := isTup)
        refine ⟨r0 ++ ys.filter isTup, ⟨_, _, rfl⟩, ?_, fun x hx => ?_, fun x hx => ?_, ?_, by omega, ?_, ?_⟩
        · rw [hS]; exact at_set (by simpa using lr)
        · rcases List.mem_append.mp hx with hx | hx
          · exact h2 x (by simp [hx])
          · exact (List.mem_filter.mp hx).2
        · rcases List.mem_append.mp hx with hx | hx
          · exact h2d x (by simp [hx])
          · exact dys x (List.mem_filter.mp hx).1
        · rw [szs_append]; omega
        · rw [h5, itsB_append, itsB_append, ← split_tups hit]; simp
        · rw [hS]; exact Ex.setAt a2 (Nat.le_refl _)
      · have : itB (.tup vs) = false := by rw [h5, itsB_append]; simp [hb]
        rw [this]
        exact isP_ex a3
  · have e0 : thB v = false := by simp [thB, ht]
    rw [e0]
    have fv := hd.fit
    cases hd with
    | tup h => simp [isTup] at ht
    | ref h => rcases ty_ref' fv with ht | ht <;> simp [wO_fnB, g_is_thing, g_is_thing_s, ht, tyNames, subTy]
    | _ => simp [wO_fnB, g_is_thing, g_is_thing_s, tyOf, tyNames, subTy]
/-- .. the law's own judge -/
theorem law_is_thing_pu : ∀ (d : Nat) (S : Store) (v : Val), DF S v → dep v < d → Pu (g_law_is_thing d [v] S) S (.bl (thB v))
  | 0, _, _, _, h => absurd h (Nat.not_lt_zero _)
  | d + 1, S, v, hd, hp => by
    refine Pu.of ?_
    have eg : g_law_is_thing (d + 1) = fnB 2 1 (g_law_is_thing_s (g_law_is_thing d)) := rfl
    have fv := hd.fit
    cases hd with
    | tup h =>
      rename_i xs
      have e0 : thB (.tup xs) = itsB xs := by simp [thB, isTup]
      rw [e0]
      simp -dsimp [eg, wO_fnB, g_law_is_thing_s, tyOf, tyNames, subTy, wR_sFor]
      refine wR_forX xs (fun i en S' => (∃ x1, en = [some (.tup xs), x1]) ∧ Ex S S' ∧ ∀ x ∈ xs.take i, itB x = true) ⟨⟨_, rfl⟩, Ex.refl, by simp⟩ (fun i x en S' hx hI => ?_) fun en S' hI => ?_
      · obtain ⟨⟨x1, rfl⟩, a, e3⟩ := hI
        refine ⟨trivial, _, rfl, ?_⟩
        have hxm := List.mem_of_getElem? hx
        have dx := (h x hxm).ex a
        have tk : xs.take (i + 1) = xs.take i ++ [x] := by rw [List.take_succ, hx]; rfl
        have ok : itB x = true → ∀ y ∈ xs.take (i + 1), itB y = true := fun h1 y hy => by
          rw [tk] at hy
          rcases List.mem_append.mp hy with hy | hy
          · exact e3 y hy
          · simp at hy; subst hy; exact h1
        have bad : itB x = false → itsB xs = false := fun h2 => by
          rw [itsB_all, List.all_eq_false]
          exact ⟨x, hxm, by simp [h2]⟩
        have hdx : dep x < d := by
          have := dep_mem hxm
          simp at hp; omega
        have rc := law_is_thing_pu d S' x dx hdx
        have fx := dx.fit
        cases dx with
        | tup hy =>
          rename_i ys
          simp -dsimp [g_law_is_thing_b1, tyOf, tyNames, subTy, isV]
          refine rc.wk fun S2 a2 => ?_
          cases c : itB (.tup ys) with
          | true =>
            have : thB (.tup ys) = true := by simp [thB, isTup] at c ⊢; exact c
            simp -dsimp [this]
            exact ⟨a.trans a2, ok c⟩
          | false =>
            have : thB (.tup ys) = false := by simp [thB, isTup] at c ⊢; exact c
            simp -dsimp [this]
            rw [bad c]; exact isP_ex (a.trans a2)
        | ref hr =>
          have c : ∀ j, thB (.ref j) = false := fun j => by simp [thB, isTup]
          rw [c] at rc
          rcases ty_ref' fx with ht | ht <;> simp -dsimp [g_law_is_thing_b1, ht, tyNames, subTy, isV] <;> refine rc.wk fun S2 a2 => ?_ <;> simp -dsimp <;> rw [bad (by simp [itB])] <;> exact isP_ex (a.trans a2)
        | _ => simp -dsimp [g_law_is_thing_b1, tyOf, tyNames, subTy, isV]; exact ⟨a, ok (by simp [itB])⟩
      · obtain ⟨⟨x1, rfl⟩, a, e3⟩ := hI
        rw [List.take_length] at e3
        have : itsB xs = true := by rw [itsB_all, List.all_eq_true]; exact e3
        refine ⟨trivial, ?_⟩
        simp -dsimp
        rw [this]; exact isP_ex a
    | ref h =>
      have c : ∀ j, thB (.ref j) = false := fun j => by simp [thB, isTup]
      rw [c]
      rcases ty_ref' fv with ht | ht <;> simp [eg, wO_fnB, g_law_is_thing_s, ht, tyNames, subTy]
    | _ => simp [eg, wO_fnB, g_law_is_thing_s, tyOf, tyNames, subTy, thB, isTup]
end
end K30

set_option Elab.async false
set_option linter.all false
set_option maxRecDepth 100000
set_option maxHeartbeats 2000000
namespace K30
open PySem PySem.Spec PyProof.Rows L2 Mp
section
variable {S S' : Store} {e d m k : Nat} {A : AL} {v : Val} {P : Val → Store → Prop} {E : XO}
theorem heldL_len {A : AL} : (heldL A).length = A.length := by unfold heldL; rw [sortN_len]; simp
theorem heldL_mem {A : AL} {x : Nat} : x ∈ heldL A ↔ x ∈ A.map (·.1) := by unfold heldL; exact sortN_mem
/-- what an incoming end holds, in order -/
def heldP (A : AL) : List Val := (heldL A).map fun n => .tup [natV n, (getA A n).getD .non]
theorem in_state_w (h : InAt S e m d A) : Pu (g_Incoming_state [.ref e] S) S (.tup [natV m, .tup (heldP A)]) := by
  have sm := h.sm
  have LL : LIM = 100000 := rfl
  refine Pu.of ?_
  simp -dsimp [wO_fnB, g_Incoming_state, g_Incoming_state_s, in_taken h.ob, wO_lc, wO_eMeth, in_pick h.ob (n := "held") rfl]
  refine (in_held_w h).wk fun S1 a1 => ?_
  simp -dsimp
  refine wO_lcN natV (fun n => .tup [natV n, (getA A n).getD .non]) (by rw [heldL_len]; omega) (fun _ _ => trivial) (fun n hn S' a => ⟨_, rfl, Pu.of ?_⟩) fun S2 a2 q => ?_
  · have h2 := (h.ex a1).ex a
    obtain ⟨w, hw⟩ : ∃ w, getA A n = some w := Option.isSome_iff_exists.mp (getA_some.mpr (heldL_mem.mp hn))
    have ix : vIx (.ref d) (natV n) S' = .ok w S' := by
      have : dLook S' (.ref d) (natV n) = some (some w) := by simp only [dLook, h2.di, keyN, Option.map_some, look_A, hw]
      simp only [vIx, this]
    simp -dsimp [g_Incoming_state_e1, wipeE, in_ahead h2.ob, ix, hw, LL]
  · simp -dsimp [q, LL]
    exact ⟨rfl, a1.trans a2⟩
theorem in_copy_w (h : InAt S e m d A) : wO (g_Incoming_copy [.ref e] S) (fun v S' => v = .ref S.length ∧ InAt S' S.length m (S.length + 2) A ∧ Ex S S') noX := by
  have LL : LIM = 100000 := rfl
  have n1 : ¬ (("many_taken" : Str) = "ahead") := by decide
  have h1 : (S ++ [inO 0 (S.length + 1), Ob.dk []])[S.length]? = some (inO 0 (S.length + 1)) := at_new
  have a1 : Ex S (S ++ [inO 0 (S.length + 1), Ob.dk []]) := Ex.app
  simp -dsimp [wO_fnB, g_Incoming_copy, g_Incoming_copy_s, in_make, in_taken (a1.at h.ob), wR_sFldS]
  rw [wR_kFld h1 (by simp) (by simp)]
  simp -dsimp [putS]
  have a2 : Ex S (S ++ [inO m (S.length + 1), Ob.dk []]) := Ex.app
  have di2 := a2.at h.di
  have ob2 := a2.at h.ob
  simp -dsimp [inO] at ob2 di2
  have ah := in_ahead ob2
  unfold natV
  simp -dsimp [wR_sFldS, ah, wO_dictC di2]
  have h2 : (S ++ [inO m (S.length + 1), Ob.dk [], .dk (kvA A)])[S.length]? = some (inO m (S.length + 1)) := at_new
  rw [wR_kFld h2 (by simp) (by simp)]
  simp -dsimp [putS, n1]
  refine ⟨⟨at_new, ?_, h.sm⟩, Ex.app⟩
  rw [at_off]; rfl
end
/-! ### the law's mind -/
structure MindAt (S : Store) (mi hd m : Nat) (A : AL) : Prop where
  mi : S[mi]? = some (.dk [(.inr "taken", natV m), (.inr "held", .ref hd)])
  di : S[hd]? = some (.dk (kvA A))
  sm : A.length ≤ 50000
theorem MindAt.ex {S S' : Store} {mi hd m : Nat} {A : AL} (h : MindAt S mi hd m A) (a : Ex S S') : MindAt S' mi hd m A := ⟨a.at h.mi, a.at h.di, h.sm⟩
section
variable {S S' : Store} {mi hd m k : Nat} {A : AL} {v : Val} {P : Val → Store → Prop} {E : XO}
theorem mind_taken (h : MindAt S mi hd m A) : wO (vIx (.ref mi) (.str "taken") S) P E = P (natV m) S := by
  have : dLook S (.ref mi) (.str "taken") = some (some (natV m)) := by simp only [dLook, h.mi, keyOf, Option.map_some]; rfl
  simp only [vIx, this]; rfl
theorem mind_held (h : MindAt S mi hd m A) : wO (vIx (.ref mi) (.str "held") S) P E = P (.ref hd) S := by
  have : dLook S (.ref mi) (.str "held") = some (some (.ref hd)) := by
    simp only [dLook, h.mi, keyOf, Option.map_some, lookK]
    have n1 : ¬ ((Sum.inr ("taken" : Str) : Key) = Sum.inr ("held" : Str)) := by decide
    simp [n1]
  simp only [vIx, this]; rfl
theorem mind_set (h : MindAt S mi hd m A) {S1 : Store} (h1 : S1[mi]? = some (.dk [(.inr "taken", natV m), (.inr "held", .ref hd)])) (j : Val) : putIx (.ref mi) (.str "taken") j S1 = some (S1.set mi (.dk [(.inr "taken", j), (.inr "held", .ref hd)])) := by
  have n1 : ¬ ((Sum.inr ("held" : Str) : Key) = Sum.inr ("taken" : Str)) := by decide
  simp only [putIx, h1, keyOf, Option.bind_some]
  have l : ([(Sum.inr ("taken" : Str), natV m), (Sum.inr "held", Val.ref hd)] : List (Key × Val)).length < LIM := by show 2 < 100000; omega
  rw [if_pos l]
  simp [putD, n1]
noncomputable def heardRest : En → Store → Res := sSeq (sSet 4 (eLst aNil)) (sSeq (sFor (iR1 (aCons (eB2 vAdd (eCall fLen (aCons (eB2 vIx (eV 0) (eC (.str "held"))) aNil)) (eC (.int 1))) aNil)) (gN 5) g_law_heard_b1) (sRet (eV 4)))
theorem heard_s_eq : g_law_heard_s = sSeq (sIf (bAnd (bV (eB2 vLe (eB2 vIx (eV 0) (eC (.str "taken"))) (eV 1))) (bAnd (bV (eB2 vLt (eV 1) (eB2 vAdd (eB2 vIx (eV 0) (eC (.str "taken"))) (eC (.int 1000))))) (bV (eB2 (vIn true) (eV 1) (eB2 vIx (eV 0) (eC (.str "held"))))))) (sSeq (sSet 3 (eB2 vIx (eV 0) (eC (.str "held")))) (sPutIx (eV 2) (eV 3) (eV 1))) sNil) heardRest := rfl
theorem heard_rest {R : RP} {x1 x2 x3 x4 x5 : Option Val} (h : MindAt S mi hd m A) (hl : A.length ≤ 40000)
    (K : ∀ f S', S.length ≤ f → S'[f]? = some (.lst (pops A.length m A).1) → MindAt S' mi hd (pops A.length m A).2.1 (pops A.length m A).2.2 → KeepL [mi, hd] S S' → R.rt (.ref f) S') :
    wR (heardRest [some (.ref mi), x1, x2, x3, x4, x5] S) R := by
  have LL : LIM = 100000 := rfl
  have nmh : mi ≠ hd := fun z => by
    have := h.mi; rw [z, h.di] at this
    simp only [Option.some.injEq, Ob.dk.injEq, kvA] at this
    cases A with
    | nil => simp at this
    | cons p r => simp [kN] at this
  have e0 : Ex S (S ++ [Ob.lst []]) := Ex.app
  unfold heardRest
  simp -dsimp [wR_sFor, mind_held (h.ex e0), (h.ex e0).di, kvA_len]
  have hf0 : (S ++ [Ob.lst []])[S.length]? = some (.lst []) := at_new
  have k0 : KeepL [mi, hd, S.length] S (S ++ [Ob.lst []]) := KeepL.ex e0
  have h0 := h.ex e0
  have lmi := lt_at h.mi
  have lhd := lt_at h.di
  generalize hf : S.length = f at *
  generalize S ++ [Ob.lst []] = S0 at *
  have rg : RNG = 1152921504606846976 := by unfold RNG; decide
  refine ⟨⟨by omega, by omega⟩, ?_⟩
  have last : ∀ S' en, (∃ x5, en = [some (.ref mi), x1, x2, x3, some (.ref f), x5]) → (∃ acc m' A', S'[f]? = some (.lst acc) ∧ MindAt S' mi hd m' A' ∧ KeepL [mi, hd, f] S S' ∧ pops A.length m A = (acc, m', A')) → wR (sRet (eV 4) en S') R := by
    rintro S' en ⟨x5, rfl⟩ ⟨acc, m', A', q1, q2, q3, q4⟩
    simp -dsimp
    rw [q4] at K
    refine K f S' (by omega) q1 q2 ⟨q3.1, fun j o e1 n => ?_⟩
    have := lt_at e1
    exact q3.at e1 (by simp at n ⊢; omega)
  refine wR_forX (upL 0 (A.length + 1)) (fun i en S' => (∃ x5, en = [some (.ref mi), x1, x2, x3, some (.ref f), x5]) ∧ ∃ acc m' A', S'[f]? = some (.lst acc) ∧ MindAt S' mi hd m' A' ∧ KeepL [mi, hd, f] S S' ∧ acc.length + A'.length ≤ A.length ∧ i ≤ acc.length ∧
    ∃ g, A'.length ≤ g ∧ pops A.length m A = (acc ++ (pops g m' A').1, (pops g m' A').2)) ⟨⟨_, rfl⟩, [], m, A, hf0, h0, k0, by simp, by simp, A.length, Nat.le_refl _, by simp⟩ (fun i x en S1 hx hI => ?_) fun en S1 hI => ?_
  · obtain ⟨⟨x5, rfl⟩, acc, m', A', q1, q2, q3, q4, q5, g, hg, hp⟩ := hI
    refine ⟨trivial, _, rfl, ?_⟩
    simp -dsimp [g_law_heard_b1, mind_taken q2, mind_held q2, isIn_A q2.di]
    cases c : getA A' m' with
    | none =>
      simp -dsimp
      rw [pops_none c] at hp
      have := last S1 [some (.ref mi), x1, x2, x3, some (.ref f), some x] ⟨_, rfl⟩ ⟨acc, m', A', q1, q2, q3, by rw [hp]; simp⟩
      simpa -dsimp using this
    | some v =>
      have lt := delA_lt c
      obtain ⟨g, rfl⟩ : ∃ g', g = g' + 1 := ⟨g - 1, by omega⟩
      rw [pops_some c] at hp
      have la2 : acc.length < LIM := by omega
      have lf : f < S1.length := lt_at q1
      have lm : mi < S1.length := lt_at q2.mi
      have lh : hd < S1.length := lt_at q2.di
      have nmf : mi ≠ f := fun z => by have := q2.mi; rw [z, q1] at this; cases this
      have nhf : hd ≠ f := fun z => by have := q2.di; rw [z, q1] at this; cases this
      simp -dsimp [q1, mind_held q2, mind_taken q2, isDct_dk q2.di, dPop_A q2.di c]
      have hf2 : (S1.set hd (.dk (kvA (delA A' m'))))[f]? = some (.lst acc) := by rw [List.getElem?_set_ne nhf]; exact q1
      simp -dsimp [hf2, la2]
      have mi2 : ((S1.set hd (.dk (kvA (delA A' m')))).set f (.lst (acc ++ [v])))[mi]? = some (.dk [(.inr "taken", natV m'), (.inr "held", .ref hd)]) := by
        rw [List.getElem?_set_ne (Ne.symm nmf), List.getElem?_set_ne (Ne.symm nmh)]; exact q2.mi
      have di2 : ((S1.set hd (.dk (kvA (delA A' m')))).set f (.lst (acc ++ [v])))[hd]? = some (.dk (kvA (delA A' m'))) := by
        rw [List.getElem?_set_ne (Ne.symm nhf)]; exact at_set lh
      have hf3 : ((S1.set hd (.dk (kvA (delA A' m')))).set f (.lst (acc ++ [v])))[f]? = some (.lst (acc ++ [v])) := at_set (by simp; omega)
      have kp2 : KeepL [mi, hd, f] S ((S1.set hd (.dk (kvA (delA A' m')))).set f (.lst (acc ++ [v]))) := (q3.setAt (.inl (by simp))).setAt (.inl (by simp))
      generalize (S1.set hd (.dk (kvA (delA A' m')))).set f (.lst (acc ++ [v])) = S2 at *
      have q22 : MindAt S2 mi hd m' (delA A' m') := ⟨mi2, di2, by have := q2.sm; omega⟩
      have pm := mind_set (S := S2) q22 mi2 (.int ((m' : Int) + 1))
      have eN : natV m' = .int (m' : Int) := rfl
      simp -dsimp [mind_taken q22]
      rw [eN]
      simp -dsimp [pm]
      refine ⟨acc ++ [v], by rw [List.getElem?_set_ne nmf]; exact hf3, m' + 1, delA A' m', ⟨at_set (lt_at mi2), by rw [List.getElem?_set_ne nmh]; exact di2, q22.sm⟩, kp2.setAt (.inl (by simp)), by simp; omega, by simp; omega, g, by omega, by rw [hp]; simp⟩
  · obtain ⟨⟨x5, rfl⟩, acc, m', A', q1, q2, q3, q4, q5, g, hg, hp⟩ := hI
    rw [upL_len] at q5
    omega
theorem heard_w (h : MindAt S mi hd m A) (hl : A.length ≤ 30000)
    (K : ∀ f S', S.length ≤ f → S'[f]? = some (.lst (pops (addA m k v A).length m (addA m k v A)).1) → MindAt S' mi hd (pops (addA m k v A).length m (addA m k v A)).2.1 (pops (addA m k v A).length m (addA m k v A)).2.2 → KeepL [mi, hd] S S' → P (.ref f) S') : wO (g_law_heard [.ref mi, natV k, v] S) P E := by
  have LL : LIM = 100000 := rfl
  have la := addA_len (m := m) (k := k) (v := v) (A := A)
  have lt : A.length < LIM := by omega
  have nmh : hd ≠ mi := fun z => by
    have := h.mi; rw [← z, h.di] at this
    simp only [Option.some.injEq, Ob.dk.injEq, kvA] at this
    cases A with
    | nil => simp at this
    | cons p r => simp [kN] at this
  have rest : ∀ S1 x1 x2 x3 x4 x5, MindAt S1 mi hd m (addA m k v A) → KeepL [mi, hd] S S1 → wR (heardRest [some (.ref mi), x1, x2, x3, x4, x5] S1) ⟨fun _ S1 => P .non S1, P, fun _ _ => False, fun _ _ => False, fun c fs _ S1 => E c fs S1⟩ := fun S1 x1 x2 x3 x4 x5 h1 kp =>
    heard_rest h1 (by omega) fun f S' z1 z2 z3 z4 => K f S' (Nat.le_trans kp.1 z1) z2 z3 (kp.trans z4)
  have inA := isIn_A (k := k) h.di
  have rest0 : addA m k v A = A → ∀ x3 x4 x5, wR (heardRest [some (.ref mi), some (natV k), some v, x3, x4, x5] S) ⟨fun _ S1 => P .non S1, P, fun _ _ => False, fun _ _ => False, fun c fs _ S1 => E c fs S1⟩ := fun q x3 x4 x5 => rest S _ _ _ _ _ (by rw [q]; exact h) KeepL.refl
  have rest1 : addA m k v A = putA A k v → ∀ x3 x4 x5, wR (heardRest [some (.ref mi), some (natV k), some v, x3, x4, x5] (S.set hd (.dk (kvA (putA A k v))))) ⟨fun _ S1 => P .non S1, P, fun _ _ => False, fun _ _ => False, fun c fs _ S1 => E c fs S1⟩ := fun q x3 x4 x5 =>
    rest _ _ _ _ _ _ (by rw [q] at la ⊢; exact ⟨by rw [List.getElem?_set_ne nmh]; exact h.mi, at_set (lt_at h.di), by omega⟩) (KeepL.set (by simp))
  clear K rest
  generalize hA : addA m k v A = A1 at *
  unfold addA at hA
  have e1 : g_law_heard = fnB 6 3 g_law_heard_s := rfl
  rw [e1, heard_s_eq]
  generalize heardRest = T at *
  have v1 : vLe (natV m) (natV k) S = .ok (.bl (decide ((m : Int) ≤ k))) S := rfl
  have v2 : vAdd (natV m) (.int 1000) S = .ok (.int ((m : Int) + 1000)) S := rfl
  have v3 : vLt (natV k) (.int ((m : Int) + 1000)) S = .ok (.bl (decide ((k : Int) < (m : Int) + 1000))) S := rfl
  simp -dsimp [wO_fnB, mind_taken h, v1]
  by_cases d1 : m ≤ k
  · have d1' : (m : Int) ≤ (k : Int) := by omega
    simp -dsimp [d1, mind_taken h, v2, v3]
    by_cases d2 : k < m + 1000
    · have d2' : (k : Int) < (m : Int) + 1000 := by omega
      simp -dsimp [d2', mind_held h, inA]
      cases c : getA A k with
      | none =>
        simp -dsimp [mind_held h, h.di, keyN, kvA_len, lt, put_A]
        refine rest1 ?_ _ _ _
        rw [← hA, if_pos ⟨d1, d2, c⟩]
      | some w =>
        simp -dsimp
        refine rest0 ?_ _ _ _
        rw [← hA, if_neg]
        rw [c]; simp
    · have d2' : ¬ (k : Int) < (m : Int) + 1000 := by omega
      simp -dsimp [d2']
      refine rest0 ?_ _ _ _
      rw [← hA, if_neg (by omega)]
  · have d1' : ¬ (m : Int) ≤ (k : Int) := by omega
    simp -dsimp [d1]
    refine rest0 ?_ _ _ _
    rw [← hA, if_neg (by omega)]
end
end K30

set_option Elab.async false
set_option linter.all false
set_option maxRecDepth 100000
set_option maxHeartbeats 4000000
namespace K30
open PySem PySem.Spec PyProof.Rows L2 Mp
/-! ### the law's sameness -/
theorem same_loop {d : Nat} {S0 S : Store} {xs : List Val} {x0 x1 x2 x3 : Option Val} {ck : Store → Prop} {R : RP} (a : Ex S0 S) (hck : ∀ S', Ex S0 S' → ck S') (hr : ∀ S' y, y ∈ xs → Pu (g_law_same d [y, y] S') S' (.bl true))
    (K : ∀ S' x2 x3, Ex S0 S' → R.nx [x0, x1, x2, x3] S') : wR (forX ck (gT 2 (gCo (gN 2) (gCo (gN 3) gNo))) (g_law_same_b1 (g_law_same d)) (zipL xs xs) [x0, x1, x2, x3] S) R := by
  refine wR_forX (zipL xs xs) (fun i e S' => (∃ o2 o3, e = [x0, x1, o2, o3]) ∧ Ex S0 S') ⟨⟨_, _, rfl⟩, a⟩ (fun i x e S' hx hI => ?_) fun e S' hI => ?_
  · obtain ⟨⟨o2, o3, rfl⟩, a⟩ := hI
    rw [zipL_get] at hx
    obtain ⟨y, hy, hx⟩ := Option.bind_eq_some_iff.mp hx
    obtain ⟨z, hz, rfl⟩ := Option.map_eq_some_iff.mp hx
    rw [hy] at hz
    cases hz
    refine ⟨hck _ a, _, rfl, ?_⟩
    simp -dsimp [g_law_same_b1]
    refine (hr S' y (List.mem_of_getElem? hy)).wk fun S2 a2 => ?_
    simp -dsimp
    exact a.trans a2
  · obtain ⟨⟨o2, o3, rfl⟩, a⟩ := hI
    exact ⟨hck _ a, K S' _ _ a⟩
theorem same_clb : ∀ (d : Nat) (S : Store) (v : Val), clb v = true → dep v < d → d ≤ 64 → Pu (g_law_same d [v, v] S) S (.bl true)
  | 0, _, _, _, h, _ => absurd h (Nat.not_lt_zero _)
  | d + 1, S, v, hc, hd, h64 => by
    refine Pu.of ?_
    have eg : g_law_same (d + 1) = fnB 4 2 (g_law_same_s (g_law_same d)) := rfl
    have ee : eqv1 S v v = some true := eqv1_self hc (by omega)
    cases v with
    | non => simp [eg, wO_fnB, g_law_same_s, isV]
    | bl b => cases b <;> simp [eg, wO_fnB, g_law_same_s, isV]
    | int i => simp [eg, wO_fnB, g_law_same_s, isV, tyOf, tyNames, subTy, is_integer_eq (fit_int _), intB]
    | str s => simp [eg, wO_fnB, g_law_same_s, isV, tyOf, tyNames, subTy, ee]
    | tup xs =>
      simp -dsimp [eg, wO_fnB, g_law_same_s, isV, tyOf, tyNames, subTy, eqv1_bl, wR_sFor, wO_iZip2T, kZip]
      rw [clb_tup, clbs_iff] at hc
      refine same_loop Ex.refl (fun _ _ => trivial) (fun S' y hy => same_clb d S' y (hc y hy) (by have := dep_mem hy; simp at hd; omega) (by omega)) fun S' x2 x3 a => ?_
      simp -dsimp
      exact isP_ex a
    | _ => simp [clb] at hc
theorem same_lists {d a b : Nat} {S : Store} {xs : List Val} (ha : S[a]? = some (.lst xs)) (hb : S[b]? = some (.lst xs)) (hc : clbs xs = true) (hd : deps xs < d) (h64 : d ≤ 64) : Pu (g_law_same (d + 1) [.ref a, .ref b] S) S (.bl true) := by
  refine Pu.of ?_
  have eg : g_law_same (d + 1) = fnB 4 2 (g_law_same_s (g_law_same d)) := rfl
  have ta : tyOf S (.ref a) = some "list" := by simp [tyOf, ha]
  have tb : tyOf S (.ref b) = some "list" := by simp [tyOf, hb]
  simp -dsimp [eg, wO_fnB, g_law_same_s, isV, ta, tb, tyNames, subTy, eqv1_bl, wR_sFor, wO_iZip2T, kZip, ha, hb, walkOf_at ha, walkOf_at hb]
  rw [clbs_iff] at hc
  refine same_loop Ex.refl (fun S' x => ⟨x.at ha, x.at hb⟩) (fun S' y hy => same_clb d S' y (hc y hy) (by have := dep_mem hy; omega) (by omega)) fun S' x2 x3 a => ?_
  simp -dsimp
  exact isP_ex a
/-! ### drawn things -/
theorem Hand.set_gt {S : Store} {h n wl : Nat} {o : Ob} (H : Hand S h n) (hw : h < wl) : Hand (S.set wl o) h n := by
  obtain ⟨m, cells, i, big, mix, cnt, e1, e2, ne, b0, m0, m1, c0, mh⟩ := H.ex
  exact ⟨m, cells, i, big, mix, cnt, by rw [List.getElem?_set_ne (by omega)]; exact e1, by rw [List.getElem?_set_ne (by omega)]; exact e2, ne, b0, m0, m1, c0, mh⟩
def cost : Nat → Nat
  | 0 => 6
  | d + 1 => 3 * cost d
theorem cost_ge : ∀ d, 6 ≤ cost d
  | 0 => by decide
  | d + 1 => by have := cost_ge d; simp only [cost]; omega
theorem item_ok : ∀ (f d : Nat) (S : Store) (h n : Nat), d < f → Hand S h n → n + cost d ≤ 900000000 → d ≤ 4 →
    wO (g_law_item f [.ref h, natV d] S) (fun v S' => clb v = true ∧ dep v ≤ d ∧ Hand S' h (n + cost d) ∧ Grow h S S') noX
  | 0, _, _, _, _, z, _, _, _ => absurd z (Nat.not_lt_zero _)
  | f + 1, d, S, h, n, hf, H, hn, hd => by
    have LL : LIM = 100000 := rfl
    have eg : g_law_item (f + 1) = fnB 4 2 (g_law_item_s (g_law_item f)) := rfl
    have c6 := cost_ge d
    have cd : cost d ≤ 6 * 81 := by
      rcases (show d = 0 ∨ d = 1 ∨ d = 2 ∨ d = 3 ∨ d = 4 by omega) with rfl | rfl | rfl | rfl | rfl <;> decide
    simp -dsimp [eg, wO_fnB, g_law_item_s, natV]
    refine (take_ok (many := 8) H (by omega) (by omega) (by omega)).imp fun v S1 z => ?_
    obtain ⟨w, rfl, hw, H1, s1⟩ := z
    have g1 := s1.grow
    simp -dsimp
    have rest : (¬ (w = 0 ∧ 0 < d)) → wR (sSeq (sIf (bV (eB2 vLt (eV 2) (eC (.int 3)))) (sRet (eB2 vIx (eLst (aCons (eC .non) (aCons (eC (.bl true)) (aCons (eC (.bl false)) (aCons (eC (.str "")) (aCons (eC (.str "task")) (aCons (eC (.str "answer")) aNil))))))) (eCall g_law_take (aCons (eV 0) (aCons (eC (.int 6)) aNil))))) sNil) (sRet (eCall g_law_pick (aCons (eV 0) (aCons (eLst (aCons (eCall g_law_take (aCons (eV 0) (aCons (eC (.int 9)) aNil))) (aCons (eCall g_law_take (aCons (eV 0) (aCons (eB2 vPow (eC (.int 10)) (eC (.int 6))) aNil))) (aCons (eB2 vSub (eNeg (eC (.int 1))) (eCall g_law_take (aCons (eV 0) (aCons (eC (.int 9)) aNil)))) (aCons (eB2 vPow (eC (.int 10)) (eC (.int 19))) aNil))))) aNil))))
        [some (.ref h), some (.int (d : Int)), some (.int (w : Int)), none] S1) ⟨fun _ S' => False, fun v S' => clb v = true ∧ dep v ≤ d ∧ Hand S' h (n + cost d) ∧ Grow h S S', fun _ _ => False, fun _ _ => False, fun _ _ _ _ => False⟩ := fun c0 => by
      have cp6 : CP 10 6 := ⟨by decide, by decide, by decide⟩
      have cp19 : CP 10 19 := ⟨by decide, by decide, by decide⟩
      by_cases c3 : w < 3
      · have c3' : (w : Int) < 3 := by omega
        simp -dsimp [c3', LL]
        have H2 := H1.app [.lst [.non, .bl true, .bl false, .str "", .str "task", .str "answer"]]
        have l1 : (S1 ++ [Ob.lst [.non, .bl true, .bl false, .str "", .str "task", .str "answer"]])[S1.length]? = some (.lst [.non, .bl true, .bl false, .str "", .str "task", .str "answer"]) := at_new
        have lh := H1.lt
        refine (take_ok (many := 6) H2 (by omega) (by omega) (by omega)).imp fun v S2 z => ?_
        obtain ⟨u, rfl, hu, H3, s3⟩ := z
        have l2 := (s3.2 S1.length (by omega)).trans l1
        have gg := g1.trans ((Grow.app _).trans s3.grow)
        rcases (show u = 0 ∨ u = 1 ∨ u = 2 ∨ u = 3 ∨ u = 4 ∨ u = 5 by omega) with rfl | rfl | rfl | rfl | rfl | rfl <;> simp -dsimp [l2] <;> first | exact ⟨H3.more (by omega), gg⟩ | exact ⟨by simp only [clb]; decide +kernel, H3.more (by omega), gg⟩
      · have c3' : ¬ (w : Int) < 3 := by omega
        simp -dsimp [c3']
        refine (take_ok (many := 9) H1 (by omega) (by omega) (by omega)).imp fun v S2 z => ?_
        obtain ⟨u1, rfl, hu1, H2, s2⟩ := z
        simp -dsimp
        refine ⟨cp6, ?_⟩
        refine (take_ok (many := 1000000) H2 (by omega) (by omega) (by omega)).imp fun v S3 z => ?_
        obtain ⟨u2, rfl, hu2, H3, s3⟩ := z
        simp -dsimp
        refine (take_ok (many := 9) H3 (by omega) (by omega) (by omega)).imp fun v S4 z => ?_
        obtain ⟨u3, rfl, hu3, H4, s4⟩ := z
        simp -dsimp [LL]
        refine ⟨cp19, ?_⟩
        have lh := H4.lt
        refine (pick_ok (H4.app _) (by omega) at_new (by omega) (by simp) (by simp)).imp fun v S5 z => ?_
        obtain ⟨hv, H5, s5⟩ := z
        have gg := ((((g1.trans s2.grow).trans s3.grow).trans s4.grow).trans (Grow.app _)).trans s5.grow
        simp at hv
        rcases hv with rfl | rfl | rfl | rfl <;> exact ⟨by simp, by simp, H5.more (by omega), gg⟩
    by_cases c0 : w = 0 ∧ 0 < d
    · obtain ⟨rfl, hd0⟩ := c0
      clear rest
      obtain ⟨d, rfl⟩ : ∃ d', d = d' + 1 := ⟨d - 1, by omega⟩
      have i0 : (0 : Int) < ((d + 1 : Nat) : Int) := by omega
      have i1 : ((d + 1 : Nat) : Int) - 1 = d := by omega
      have ce : cost (d + 1) = 3 * cost d := rfl
      have cg := cost_ge d
      simp -dsimp [wO_lc]
      refine (take_ok (many := 3) H1 (by omega) (by omega) (by omega)).imp fun v S2 z => ?_
      obtain ⟨u, rfl, hu, H2, s2⟩ := z
      have rg : RNG = 1152921504606846976 := by unfold RNG; decide
      have lh := H2.lt
      have g2 := g1.trans s2.grow
      simp -dsimp
      refine ⟨⟨by omega, by omega⟩, ?_⟩
      have H3 := H2.app [.lst []]
      refine wO_lcI (upL 0 u) (fun i acc S' => Hand S' h (n + 2 + i * cost d) ∧ Grow h S S' ∧ S'[S2.length]? = some (.lst acc) ∧ acc.length = i ∧ clbs acc = true ∧ deps acc ≤ d) ⟨by simpa using H3, g2.trans (Grow.app _), at_new, rfl, by simp, by simp⟩ (fun i x acc S' hx hI => ?_) fun acc S' hI => ?_
      · obtain ⟨q1, q2, q3, q4, q5, q6⟩ := hI
        obtain ⟨hi, rfl⟩ := rng_get hx
        refine ⟨trivial, _, rfl, ?_⟩
        have hb : i * cost d ≤ 1 * cost d := Nat.mul_le_mul_right _ (by omega)
        simp -dsimp [bYes, g_law_item_e1, wipeE]
        refine (item_ok f d S' h _ (by omega) q1 (by omega) (by omega)).imp fun v S4 z => ?_
        obtain ⟨z1, z2, z3, z4⟩ := z
        have l4 := z4.at q3 (by omega)
        refine ⟨l4, by omega, ?_, Grow.setD (q2.trans z4) g2.1, at_set (lt_at l4), by simp [q4], ?_, ?_⟩
        · refine (z3.set_gt (by omega)).more ?_
          rw [Nat.add_mul]; omega
        · rw [clbs_iff] at q5 ⊢
          intro y hy
          rcases List.mem_append.mp hy with hy | hy
          · exact q5 y hy
          · simp at hy; subst hy; exact z1
        · refine deps_le fun y hy => ?_
          rcases List.mem_append.mp hy with hy | hy
          · exact Nat.le_trans (dep_mem hy) q6
          · simp at hy; subst hy; exact z2
      · obtain ⟨q1, q2, q3, q4, q5, q6⟩ := hI
        rw [upL_len] at q1 q4
        have hb : u * cost d ≤ 2 * cost d := Nat.mul_le_mul_right _ (by omega)
        simp -dsimp [q3]
        exact ⟨q5, by omega, q1.more (by omega), q2⟩
    · have := rest c0
      by_cases c1 : w = 0
      · have c2 : ¬ 0 < d := fun z => c0 ⟨c1, z⟩
        subst c1
        simp -dsimp [c2] at this ⊢
        simpa -dsimp using this
      · simp -dsimp [c1] at this ⊢
        simpa -dsimp using this
theorem thing_ok {S : Store} {h n : Nat} (H : Hand S h n) (hn : n ≤ 800000000) :
    wO (g_law_thing [.ref h] S) (fun v S' => ∃ xs, v = .tup xs ∧ clbs xs = true ∧ deps xs ≤ 3 ∧ Hand S' h (n + 500) ∧ Grow h S S') noX := by
  have LL : LIM = 100000 := rfl
  have c3 : cost 3 = 162 := by decide
  simp -dsimp [wO_fnB, g_law_thing, g_law_thing_s, wO_lc]
  refine (take_ok (many := 4) H (by omega) (by omega) (by omega)).imp fun v S2 z => ?_
  obtain ⟨u, rfl, hu, H2, s2⟩ := z
  have rg : RNG = 1152921504606846976 := by unfold RNG; decide
  have lh := H2.lt
  have g2 := s2.grow
  simp -dsimp
  refine ⟨⟨by omega, by omega⟩, ?_⟩
  have H3 := H2.app [.lst []]
  refine wO_lcI (upL 0 u) (fun i acc S' => Hand S' h (n + 1 + i * 162) ∧ Grow h S S' ∧ S'[S2.length]? = some (.lst acc) ∧ acc.length = i ∧ clbs acc = true ∧ deps acc ≤ 3) ⟨by simpa using H3, g2.trans (Grow.app _), at_new, rfl, by simp, by simp⟩ (fun i x acc S' hx hI => ?_) fun acc S' hI => ?_
  · obtain ⟨q1, q2, q3, q4, q5, q6⟩ := hI
    obtain ⟨hi, rfl⟩ := rng_get hx
    refine ⟨trivial, _, rfl, ?_⟩
    simp -dsimp [bYes, g_law_thing_e1, wipeE]
    refine (item_ok 5 3 S' h _ (by omega) q1 (by omega) (by omega)).imp fun v S4 z => ?_
    obtain ⟨z1, z2, z3, z4⟩ := z
    have l4 := z4.at q3 (by omega)
    refine ⟨l4, by omega, ?_, Grow.setD (q2.trans z4) g2.1, at_set (lt_at l4), by simp [q4], ?_, ?_⟩
    · refine (z3.set_gt (by omega)).more ?_
      omega
    · rw [clbs_iff] at q5 ⊢
      intro y hy
      rcases List.mem_append.mp hy with hy | hy
      · exact q5 y hy
      · simp at hy; subst hy; exact z1
    · refine deps_le fun y hy => ?_
      rcases List.mem_append.mp hy with hy | hy
      · exact Nat.le_trans (dep_mem hy) q6
      · simp at hy; subst hy; exact z2
  · obtain ⟨q1, q2, q3, q4, q5, q6⟩ := hI
    rw [upL_len] at q1 q4
    simp -dsimp [q3]
    exact ⟨q5, by omega, q1.more (by omega), q2⟩
end K30

set_option Elab.async false
set_option linter.all false
set_option maxRecDepth 100000
set_option maxHeartbeats 4000000
namespace K30
open PySem PySem.Spec PyProof.Rows L2 Mp
/-! ### what stands ahead is of the things -/
structure AInv (ts : List Val) (m : Nat) (A : AL) : Prop where
  nd : (A.map (·.1)).Nodup
  el : ∀ p ∈ A, m ≤ p.1 ∧ ts[p.1]? = some p.2
theorem AInv.len {ts : List Val} {m : Nat} {A : AL} (h : AInv ts m A) : A.length ≤ ts.length := by
  have := Gr.nodup_bound (n := ts.length) h.nd fun x hx => by
    obtain ⟨p, hp, rfl⟩ := List.mem_map.mp hx
    exact (List.getElem?_eq_some_iff.mp (h.el p hp).2).1
  simpa using this
theorem AInv.add {ts : List Val} {m k : Nat} {v : Val} {A : AL} (h : AInv ts m A) (hv : ts[k]? = some v) : AInv ts m (addA m k v A) := by
  unfold addA
  split
  · rename_i c
    refine ⟨putA_nodup h.nd, fun p hp => ?_⟩
    rcases mem_putA hp with rfl | ⟨hp, _⟩
    · exact ⟨c.1, hv⟩
    · exact h.el p hp
  · exact h
theorem pops_good {ts : List Val} : ∀ (f m : Nat) (A : AL), AInv ts m A → A.length ≤ f → m ≤ ts.length →
    ts.take m ++ (pops f m A).1 = ts.take (pops f m A).2.1 ∧ m ≤ (pops f m A).2.1 ∧ (pops f m A).2.1 ≤ ts.length ∧ AInv ts (pops f m A).2.1 (pops f m A).2.2
  | 0, m, A, h, hl, hm => ⟨by simp [pops], Nat.le_refl _, hm, h⟩
  | f + 1, m, A, h, hl, hm => by
    cases c : getA A m with
    | none => rw [pops_none c]; exact ⟨by simp, Nat.le_refl _, hm, h⟩
    | some v =>
      rw [pops_some c]
      have hv := (h.el _ (getA_mem c)).2
      have lt := delA_lt c
      have hmn : m < ts.length := (List.getElem?_eq_some_iff.mp hv).1
      have h1 : AInv ts (m + 1) (delA A m) := ⟨delA_nodup h.nd, fun p hp => by
        obtain ⟨hp, hn⟩ := mem_delA.mp hp
        have := (h.el p hp).1
        exact ⟨by omega, (h.el p hp).2⟩⟩
      obtain ⟨i1, i2, i3, i4⟩ := pops_good f (m + 1) (delA A m) h1 (by omega) (by omega)
      refine ⟨?_, by simp only []; omega, i3, i4⟩
      have tk : ts.take (m + 1) = ts.take m ++ [v] := by rw [List.take_succ, hv]; rfl
      rw [← i1, tk]; simp
structure Ok (ts : List Val) (g m : Nat) (A : AL) : Prop where
  len : ts.length ≤ 30
  gm : g ≤ m
  mn : m ≤ ts.length
  cl : clbs ts = true
  dp : deps ts ≤ 4
  inv : AInv ts m A
  no : getA A m = none
theorem Ok.small {ts : List Val} {g m : Nat} {A : AL} (h : Ok ts g m A) : A.length ≤ 30 := Nat.le_trans h.inv.len h.len
/-- one heard: the things taken, the new state -/
theorem Ok.take {ts : List Val} {g m k : Nat} {v : Val} {A : AL} (h : Ok ts g m A) (hv : ts[k]? = some v) :
    ts.take m ++ (pops (addA m k v A).length m (addA m k v A)).1 = ts.take (pops (addA m k v A).length m (addA m k v A)).2.1 ∧ m ≤ (pops (addA m k v A).length m (addA m k v A)).2.1 ∧
    Ok ts g (pops (addA m k v A).length m (addA m k v A)).2.1 (pops (addA m k v A).length m (addA m k v A)).2.2 := by
  obtain ⟨i1, i2, i3, i4⟩ := pops_good (addA m k v A).length m (addA m k v A) (h.inv.add hv) (Nat.le_refl _) h.mn
  exact ⟨i1, i2, h.len, Nat.le_trans h.gm i2, i3, h.cl, h.dp, i4, pops_end (Nat.le_refl _)⟩
theorem Ok.put {ts : List Val} {g m : Nat} {v : Val} {A : AL} (h : Ok ts g m A) (hl : ts.length < 30) (hc : clb v = true) (hd : dep v ≤ 4) : Ok (ts ++ [v]) g m A := by
  refine ⟨by simp; omega, h.gm, by have := h.mn; simp; omega, ?_, ?_, ⟨h.inv.nd, fun p hp => ?_⟩, h.no⟩
  · rw [clbs_iff]
    intro y hy
    rcases List.mem_append.mp hy with hy | hy
    · exact clbs_iff.mp h.cl y hy
    · simp at hy; subst hy; exact hc
  · refine deps_le fun y hy => ?_
    rcases List.mem_append.mp hy with hy | hy
    · exact Nat.le_trans (dep_mem hy) h.dp
    · simp at hy; subst hy; exact hd
  · obtain ⟨h1, h2⟩ := h.inv.el p hp
    exact ⟨h1, by rw [List.getElem?_append_left (List.getElem?_eq_some_iff.mp h2).1]; exact h2⟩
theorem waitL_cl {g : Nat} {xs : List Val} (h : clbs xs = true) : clbs (waitL g xs) = true := by
  rw [clbs_iff] at h ⊢
  intro y hy
  obtain ⟨i, hi⟩ := List.mem_iff_getElem?.mp hy
  unfold waitL at hi
  rw [List.getElem?_mapIdx] at hi
  obtain ⟨z, hz, rfl⟩ := Option.map_eq_some_iff.mp hi
  have := h z (List.mem_of_getElem? hz)
  simp [this]
theorem waitL_dp {g n : Nat} {xs : List Val} (h : deps xs ≤ n) : deps (waitL g xs) ≤ n + 1 := by
  refine deps_le fun y hy => ?_
  obtain ⟨i, hi⟩ := List.mem_iff_getElem?.mp hy
  unfold waitL at hi
  rw [List.getElem?_mapIdx] at hi
  obtain ⟨z, hz, rfl⟩ := Option.map_eq_some_iff.mp hi
  have := dep_mem (List.mem_of_getElem? hz)
  simp; omega
theorem clbs_drop {g : Nat} {xs : List Val} (h : clbs xs = true) : clbs (xs.drop g) = true := by
  rw [clbs_iff] at h ⊢
  exact fun y hy => h y (List.mem_of_mem_drop hy)
theorem clbs_take {g : Nat} {xs : List Val} (h : clbs xs = true) : clbs (xs.take g) = true := by
  rw [clbs_iff] at h ⊢
  exact fun y hy => h y (List.mem_of_mem_take hy)
theorem deps_drop {g n : Nat} {xs : List Val} (h : deps xs ≤ n) : deps (xs.drop g) ≤ n := deps_le fun y hy => Nat.le_trans (dep_mem (List.mem_of_mem_drop hy)) h
theorem deps_take {g n : Nat} {xs : List Val} (h : deps xs ≤ n) : deps (xs.take g) ≤ n := deps_le fun y hy => Nat.le_trans (dep_mem (List.mem_of_mem_take hy)) h
/-- both ends and the law's account -/
structure Ends (S : Store) (o t e d th mi hd : Nat) (ts : List Val) (g m : Nat) (A : AL) : Prop where
  out : OutAt S o g t (ts.drop g)
  inc : InAt S e m d A
  lis : S[th]? = some (.lst ts)
  mind : MindAt S mi hd m A
  ok : Ok ts g m A
theorem Ends.ex {S S' : Store} {o t e d th mi hd : Nat} {ts : List Val} {g m : Nat} {A : AL} (h : Ends S o t e d th mi hd ts g m A) (a : Ex S S') : Ends S' o t e d th mi hd ts g m A := ⟨h.out.ex a, h.inc.ex a, a.at h.lis, h.mind.ex a, h.ok⟩
section
variable {S : Store} {o t e d th mi hd : Nat} {ts : List Val} {g m : Nat} {A : AL}
theorem lkeys_A (h : MindAt S mi hd m A) {f : En → Store → Out Val} {env : En} {P : Val → Store → Prop} {E : XO} (hf : ∀ {P : Val → Store → Prop} {E : XO}, wO (f env S) P E = P (.ref hd) S) :
    wO (eLKeysK f env S) P E = P (.ref S.length) (S ++ [.lst ((A.map (·.1)).map natV)]) := by
  rw [wO_lkeysK, hf]
  simp only [h.di, wP_some, kvA, List.map_map]
  rfl
theorem ends_right (h : Ends S o t e d th mi hd ts g m A) : Pu (g_law_ends_right [.ref o, .ref e, .ref th, natV g, .ref mi] S) S (.bl true) := by
  have LL : LIM = 100000 := rfl
  have rg : RNG = 1152921504606846976 := by unfold RNG; decide
  have h1 := h.ok.len
  have h2 := h.ok.gm
  have h3 := h.ok.mn
  refine Pu.of ?_
  simp -dsimp [wO_fnB, g_law_ends_right, g_law_ends_right_s, wO_lc, h.lis, natV]
  refine ⟨⟨by omega, by omega⟩, ?_⟩
  rw [upL0]
  refine wO_lcN natV (fun k => .tup [.int ((g + k : Nat) : Int), (ts.drop g).getD k .non]) (by simp; omega) (fun _ _ => trivial) (fun k hk S' a => ⟨_, rfl, Pu.of ?_⟩) fun S1 a1 q => ?_
  · have hk2 : g + k < ts.length := by have := List.mem_range.mp hk; omega
    have e4 : ts[g + k]? = some ((ts.drop g).getD k .non) := by
      rw [List.getD_eq_getElem?_getD, List.getElem?_drop, List.getElem?_eq_getElem hk2]; rfl
    have e5 : atI ts ((g : Int) + (k : Int)) = some ((ts.drop g).getD k .non) := by
      rw [show (g : Int) + (k : Int) = ((g + k : Nat) : Int) from by omega, atI_cast, e4]
    generalize (ts.drop g).getD k .non = w at *
    simp -dsimp [g_law_ends_right_e1, wipeE, natV, (a.at h.lis), LL, e5]
  · have ew : (List.range (ts.length - g)).map (fun k => Val.tup [.int ((g + k : Nat) : Int), (ts.drop g).getD k .non]) = waitL g (ts.drop g) := by
      refine List.ext_getElem? fun i => ?_
      unfold waitL
      rw [List.getElem?_mapIdx, List.getElem?_map]
      by_cases hi : i < ts.length - g
      · have hi2 : i < (ts.drop g).length := by simp; omega
        rw [List.getElem?_range hi, List.getElem?_eq_getElem hi2]
        have : g + i < ts.length := by omega
        simp [List.getD_eq_getElem?_getD, this]
      · rw [List.getElem?_eq_none (by simp; omega), List.getElem?_eq_none (by simp; omega)]; rfl
    rw [ew] at q
    have x1 := h.ex a1
    simp -dsimp [wO_eMeth, out_pick x1.out.ob (n := "waiting") rfl]
    refine (waiting_ok x1.out).wk fun r S2 a2 hr lr => ?_
    simp -dsimp
    refine (same_lists (d := 19) lr (a2.at q) (waitL_cl (clbs_drop h.ok.cl)) (by have := waitL_dp (g := g) (deps_drop (g := g) h.ok.dp); omega) (by omega)).wk fun S3 a3 => ?_
    have x3 := (x1.ex a2).ex a3
    have el : (g : Int) + ((ts.length - g : Nat) : Int) = (ts.length : Int) := by omega
    simp -dsimp [wO_eMeth, out_pick x3.out.ob (n := "many_put") rfl, many_put_w x3.out, x3.lis, el]
    refine (same_clb 20 S3 (.int (ts.length : Int)) (by simp) (by simp) (by omega)).wk fun S4 a4 => ?_
    have x4 := x3.ex a4
    simp -dsimp [wO_eMeth, in_pick x4.inc.ob (n := "taken") rfl, in_taken_w x4.inc, mind_taken x4.mind]
    refine (same_clb 20 S4 (natV m) (by simp [natV]) (by simp [natV]) (by omega)).wk fun S5 a5 => ?_
    have x5 := x4.ex a5
    simp -dsimp [wO_eMeth, in_pick x5.inc.ob (n := "held") rfl]
    refine (in_held_w x5.inc).wk fun S6 a6 => ?_
    have x6 := x5.ex a6
    have sm := h.ok.small
    simp -dsimp
    rw [lkeys_A x6.mind (by intro P E; simp -dsimp [mind_held x6.mind])]
    simp -dsimp
    have q6 : (S6 ++ [Ob.lst (A.map (natV ∘ fun x => x.1))])[S6.length]? = some (.lst ((A.map (·.1)).map natV)) := by rw [List.map_map]; exact at_new
    rw [fSorted_nats q6 (by simp; omega)]
    simp -dsimp
    have cl : clb (.tup ((heldL A).map natV)) = true := by
      rw [clb_tup, clbs_iff]
      intro y hy
      obtain ⟨z, _, rfl⟩ := List.mem_map.mp hy
      simp [natV]
    have dp : dep (.tup ((heldL A).map natV)) ≤ 1 := by
      have : deps ((heldL A).map natV) ≤ 0 := deps_le fun y hy => by
        obtain ⟨z, _, rfl⟩ := List.mem_map.mp hy
        simp [natV]
      simp; omega
    refine (same_clb 20 _ (.tup ((heldL A).map natV)) cl (by omega) (by omega)).wk fun S7 a7 => ?_
    simp -dsimp
    exact isP_ex ((((((a1.trans a2).trans a3).trans a4).trans a5).trans a6).trans (Ex.app.trans a7))
end
end K30

set_option Elab.async false
set_option linter.all false
set_option maxRecDepth 100000
set_option maxHeartbeats 400000
namespace K30
open PySem PySem.Spec PyProof.Rows L2 Mp
theorem Hand.keepL {S S' : Store} {h n : Nat} {F : List Nat} (H : Hand S h n) (k : KeepL F S S') (hl : ∀ j, j ≤ h → j ∉ F) : Hand S' h n := by
  obtain ⟨m, cells, i, big, mix, cnt, e1, e2, ne, b0, m0, m1, c0, mh⟩ := H.ex
  exact ⟨m, cells, i, big, mix, cnt, k.at e1 (hl h (Nat.le_refl _)), k.at e2 (hl m (by omega)), ne, b0, m0, m1, c0, mh⟩
theorem Grow.keepL {S S' : Store} {h : Nat} (g : Grow h S S') : KeepL [h] S S' := ⟨g.1, fun j o e n => g.at e (by simpa using n)⟩
theorem set_at {S : Store} {j k : Nat} {o ob : Ob} (h : k ≠ j) (e : S[j]? = some ob) : (S.set k o)[j]? = some ob := by rw [List.getElem?_set_ne h]; exact e
/-- the places, apart from one another, all behind the hand -/
structure Pl (h o t e d th al mi hd : Nat) : Prop where
  qo : h < o
  qt : h < t
  qe : h < e
  qd : h < d
  qth : h < th
  qal : h < al
  qmi : h < mi
  qhd : h < hd
  nd : [o, t, e, d, th, al, mi, hd].Nodup
theorem Pl.ne {h o t e d th al mi hd : Nat} (p : Pl h o t e d th al mi hd) (i j : Nat) (hij : i < j ∧ j < 8 := by decide) : [o, t, e, d, th, al, mi, hd].getD i 0 ≠ [o, t, e, d, th, al, mi, hd].getD j 0 := fun z => by
  have hl : [o, t, e, d, th, al, mi, hd].length = 8 := rfl
  rw [List.getD_eq_getElem?_getD, List.getD_eq_getElem?_getD, List.getElem?_eq_getElem (by omega), List.getElem?_eq_getElem (by omega)] at z
  have := (List.getElem_inj p.nd).mp z
  omega
/-- all of the run -/
structure Run (S : Store) (h n o t e d th al mi hd : Nat) (ts : List Val) (g m : Nat) (A : AL) : Prop where
  pl : Pl h o t e d th al mi hd
  hand : Hand S h n
  en : Ends S o t e d th mi hd ts g m A
  all : S[al]? = some (.lst (ts.take m))
section
variable {S S' : Store} {h n o t e d th al mi hd : Nat} {ts : List Val} {g m : Nat} {A : AL}
theorem Run.ex (r : Run S h n o t e d th al mi hd ts g m A) (a : Ex S S') : Run S' h n o t e d th al mi hd ts g m A := by
  obtain ⟨T, rfl⟩ := a
  exact ⟨r.pl, r.hand.app T, r.en.ex ⟨T, rfl⟩, at_app r.all T⟩
/-- the hand alone was moved, and things new -/
theorem Run.grow (r : Run S h n o t e d th al mi hd ts g m A) (gr : Grow h S S') {n' : Nat} (H : Hand S' h n') : Run S' h n' o t e d th al mi hd ts g m A := by
  obtain ⟨p1, p2, p3, p4, p5, p6, p7, p8, p9⟩ := r.pl
  refine ⟨r.pl, H, ⟨⟨gr.at r.en.out.ob (by omega), gr.at r.en.out.li (by omega), r.en.out.sm⟩, ⟨gr.at r.en.inc.ob (by omega), gr.at r.en.inc.di (by omega), r.en.inc.sm⟩, gr.at r.en.lis (by omega), ⟨gr.at r.en.mind.mi (by omega), gr.at r.en.mind.di (by omega), r.en.mind.sm⟩, r.en.ok⟩, gr.at r.all (by omega)⟩
theorem Run.lts (r : Run S h n o t e d th al mi hd ts g m A) : o < S.length ∧ t < S.length ∧ e < S.length ∧ d < S.length ∧ th < S.length ∧ al < S.length ∧ mi < S.length ∧ hd < S.length :=
  ⟨lt_at r.en.out.ob, lt_at r.en.out.li, lt_at r.en.inc.ob, lt_at r.en.inc.di, lt_at r.en.lis, lt_at r.all, lt_at r.en.mind.mi, lt_at r.en.mind.di⟩
/-- what a deed leaves -/
def DeedR (S : Store) (h n o t e d th al mi hd : Nat) : Val → Store → Prop := fun v S' => ∃ ts' g' m' A' t', v = .tup [.bl true, natV g'] ∧ Run S' h n o t' e d th al mi hd ts' g' m' A' ∧ KeepL [h, o, t, e, d, th, al, mi, hd] S S' ∧ (t' = t ∨ S.length ≤ t')
noncomputable def deedB : En → Store → Res := sSeq (sSet 8 (eCall g_law_take (aCons (eV 0) (aCons (eCall fLen (aCons (eV 3) aNil)) aNil)))) (sSeq (sSet 9 (eMeth "take" [("Incoming", g_Incoming_take)] (eV 2) (aCons (eV 8) (aCons (eB2 vIx (eV 3) (eV 8)) aNil)))) (sSeq (sSet 10 (eCall g_law_heard (aCons (eV 5) (aCons (eV 8) (aCons (eB2 vIx (eV 3) (eV 8)) aNil))))) (sSeq (sExpr (eLm lExtend (eV 6) (aCons (eV 10) aNil))) (sRet (eTup (aCons (eCall (g_law_same 20) (aCons (eV 9) (aCons (eV 10) aNil))) (aCons (eV 4) aNil)))))))
noncomputable def deedC : En → Store → Res := sSeq (sSet 8 (eCall g_law_take (aCons (eV 0) (aCons (eB2 vAdd (eB2 vIx (eV 5) (eC (.str "taken"))) (eC (.int 1))) aNil)))) (sSeq (sSet 10 (eCall fMax2 (aCons (eC (.int 0)) (aCons (eB2 vSub (eV 8) (eV 4)) aNil)))) (sRet (eTup (aCons (eCall (g_law_same 20) (aCons (eMeth "known" [("Outgoing", g_Outgoing_known)] (eV 1) (aCons (eV 8) aNil)) (aCons (eV 10) aNil))) (aCons (eCall fMax2 (aCons (eV 4) (aCons (eV 8) aNil))) aNil)))))
theorem deed_s_eq : g_law_deed_s = sSeq (sSet 7 (eCall g_law_take (aCons (eV 0) (aCons (eC (.int 10)) aNil)))) (sSeq (sIf (bAnd (bV (eB2 vLt (eV 7) (eC (.int 3)))) (bV (eB2 vLt (eCall fLen (aCons (eV 3) aNil)) (eC (.int 30))))) (sSeq (sExpr (eLm lAppend (eV 3) (aCons (eCall g_law_thing (aCons (eV 0) aNil)) aNil))) (sRet (eTup (aCons (eCall (g_law_same 20) (aCons (eMeth "put" [("Outgoing", g_Outgoing_put)] (eV 1) (aCons (eB2 vIx (eV 3) (eNeg (eC (.int 1)))) aNil)) (aCons (eB2 vSub (eCall fLen (aCons (eV 3) aNil)) (eC (.int 1))) aNil))) (aCons (eV 4) aNil))))) sNil) (sSeq (sIf (bAnd (bV (eB2 vLt (eV 7) (eC (.int 8)))) (bV (eB2 vGt (eCall fLen (aCons (eV 3) aNil)) (eC (.int 0))))) deedB sNil) deedC)) := rfl
theorem deedB_ok (r : Run S h n o t e d th al mi hd ts g m A) (hn : n ≤ 800000000) (ht : 0 < ts.length) {x7 x8 x9 x10 : Option Val} {R : RP}
    (K : ∀ S' m' A', Run S' h (n + 10) o t e d th al mi hd ts g m' A' → KeepL [h, o, t, e, d, th, al, mi, hd] S S' → R.rt (.tup [.bl true, natV g]) S') :
    wR (deedB [some (.ref h), some (.ref o), some (.ref e), some (.ref th), some (natV g), some (.ref mi), some (.ref al), x7, x8, x9, x10] S) R := by
  have LL : LIM = 100000 := rfl
  have h1 := r.en.ok.len
  have h2 := r.en.ok.gm
  have h3 := r.en.ok.mn
  have N := r.pl
  obtain ⟨p1, p2, p3, p4, p5, p6, p7, p8, p9⟩ := r.pl
  unfold deedB
  simp -dsimp [r.en.lis]
  refine (take_ok (many := (ts.length : Int)) r.hand (by omega) (by omega) (by omega)).imp fun v S1 z => ?_
  obtain ⟨k, rfl, hk, H1, s1⟩ := z
  have r1 := r.grow s1.grow H1
  have k1 := (Grow.keepL s1.grow).more (G := [h, o, t, e, d, th, al, mi, hd]) (by simp)
  have hk2 : k < ts.length := by omega
  obtain ⟨v, hv⟩ : ∃ v, ts[k]? = some v := ⟨_, List.getElem?_eq_getElem hk2⟩
  have ix : vIx (.ref th) (.int (k : Int)) S1 = .ok v S1 := by
    simp [vIx, dLook, itemsOf, getL, r1.en.lis, hv]
  simp -dsimp [wO_eMeth, in_pick r1.en.inc.ob (n := "take") rfl, ix]
  have sm := r.en.ok.small
  obtain ⟨l1, l2, l3, l4, l5, l6, l7, l8⟩ := r1.lts
  refine in_take_w (k := k) r1.en.inc (by omega) (by omega) fun f1 S2 q1 q2 q3 q4 => ?_
  have f1e : S2[th]? = some (.lst ts) := q4.at r1.en.lis (by simp; exact ⟨Ne.symm (N.ne 2 4), Ne.symm (N.ne 3 4)⟩)
  have ix2 : vIx (.ref th) (.int (k : Int)) S2 = .ok v S2 := by
    simp [vIx, dLook, itemsOf, getL, f1e, hv]
  have mind2 : MindAt S2 mi hd m A := ⟨q4.at r1.en.mind.mi (by simp; exact ⟨Ne.symm (N.ne 2 6), Ne.symm (N.ne 3 6)⟩), q4.at r1.en.mind.di (by simp; exact ⟨Ne.symm (N.ne 2 7), Ne.symm (N.ne 3 7)⟩), r1.en.mind.sm⟩
  obtain ⟨i1, i2, i3⟩ := r.en.ok.take hv
  simp -dsimp [ix2]
  refine heard_w (k := k) (v := v) mind2 (by omega) fun f2 S3 u1 u2 u3 u4 => ?_
  generalize hF : pops (addA m k v A).length m (addA m k v A) = F at *
  have lS2 := q4.1
  have f13 : S3[f1]? = some (.lst F.1) := u4.at q2 (by simp; omega)
  have al2 : S2[al]? = some (.lst (ts.take m)) := q4.at r1.all (by simp; exact ⟨Ne.symm (N.ne 2 5), Ne.symm (N.ne 3 5)⟩)
  have al3 : S3[al]? = some (.lst (ts.take m)) := u4.at al2 (by simp; exact ⟨N.ne 5 6, N.ne 5 7⟩)
  have lF : F.1.length ≤ 30 := by
    have := congrArg List.length i1
    simp only [List.length_append, List.length_take] at this
    have := i3.mn
    omega
  have lt1 : (ts.take m).length + F.1.length ≤ LIM := by rw [List.length_take]; omega
  simp -dsimp [al3, wO_lExtend u2]
  refine ⟨by rw [List.length_take] at lt1; omega, ?_⟩
  rw [i1]
  have ne1 : al ≠ f1 := by omega
  have ne2 : al ≠ f2 := by omega
  have g1 : (S3.set al (.lst (ts.take F.2.1)))[f1]? = some (.lst F.1) := set_at ne1 f13
  have g2 : (S3.set al (.lst (ts.take F.2.1)))[f2]? = some (.lst F.1) := set_at ne2 u2
  have clF : clbs F.1 = true := by
    have := clbs_take (g := F.2.1) r.en.ok.cl
    rw [← i1, clbs_iff] at this
    rw [clbs_iff]
    exact fun y hy => this y (List.mem_append_right _ hy)
  have dpF : deps F.1 ≤ 4 := by
    have := deps_take (g := F.2.1) r.en.ok.dp
    rw [← i1] at this
    exact deps_le fun y hy => Nat.le_trans (dep_mem (List.mem_append_right _ hy)) this
  have r4 : Run (S3.set al (.lst (ts.take F.2.1))) h (n + 10) o t e d th al mi hd ts g F.2.1 F.2.2 := by
    have k3 : ∀ j ob, j ≠ e → j ≠ d → j ≠ mi → j ≠ hd → j ≠ al → S1[j]? = some ob → (S3.set al (.lst (ts.take F.2.1)))[j]? = some ob := fun j ob a1 a2 a3 a4 a5 q => set_at (Ne.symm a5) (u4.at (q4.at q (by simp; exact ⟨a1, a2⟩)) (by simp; exact ⟨a3, a4⟩))
    have hH : Hand S3 h (n + 1) := (r1.hand.keepL q4 fun j hj => by simp; omega).keepL u4 fun j hj => by simp; omega
    refine ⟨r.pl, (hH.set_gt (by omega)).more (by omega), ⟨⟨k3 _ _ (N.ne 0 2) (N.ne 0 3) (N.ne 0 6) (N.ne 0 7) (N.ne 0 5) r1.en.out.ob, k3 _ _ (N.ne 1 2) (N.ne 1 3) (N.ne 1 6) (N.ne 1 7) (N.ne 1 5) r1.en.out.li, r1.en.out.sm⟩, ?_, k3 _ _ (Ne.symm (N.ne 2 4)) (Ne.symm (N.ne 3 4)) (N.ne 4 6) (N.ne 4 7) (N.ne 4 5) r1.en.lis, ?_, i3⟩, at_set (lt_at al3)⟩
    · exact ⟨set_at (Ne.symm (N.ne 2 5)) (u4.at q3.ob (by simp; exact ⟨N.ne 2 6, N.ne 2 7⟩)), set_at (Ne.symm (N.ne 3 5)) (u4.at q3.di (by simp; exact ⟨N.ne 3 6, N.ne 3 7⟩)), q3.sm⟩
    · exact ⟨set_at (N.ne 5 6) u3.mi, set_at (N.ne 5 7) u3.di, u3.sm⟩
  have k4 : KeepL [h, o, t, e, d, th, al, mi, hd] S (S3.set al (.lst (ts.take F.2.1))) := ((k1.trans (q4.more (by simp))).trans (u4.more (by simp))).setAt (.inl (by simp))
  generalize S3.set al (.lst (ts.take F.2.1)) = S4 at *
  refine (same_lists (d := 19) g1 g2 clF (by omega) (by omega)).wk fun S5 a5 => ?_
  simp -dsimp [LL]
  exact K S5 F.2.1 F.2.2 (r4.ex a5) (k4.trans (KeepL.ex a5))
theorem deedC_ok (r : Run S h n o t e d th al mi hd ts g m A) (hn : n ≤ 800000000) {x7 x8 x9 x10 : Option Val} {R : RP}
    (K : ∀ S' k t', k ≤ m → S.length ≤ t' → Run S' h (n + 10) o t' e d th al mi hd ts (max g k) m A → KeepL [h, o, t, e, d, th, al, mi, hd] S S' → R.rt (.tup [.bl true, natV (max g k)]) S') :
    wR (deedC [some (.ref h), some (.ref o), some (.ref e), some (.ref th), some (natV g), some (.ref mi), some (.ref al), x7, x8, x9, x10] S) R := by
  have LL : LIM = 100000 := rfl
  have h1 := r.en.ok.len
  have h2 := r.en.ok.gm
  have h3 := r.en.ok.mn
  have N := r.pl
  obtain ⟨p1, p2, p3, p4, p5, p6, p7, p8, p9⟩ := r.pl
  have v2 : vAdd (natV m) (.int 1) S = .ok (.int ((m : Int) + 1)) S := rfl
  unfold deedC
  simp -dsimp [mind_taken r.en.mind, v2]
  refine (take_ok (many := (m : Int) + 1) r.hand (by omega) (by omega) (by omega)).imp fun v S1 z => ?_
  obtain ⟨k, rfl, hk, H1, s1⟩ := z
  have r1 := r.grow s1.grow H1
  have k1 := (Grow.keepL s1.grow).more (G := [h, o, t, e, d, th, al, mi, hd]) (by simp)
  have v3 : vSub (.int (k : Int)) (natV g) S1 = .ok (.int ((k : Int) - g)) S1 := rfl
  have em : max (0 : Int) ((k : Int) - g) = ((k - g : Nat) : Int) := by omega
  simp -dsimp [v3, em, wO_eMeth, out_pick r1.en.out.ob (n := "known") rfl]
  refine (known_w (k := k) r1.en.out (by simp; omega)).imp fun v S2 z => ?_
  obtain ⟨rfl, o2, kp⟩ := z
  have fr : t ≠ S1.length := by have := r1.lts.2.1; omega
  obtain ⟨l1, l2, l3, l4, l5, l6, l7, l8⟩ := r1.lts
  have dd : (ts.drop g).drop (k - g) = ts.drop (max g k) := by rw [List.drop_drop]; congr 1; omega
  rw [dd] at o2
  have r2 : Run S2 h (n + 10) o S1.length e d th al mi hd ts (max g k) m A := by
    have k3 : ∀ j ob, j ≠ o → S1[j]? = some ob → S2[j]? = some ob := fun j ob a1 q => kp.at q (by simpa using a1)
    refine ⟨⟨p1, by omega, p3, p4, p5, p6, p7, p8, ?_⟩, (r1.hand.keepL kp fun j hj => by simp; omega).more (by omega), ⟨o2, ⟨k3 _ _ (Ne.symm (N.ne 0 2)) r1.en.inc.ob, k3 _ _ (Ne.symm (N.ne 0 3)) r1.en.inc.di, r1.en.inc.sm⟩, k3 _ _ (Ne.symm (N.ne 0 4)) r1.en.lis, ⟨k3 _ _ (Ne.symm (N.ne 0 6)) r1.en.mind.mi, k3 _ _ (Ne.symm (N.ne 0 7)) r1.en.mind.di, r1.en.mind.sm⟩, ?_⟩, k3 _ _ (Ne.symm (N.ne 0 5)) r1.all⟩
    · simp only [List.nodup_cons, List.mem_cons, List.not_mem_nil, or_false, not_or] at p9 ⊢
      obtain ⟨⟨a1, a2, a3, a4, a5, a6, a7⟩, b, c⟩ := p9
      refine ⟨⟨?_, a2, a3, a4, a5, a6, a7⟩, ⟨?_, ?_, ?_, ?_, ?_, ?_⟩, c⟩ <;> clear c b a1 a2 a3 a4 a5 a6 a7 <;> omega
    · exact ⟨h1, by omega, h3, r.en.ok.cl, r.en.ok.dp, r.en.ok.inv, r.en.ok.no⟩
  simp -dsimp
  refine (same_clb 20 S2 (natV (k - g)) (by simp [natV]) (by simp [natV]) (by omega)).wk fun S3 a3 => ?_
  have ev : fMax2 [natV g, .int (k : Int)] S3 = .ok (natV (max g k)) S3 := by
    show Out.ok (Val.int (if (k : Int) > g then (k : Int) else (g : Int))) S3 = _
    have : (if (k : Int) > g then (k : Int) else (g : Int)) = ((max g k : Nat) : Int) := by split <;> omega
    rw [this]; rfl
  simp -dsimp [ev, LL]
  exact K S3 k S1.length (by omega) s1.grow.1 (r2.ex a3) ((k1.trans (kp.more (by simp))).trans (KeepL.ex a3))
theorem deed_ok (r : Run S h n o t e d th al mi hd ts g m A) (hn : n ≤ 700000000) : wO (g_law_deed [.ref h, .ref o, .ref e, .ref th, natV g, .ref mi, .ref al] S) (DeedR S h (n + 600) o t e d th al mi hd) noX := by
  have LL : LIM = 100000 := rfl
  have h1 := r.en.ok.len
  have h2 := r.en.ok.gm
  have h3 := r.en.ok.mn
  have eg : g_law_deed = fnB 11 7 g_law_deed_s := rfl
  rw [eg, deed_s_eq]
  have hB := @deedB_ok
  have hC := @deedC_ok
  generalize deedB = B at *
  generalize deedC = C at *
  simp -dsimp [wO_fnB]
  refine (take_ok (many := 10) r.hand (by omega) (by omega) (by omega)).imp fun v S1 z => ?_
  obtain ⟨w, rfl, hw, H1, s1⟩ := z
  have r1 := r.grow s1.grow H1
  have k1 := (Grow.keepL s1.grow).more (G := [h, o, t, e, d, th, al, mi, hd]) (by simp)
  obtain ⟨p1, p2, p3, p4, p5, p6, p7, p8, p9⟩ := r.pl
  have N := r.pl
  simp -dsimp [r1.en.lis]
  by_cases c1 : w < 3 ∧ ts.length < 30
  · have c1a : (w : Int) < 3 := by omega
    have c1b : (ts.length : Int) < 30 := by omega
    simp -dsimp [c1a, c1b, r1.en.lis]
    refine (thing_ok r1.hand (by omega)).imp fun v S2 z => ?_
    obtain ⟨xs, rfl, z1, z2, z3, z4⟩ := z
    have r2 := r1.grow z4 z3
    have k2 := k1.trans ((Grow.keepL z4).more (G := [h, o, t, e, d, th, al, mi, hd]) (by simp))
    obtain ⟨l1, l2, l3, l4, l5, l6, l7, l8⟩ := r2.lts
    have lm : ts.length < LIM := by omega
    simp -dsimp [r2.en.lis, lm]
    have o3 : OutAt (S2.set th (.lst (ts ++ [.tup xs]))) o g t (ts.drop g) := ⟨set_at (Ne.symm (N.ne 0 4)) r2.en.out.ob, set_at (Ne.symm (N.ne 1 4)) r2.en.out.li, r2.en.out.sm⟩
    have l3' : (S2.set th (.lst (ts ++ [.tup xs])))[th]? = some (.lst (ts ++ [.tup xs])) := at_set l5
    simp -dsimp [wO_eMeth, out_pick o3.ob (n := "put") rfl, l3', L2.atI_last]
    rw [put_w o3 (by simp; omega)]
    have lt3 : t < (S2.set th (.lst (ts ++ [.tup xs]))).length := by simp; omega
    have e4 : ((S2.set th (.lst (ts ++ [.tup xs]))).set t (.lst (ts.drop g ++ [.tup xs])))[th]? = some (.lst (ts ++ [.tup xs])) := set_at (N.ne 1 4) l3'
    have r4 : Run ((S2.set th (.lst (ts ++ [.tup xs]))).set t (.lst (ts.drop g ++ [.tup xs]))) h (n + 600) o t e d th al mi hd (ts ++ [.tup xs]) g m A := by
      have dr : (ts ++ [Val.tup xs]).drop g = ts.drop g ++ [.tup xs] := List.drop_append_of_le_length (by omega)
      have tk : (ts ++ [Val.tup xs]).take m = ts.take m := List.take_append_of_le_length (by omega)
      have ne : ∀ j ob, j ≠ th → j ≠ t → S2[j]? = some ob → ((S2.set th (.lst (ts ++ [.tup xs]))).set t (.lst (ts.drop g ++ [.tup xs])))[j]? = some ob := fun j ob q1 q2 q3 => set_at (Ne.symm q2) (set_at (Ne.symm q1) q3)
      refine ⟨r.pl, ((r2.hand.set_gt (by omega)).set_gt (by omega)).more (by omega), ⟨⟨ne _ _ (N.ne 0 4) (N.ne 0 1) r2.en.out.ob, ?_, ?_⟩, ⟨ne _ _ (N.ne 2 4) (Ne.symm (N.ne 1 2)) r2.en.inc.ob, ne _ _ (N.ne 3 4) (Ne.symm (N.ne 1 3)) r2.en.inc.di, r2.en.inc.sm⟩, e4, ⟨ne _ _ (Ne.symm (N.ne 4 6)) (Ne.symm (N.ne 1 6)) r2.en.mind.mi, ne _ _ (Ne.symm (N.ne 4 7)) (Ne.symm (N.ne 1 7)) r2.en.mind.di, r2.en.mind.sm⟩, r.en.ok.put (by omega) (by simpa using z1) (by simp; omega)⟩, ?_⟩
      · rw [dr]; exact at_set lt3
      · simp; omega
      · rw [tk]; exact ne _ _ (Ne.symm (N.ne 4 5)) (Ne.symm (N.ne 1 5)) r2.all
    have k4 : KeepL [h, o, t, e, d, th, al, mi, hd] S ((S2.set th (.lst (ts ++ [.tup xs]))).set t (.lst (ts.drop g ++ [.tup xs]))) := (k2.setAt (.inl (by simp))).setAt (.inl (by simp))
    generalize (S2.set th (.lst (ts ++ [.tup xs]))).set t (.lst (ts.drop g ++ [.tup xs])) = S4 at *
    have ea : ((g + (ts.drop g).length : Nat) : Int) = (ts.length : Int) := by simp; omega
    rw [ea]
    simp -dsimp [e4]
    refine (same_clb 20 S4 (.int (ts.length : Int)) (by simp) (by simp) (by omega)).wk fun S5 a5 => ?_
    simp -dsimp [LL]
    exact ⟨ts ++ [.tup xs], g, m, A, t, rfl, r4.ex a5, k4.trans (KeepL.ex a5), .inl rfl⟩
  · have rest : wR (sSeq (sIf (bAnd (bV (eB2 vLt (eV 7) (eC (.int 8)))) (bV (eB2 vGt (eCall fLen (aCons (eV 3) aNil)) (eC (.int 0))))) B sNil) C [some (.ref h), some (.ref o), some (.ref e), some (.ref th), some (natV g), some (.ref mi), some (.ref al), some (.int (w : Int)), none, none, none] S1)
        ⟨fun _ _ => False, DeedR S h (n + 600) o t e d th al mi hd, fun _ _ => False, fun _ _ => False, fun _ _ _ _ => False⟩ := by
      have rC : wR (C [some (.ref h), some (.ref o), some (.ref e), some (.ref th), some (natV g), some (.ref mi), some (.ref al), some (.int (w : Int)), none, none, none] S1) ⟨fun _ _ => False, DeedR S h (n + 600) o t e d th al mi hd, fun _ _ => False, fun _ _ => False, fun _ _ _ _ => False⟩ := by
        refine hC r1 (by omega) fun S' k t' hk ht' r' k' => ⟨ts, max g k, m, A, t', rfl, ⟨r'.pl, r'.hand.more (by omega), r'.en, r'.all⟩, k1.trans k', .inr (Nat.le_trans s1.grow.1 ht')⟩
      simp -dsimp [r1.en.lis]
      by_cases c8 : w < 8
      · have c8' : (w : Int) < 8 := by omega
        by_cases c0 : 0 < ts.length
        · have c0' : (0 : Int) < ts.length := by omega
          simp -dsimp [c8', c0]
          have hb := hB r1 (by omega) c0 (x7 := some (.int (w : Int))) (x8 := none) (x9 := none) (x10 := none) (R := ⟨fun _ _ => False, DeedR S h (n + 600) o t e d th al mi hd, fun _ _ => False, fun _ _ => False, fun _ _ _ _ => False⟩) fun S' m' A' r' k' => ⟨ts, g, m', A', t, rfl, ⟨r'.pl, r'.hand.more (by omega), r'.en, r'.all⟩, k1.trans k', .inl rfl⟩
          exact hb.mono (fun _ _ z => z.elim) (fun _ _ z => z) (fun _ _ z => z) (fun _ _ z => z) fun _ _ _ _ z => z
        · skip
          have c0'' : ts = [] := List.eq_nil_of_length_eq_zero (by omega)
          simp -dsimp [c8', c0]
          exact rC
      · have c8' : ¬ (w : Int) < 8 := by omega
        simp -dsimp [c8']
        exact rC
    have rest' := rest.mono (P' := ⟨fun _ S1 => DeedR S h (n + 600) o t e d th al mi hd .non S1, DeedR S h (n + 600) o t e d th al mi hd, fun _ _ => False, fun _ _ => False, fun c fs _ S1 => noX c fs S1⟩) (fun _ _ z => z.elim) (fun _ _ z => z) (fun _ _ z => z) (fun _ _ z => z) fun _ _ _ _ z => z
    by_cases c3 : w < 3
    · have c3' : (w : Int) < 3 := by omega
      have c30 : ¬ (ts.length : Int) < 30 := by omega
      simp -dsimp [c3', c30, r1.en.lis]
      simp -dsimp [r1.en.lis] at rest'
      exact rest'
    · have c3' : ¬ (w : Int) < 3 := by omega
      simp -dsimp [c3', r1.en.lis]
      simp -dsimp [r1.en.lis] at rest'
      exact rest'
end
end K30

set_option Elab.async false
set_option linter.all false
set_option maxRecDepth 100000
set_option maxHeartbeats 400000
namespace K30
open PySem PySem.Spec PyProof.Rows L2 Mp
theorem pops_ge {f m : Nat} {A : AL} {v : Val} (h : getA A m = some v) (hl : A.length ≤ f) : m + 1 ≤ (pops f m A).2.1 := by
  have lt := delA_lt h
  obtain ⟨f, rfl⟩ : ∃ f', f = f' + 1 := ⟨f - 1, by omega⟩
  rw [pops_some h]
  have := (pops_len (f := f) (m := m + 1) (A := delA A m)).2.1
  simp only []
  omega
theorem Ok.done {ts : List Val} {g : Nat} {A : AL} (h : Ok ts g ts.length A) : A = [] := by
  cases A with
  | nil => rfl
  | cons p r =>
    obtain ⟨h1, h2⟩ := h.inv.el p (by simp)
    have := (List.getElem?_eq_some_iff.mp h2).1
    omega
section
variable {S : Store} {o t e d : Nat} {ts : List Val} {g m : Nat} {A : AL}
theorem drained_ok (ho : OutAt S o g t (ts.drop g)) (hi : InAt S e m d A) (hk : Ok ts g m A) :
    wO (g_law_drained [.ref o, .ref e, natV ts.length] S) (fun v S' => v = .bl true ∧ (∃ t', OutAt S' o ts.length t' []) ∧ InAt S' e ts.length d [] ∧ KeepL [o, e, d] S S') noX := by
  have LL : LIM = 100000 := rfl
  have rg : RNG = 1152921504606846976 := by unfold RNG; decide
  have h1 := hk.len
  have noe : o ≠ e := fun z => by have := ho.ob; rw [z, hi.ob] at this; cases this
  have nod : o ≠ d := fun z => by have := ho.ob; rw [z, hi.di] at this; cases this
  simp -dsimp [wO_fnB, g_law_drained, g_law_drained_s, wR_sFor, natV]
  refine ⟨⟨by omega, by omega⟩, ?_⟩
  refine wR_forX (upL 0 (ts.length + 1)) (fun i en S' => (∃ x3 x4 x5, en = [some (.ref o), some (.ref e), some (.int (ts.length : Int)), x3, x4, x5]) ∧ ∃ t g m A, OutAt S' o g t (ts.drop g) ∧ InAt S' e m d A ∧ Ok ts g m A ∧ i ≤ g ∧ KeepL [o, e, d] S S')
    ⟨⟨_, _, _, rfl⟩, t, g, m, A, ho, hi, hk, Nat.zero_le _, KeepL.refl⟩ (fun i x en S1 hx hI => ?_) fun en S1 hI => ?_
  · obtain ⟨⟨x3, x4, x5, rfl⟩, t, g, m, A, o1, i1, k1, hig, kp⟩ := hI
    refine ⟨trivial, _, rfl, ?_⟩
    have h2 := k1.gm
    have h3 := k1.mn
    simp -dsimp [g_law_drained_b1, wO_eMeth, out_pick o1.ob (n := "waiting") rfl]
    refine (waiting_ok o1).wk fun r S2 a2 hr lr => ?_
    simp -dsimp [lr, waitL_len]
    by_cases c : g = ts.length
    · subst c
      have em : m = ts.length := by omega
      subst em
      have eA := k1.done
      subst eA
      have dr : ts.drop ts.length = [] := by simp
      rw [dr] at o1
      simp -dsimp
      exact ⟨⟨t, o1.ex a2⟩, i1.ex a2, kp.trans (KeepL.ex a2)⟩
    · have hg : g < ts.length := by omega
      have cz : ¬ (((ts.length - g : Nat) : Int) = 0) := by omega
      have cz2 : ¬ (ts.length - g = 0) := by omega
      have cz3 : ¬ (ts.length ≤ g) := by omega
      have o2 := o1.ex a2
      have i2 := i1.ex a2
      obtain ⟨v, hv⟩ : ∃ v, ts[g]? = some v := ⟨_, List.getElem?_eq_getElem hg⟩
      simp -dsimp [cz, cz2, cz3, wO_eMeth, out_pick o2.ob (n := "waiting") rfl]
      refine (waiting_ok o2).wk fun r2 S3 a3 hr3 lr3 => ?_
      have o3 := o2.ex a3
      have i3 := i2.ex a3
      have w0 : (waitL g (ts.drop g))[0]? = some (.tup [.int (g : Int), v]) := by
        unfold waitL
        rw [List.getElem?_mapIdx, List.getElem?_drop]
        simp [hv]
      simp -dsimp [lr3, w0, wO_eMeth, in_pick i3.ob (n := "take") rfl]
      have kp3 := kp.trans (KeepL.ex (a2.trans a3))
      obtain ⟨j1, j2, j3⟩ := k1.take hv
      have sm := k1.small
      have ge1 : g + 1 ≤ (pops (addA m g v A).length m (addA m g v A)).2.1 := by
        by_cases c2 : g = m
        · subst c2
          refine pops_ge (v := v) ?_ (Nat.le_refl _)
          unfold addA
          rw [if_pos ⟨Nat.le_refl _, by omega, k1.no⟩, getA_put]
          simp
        · omega
      refine in_take_w (k := g) i3 (by omega) (by omega) fun f S4 q1 q2 q3 q4 => ?_
      generalize hF : pops (addA m g v A).length m (addA m g v A) = F at *
      have o4 : OutAt S4 o g t (ts.drop g) := ⟨q4.at o3.ob (by simp; exact ⟨noe, nod⟩), q4.at o3.li (by
        have z1 : t ≠ e := fun z => by have := o3.li; rw [z, i3.ob] at this; cases this
        have z2 : t ≠ d := fun z => by have := o3.li; rw [z, i3.di] at this; cases this
        simp; exact ⟨z1, z2⟩), o3.sm⟩
      simp -dsimp [wO_eMeth, out_pick o4.ob (n := "known") rfl, in_pick q3.ob (n := "taken") rfl, in_taken_w q3]
      have hm := j3.mn
      refine (known_w (k := F.2.1) o4 (by simp; omega)).imp fun w S5 z => ?_
      obtain ⟨rfl, o5, k5⟩ := z
      have dd : (ts.drop g).drop (F.2.1 - g) = ts.drop (max g F.2.1) := by rw [List.drop_drop]; congr 1; omega
      have mx : max g F.2.1 = F.2.1 := by omega
      rw [dd, mx] at o5
      refine ⟨⟨_, _, _, rfl⟩, S4.length, F.2.1, F.2.1, F.2.2, o5, ⟨k5.at q3.ob (by simp; exact Ne.symm noe), k5.at q3.di (by simp; exact Ne.symm nod), q3.sm⟩, ⟨h1, Nat.le_refl _, hm, k1.cl, k1.dp, j3.inv, j3.no⟩, by omega, (kp3.trans (q4.more (by simp))).trans (k5.more (by simp))⟩
  · obtain ⟨⟨x3, x4, x5, rfl⟩, t, g, m, A, o1, i1, k1, hig, kp⟩ := hI
    rw [upL_len] at hig
    have h2 := k1.gm
    have h3 := k1.mn
    omega
end
end K30

set_option Elab.async false
set_option linter.all false
set_option maxRecDepth 100000
set_option maxHeartbeats 400000
namespace K30
open PySem PySem.Spec PyProof.Rows L2 Mp
/-- the copies kept, apart from what is led on -/
structure Kp (S : Store) (F : List Nat) (v : Val) : Prop where
  ex : ∃ o t e d th mi hd ts g m A, v = .tup [.ref o, .ref e, .ref th, natV g, .ref mi] ∧ Ends S o t e d th mi hd ts g m A ∧ ∀ j ∈ [o, t, e, d, th, mi, hd], j ∉ F
theorem Kp.keep {S S' : Store} {F : List Nat} {v : Val} (h : Kp S F v) (k : KeepL F S S') : Kp S' F v := by
  obtain ⟨o, t, e, d, th, mi, hd, ts, g, m, A, e1, E, n⟩ := h.ex
  refine ⟨o, t, e, d, th, mi, hd, ts, g, m, A, e1, ⟨⟨k.at E.out.ob (n _ (by simp)), k.at E.out.li (n _ (by simp)), E.out.sm⟩, ⟨k.at E.inc.ob (n _ (by simp)), k.at E.inc.di (n _ (by simp)), E.inc.sm⟩, k.at E.lis (n _ (by simp)), ⟨k.at E.mind.mi (n _ (by simp)), k.at E.mind.di (n _ (by simp)), E.mind.sm⟩, E.ok⟩, n⟩
/-- a place that is new to the led ones: the kept ones lie before it -/
theorem Kp.more {S : Store} {F G : List Nat} {v : Val} (h : Kp S F v) (hG : ∀ j ∈ G, j ∈ F ∨ S.length ≤ j) : Kp S G v := by
  obtain ⟨o, t, e, d, th, mi, hd, ts, g, m, A, e1, E, n⟩ := h.ex
  have l : ∀ j ∈ [o, t, e, d, th, mi, hd], j < S.length := by
    intro j hj
    simp at hj
    rcases hj with rfl | rfl | rfl | rfl | rfl | rfl | rfl
    · exact lt_at E.out.ob
    · exact lt_at E.out.li
    · exact lt_at E.inc.ob
    · exact lt_at E.inc.di
    · exact lt_at E.lis
    · exact lt_at E.mind.mi
    · exact lt_at E.mind.di
  refine ⟨o, t, e, d, th, mi, hd, ts, g, m, A, e1, E, fun j hj hjG => ?_⟩
  rcases hG j hjG with z | z
  · exact n j hj z
  · have := l j hj; omega
section
variable {S : Store} {h n o t e d th al mi hd : Nat} {ts : List Val} {g m : Nat} {A : AL}
/-- the state between the turns -/
def FI (S0 : Store) (h n o e d th al mi hd : Nat) (i : Nat) (en : En) (S : Store) : Prop :=
  ∃ t ts g m A kv x0 x9 x10 x11 x12, en = [x0, some (.ref h), some (.ref o), some (.ref e), some (.ref th), some (.ref al), some (.ref mi), some (natV g), some kv, x9, x10, x11, x12] ∧
    Run S h (n + i * 700) o t e d th al mi hd ts g m A ∧ (kv = .non ∨ Kp S [h, o, t, e, d, th, al, mi, hd] kv)
theorem wO_disp2 {k1 v1 k2 v2 : Fv} {env : En} {S : Store} {P : Val → Store → Prop} {E : XO} : wO (eDisp [(k1, v1), (k2, v2)] env S) P E = wO (k1 env (S ++ [.dk []])) (fun x1 S1 => wO (v1 env S1) (fun y1 S2 => wO (k2 env S2) (fun x2 S3 => wO (v2 env S3) (fun y2 S4 => wO (kDisp S.length [(x1, y1), (x2, y2)] S4) P E) E) E) E) E := by
  unfold eDisp
  rw [wO_bind]
  simp only [dPairs]
  refine wO_bind.trans (wO_ext fun x1 S1 => wO_bind.trans (wO_ext fun y1 S2 => ?_))
  refine wO_bind.trans ?_
  refine wO_bind.trans (wO_ext fun x2 S3 => wO_bind.trans (wO_ext fun y2 S4 => ?_))
  rfl
theorem wO_kDisp2 {n : Nat} {y1 y2 : Val} {S : Store} {P : Val → Store → Prop} {E : XO} (h : S[n]? = some (.dk [])) : wO (kDisp n [(.str "taken", y1), (.str "held", y2)] S) P E = P (.ref n) (S.set n (.dk [(.inr "taken", y1), (.inr "held", y2)])) := by
  have n1 : ¬ ((Sum.inr ("taken" : Str) : Key) = Sum.inr ("held" : Str)) := by decide
  simp [kDisp, keyPairs, keyOf, mergeD, putD, h, n1]
noncomputable def keptE : En → Store → Out Val := (eTup (aCons (eMeth "copy" [("Outgoing", g_Outgoing_copy)] (eV 2) aNil) (aCons (eMeth "copy" [("Incoming", g_Incoming_copy)] (eV 3) aNil) (aCons (eCall fList (aCons (eV 4) aNil)) (aCons (eV 7) (aCons (eDisp (((eC (.str "taken")), (eB2 vIx (eV 6) (eC (.str "taken")))) :: (((eC (.str "held")), (eCall fDictC (aCons (eB2 vIx (eV 6) (eC (.str "held"))) aNil))) :: []))) aNil))))))
theorem b1_eq : g_law_first_b1 = (sSeq (sAsg (eCall g_law_deed (aCons (eV 1) (aCons (eV 2) (aCons (eV 3) (aCons (eV 4) (aCons (eV 7) (aCons (eV 6) (aCons (eV 5) aNil)))))))) (gT 2 (gCo (gN 10) (gCo (gN 7) gNo)))) (sSeq (sIf (bOr (bNot (bV (eV 10))) (bNot (bV (eCall g_law_ends_right (aCons (eV 2) (aCons (eV 3) (aCons (eV 4) (aCons (eV 7) (aCons (eV 6) aNil))))))))) (sRet (eC (.bl false))) sNil) (sSeq (sIf (bOr (bV (eB2 vNe (eV 5) (eSl (eV 4) pNo (pSome (eCall fLen (aCons (eV 5) aNil)))))) (bV (eB2 vNe (eCall fLen (aCons (eV 5) aNil)) (eB2 vIx (eV 6) (eC (.str "taken")))))) (sRet (eC (.bl false))) sNil) (sIf (bV (eB2 vEq (eCall g_law_take (aCons (eV 1) (aCons (eC (.int 9)) aNil))) (eC (.int 0)))) (sSeq (sSet 8 keptE) (sSeq (sSet 11 (eB2 vAdd (eB2 vAdd (eMeth "taken" [("Incoming", g_Incoming_taken)] (eV 3) aNil) (eC (.int 1000))) (eCall g_law_take (aCons (eV 1) (aCons (eC (.int 5)) aNil))))) (sIf (bOr (bV (eB2 vNe (eMeth "take" [("Incoming", g_Incoming_take)] (eV 3) (aCons (eV 11) (aCons (eTup (aCons (eC (.str "far")) aNil)) aNil))) (eLst aNil))) (bV (eB2 vNe (eMeth "held" [("Incoming", g_Incoming_held)] (eV 3) aNil) (eCall fTuple (aCons (eCall fSorted (aCons (eLKeysK (eB2 vIx (eV 6) (eC (.str "held")))) aNil)) aNil))))) (sRet (eC (.bl false))) sNil))) sNil)))) := rfl
theorem kept_ok (E : Ends S o t e d th mi hd ts g m A) {x0 x1 x5 x8 x9 x10 x11 x12 : Option Val} {P : Val → Store → Prop} {X : XO}
    (K : ∀ v S', Kp S' (List.range S.length) v → Ex S S' → P v S') :
    wO (keptE
      [x0, x1, some (.ref o), some (.ref e), some (.ref th), x5, some (.ref mi), some (natV g), x8, x9, x10, x11, x12] S) P X := by
  have LL : LIM = 100000 := rfl
  unfold keptE
  simp -dsimp [wO_eMeth, out_pick E.out.ob (n := "copy") rfl]
  refine (out_copy_w E.out).imp fun v S1 z => ?_
  obtain ⟨rfl, o1, a1⟩ := z
  have E1 := E.ex a1
  simp -dsimp [wO_eMeth, in_pick E1.inc.ob (n := "copy") rfl]
  refine (in_copy_w E1.inc).imp fun v S2 z => ?_
  obtain ⟨rfl, i2, a2⟩ := z
  have E2 := E1.ex a2
  simp -dsimp [E2.lis]
  have E3 := E2.ex (Ex.app (T := [.lst ts]))
  rw [wO_disp2]
  have E4 := E3.ex (Ex.app (T := [.dk []]))
  simp -dsimp [List.append_assoc] at E4
  simp -dsimp [mind_taken E4.mind, mind_held E4.mind, wO_dictC E4.mind.di]
  have at1 : (S2 ++ [Ob.lst ts, .dk [], .dk (kvA A)])[S2.length + 1]? = some (.dk []) := by rw [at_off]; rfl
  rw [wO_kDisp2 at1]
  have st : (S2 ++ [Ob.lst ts, .dk [], .dk (kvA A)]).set (S2.length + 1) (.dk [(.inr "taken", natV m), (.inr "held", .ref (S2.length + 2))]) = S2 ++ [Ob.lst ts, .dk [(.inr "taken", natV m), (.inr "held", .ref (S2.length + 2))], .dk (kvA A)] := by
    rw [List.set_append_right _ _ (by omega)]
    simp
  simp -dsimp [LL]
  refine K _ _ ⟨S.length, S.length + 2, S1.length, S1.length + 2, S2.length, S2.length + 1, S2.length + 2, ts, g, m, A, rfl, ⟨(o1.ex a2).ex Ex.app, i2.ex Ex.app, at_new, ⟨by rw [at_off]; rfl, by rw [at_off]; rfl, E.mind.sm⟩, E.ok⟩, fun j hj hr => ?_⟩ ((a1.trans a2).trans Ex.app)
  have := List.mem_range.mp hr
  have l1 := a1.le
  have l2 := a2.le
  simp at hj
  omega

theorem Kp.deed {t' : Nat} {S' : Store} {v : Val} (h0 : Kp S [h, o, t, e, d, th, al, mi, hd] v) (k : KeepL [h, o, t, e, d, th, al, mi, hd] S S') (ht : t' = t ∨ S.length ≤ t') : Kp S' [h, o, t', e, d, th, al, mi, hd] v := by
  have h1 : Kp S [h, o, t, e, d, th, al, mi, hd, t'] v := h0.more fun j hj => by
    simp at hj
    rcases hj with rfl | rfl | rfl | rfl | rfl | rfl | rfl | rfl | rfl | rfl
    iterate 9 exact .inl (by simp)
    exact ht.elim (fun z => .inl (by simp [z])) .inr
  have h2 := h1.keep (k.more fun j hj => by simp at hj ⊢; rcases hj with rfl | rfl | rfl | rfl | rfl | rfl | rfl | rfl | rfl <;> simp)
  exact h2.more fun j hj => .inl (by simp at hj ⊢; rcases hj with rfl | rfl | rfl | rfl | rfl | rfl | rfl | rfl | rfl <;> simp)
theorem turn_ok {i x : Nat} {en : En} {R : RP} (hi : i < 60) (hn : n ≤ 1000) (I : FI S h n o e d th al mi hd i en S)
    (K : ∀ en' S', FI S h n o e d th al mi hd (i + 1) en' S' → R.nx en' S') : wR (g_law_first_b1 (en.set 9 (some (natV x))) S) R := by
  have LL : LIM = 100000 := rfl
  obtain ⟨t, ts, g, m, A, kv, x0, x9, x10, x11, x12, rfl, r, hk⟩ := I
  have v0 : ∀ S1, vNe (.bl true) (.bl true) S1 = .ok (.bl false) S1 := fun S1 => by simp [vNe, eqv1_bl]
  have hkept := @kept_ok
  rw [b1_eq]
  generalize keptE = KE at *
  simp -dsimp
  refine (deed_ok r (by omega)).imp fun v S1 z => ?_
  obtain ⟨ts, g', m, A, t', rfl, r1, k1, ht⟩ := z
  have hk1 : kv = .non ∨ Kp S1 [h, o, t', e, d, th, al, mi, hd] kv := hk.imp id fun z => z.deed k1 ht
  clear hk
  have h1 := r1.en.ok.len
  have h2 := r1.en.ok.gm
  have h3 := r1.en.ok.mn
  have sm := r1.en.ok.small
  simp -dsimp
  refine (ends_right r1.en).wk fun S2 a2 => ?_
  have r2 := r1.ex a2
  have ct : cutL ts none (some (m : Int)) = ts.take m := cut_take ts m
  have ml : min m ts.length = m := by omega
  simp -dsimp [r2.all, wO_slL r2.en.lis, ct, ml]
  have r3 := r2.ex (Ex.app (T := [.lst (ts.take m)]))
  have eq3 : eqv1 (S2 ++ [Ob.lst (ts.take m)]) (.ref al) (.ref S2.length) = some true := eqv1_lists r3.all at_new (clbs_take r1.en.ok.cl) (by have := deps_take (g := m) r1.en.ok.dp; omega)
  have eqm : ∀ S4, eqv1 S4 (.int (m : Int)) (natV m) = some true := fun S4 => by simp [natV]
  simp -dsimp [eq3, r3.all, ml, mind_taken r3.en.mind, eqm]
  refine (take_ok (many := 9) r3.hand (by omega) (by omega) (by omega)).imp fun v S4 z => ?_
  obtain ⟨w, rfl, hw, H4, s4⟩ := z
  have r4 := r3.grow s4.grow H4
  have hk4 : kv = .non ∨ Kp S4 [h, o, t', e, d, th, al, mi, hd] kv := hk1.imp id fun z => ((z.keep (KeepL.ex a2)).keep (KeepL.ex Ex.app)).keep ((Grow.keepL s4.grow).more (by simp))
  clear hk1
  simp -dsimp
  by_cases cw : w = 0
  · subst cw
    simp -dsimp
    refine hkept r4.en fun v S5 q5 a5 => ?_
    simp -dsimp only [gN_ap, wP_some]
    have r5 := r4.ex a5
    obtain ⟨l1, l2, l3, l4, l5, l6, l7, l8⟩ := r4.lts
    have q5' : Kp S5 [h, o, t', e, d, th, al, mi, hd] v := q5.more fun j hj => .inl (List.mem_range.mpr (by
      have := r4.hand.lt
      simp at hj; omega))
    have va : ∀ S6, vAdd (natV m) (.int 1000) S6 = .ok (.int ((m : Int) + 1000)) S6 := fun S6 => rfl
    simp -dsimp [wO_eMeth, in_pick r5.en.inc.ob (n := "taken") rfl, in_taken_w r5.en.inc, va]
    refine (take_ok (many := 5) r5.hand (by omega) (by omega) (by omega)).imp fun u S6 z => ?_
    obtain ⟨w, rfl, hw, H6, s6⟩ := z
    have r6 := r5.grow s6.grow H6
    have q6 := q5'.keep ((Grow.keepL s6.grow).more (by simp))
    have en : Val.int ((m : Int) + 1000 + (w : Int)) = natV (m + 1000 + w) := by unfold natV; congr 1
    simp -dsimp [wO_eMeth, in_pick r6.en.inc.ob (n := "take") rfl, LL]
    rw [en]
    refine in_take_w (k := m + 1000 + w) r6.en.inc (by omega) (by omega) fun f S7 u1 u2 u3 u4 => ?_
    have ea : addA m (m + 1000 + w) (.tup [.str "far"]) A = A := by unfold addA; rw [if_neg (by omega)]
    rw [ea, pops_none r6.en.ok.no] at u2 u3
    have r7 : Run S7 h (n + i * 700 + 600 + 2) o t' e d th al mi hd ts g' m A := by
      have N := r6.pl
      have k3 : ∀ j ob, j ≠ e → j ≠ d → S6[j]? = some ob → S7[j]? = some ob := fun j ob a1 a2 q => u4.at q (by simp; exact ⟨a1, a2⟩)
      obtain ⟨p1, p2, p3, p4, p5, p6, p7, p8, p9⟩ := r6.pl
      exact ⟨r6.pl, r6.hand.keepL u4 fun j hj => by simp; omega, ⟨⟨k3 _ _ (N.ne 0 2) (N.ne 0 3) r6.en.out.ob, k3 _ _ (N.ne 1 2) (N.ne 1 3) r6.en.out.li, r6.en.out.sm⟩, u3, k3 _ _ (Ne.symm (N.ne 2 4)) (Ne.symm (N.ne 3 4)) r6.en.lis, ⟨k3 _ _ (Ne.symm (N.ne 2 6)) (Ne.symm (N.ne 3 6)) r6.en.mind.mi, k3 _ _ (Ne.symm (N.ne 2 7)) (Ne.symm (N.ne 3 7)) r6.en.mind.di, r6.en.mind.sm⟩, r6.en.ok⟩, k3 _ _ (Ne.symm (N.ne 2 5)) (Ne.symm (N.ne 3 5)) r6.all⟩
    have q7 := q6.keep (u4.more (by simp))
    simp -dsimp
    have eq7 : eqv1 (S7 ++ [Ob.lst []]) (.ref f) (.ref S7.length) = some true := eqv1_lists (at_app u2 _) at_new (by simp) (by simp)
    simp -dsimp [eq7]
    have r8 := r7.ex (Ex.app (T := [.lst []]))
    have q8 := q7.keep (KeepL.ex (Ex.app (T := [.lst []])))
    simp -dsimp [wO_eMeth, in_pick r8.en.inc.ob (n := "held") rfl]
    refine (in_held_w r8.en.inc).wk fun S9 a9 => ?_
    have r9 := r8.ex a9
    simp -dsimp
    rw [lkeys_A r9.en.mind (by intro P E; simp -dsimp [mind_held r9.en.mind])]
    simp -dsimp
    have q6' : (S9 ++ [Ob.lst (A.map (natV ∘ fun x => x.1))])[S9.length]? = some (.lst ((A.map (·.1)).map natV)) := by rw [List.map_map]; exact at_new
    rw [fSorted_nats q6' (by simp; omega)]
    simp -dsimp
    have cl : clb (.tup ((heldL A).map natV)) = true := by
      rw [clb_tup, clbs_iff]
      intro y hy
      obtain ⟨z, _, rfl⟩ := List.mem_map.mp hy
      simp [natV]
    have dp : dep (.tup ((heldL A).map natV)) ≤ 1 := by
      have : deps ((heldL A).map natV) ≤ 0 := deps_le fun y hy => by
        obtain ⟨z, _, rfl⟩ := List.mem_map.mp hy
        simp [natV]
      simp; omega
    have eqs : ∀ S4, eqv1 S4 (.tup ((heldL A).map natV)) (.tup ((sortN (A.map fun x => x.1)).map natV)) = some true := fun S4 => eqv1_self cl (by omega)
    simp -dsimp [eqs]
    have aa : Ex S9 (S9 ++ [Ob.lst (A.map (natV ∘ fun x => x.1)), Ob.lst ((sortN (A.map fun x => x.1)).map natV)]) := Ex.app
    exact K _ _ ⟨t', ts, g', m, A, v, x0, _, _, _, _, rfl, ⟨r9.pl, (r9.ex aa).hand.more (by omega), (r9.ex aa).en, (r9.ex aa).all⟩, .inr ((q8.keep (KeepL.ex a9)).keep (KeepL.ex aa))⟩
  · simp -dsimp [cw]
    exact K _ S4 ⟨t', ts, g', m, A, kv, x0, _, _, _, _, rfl, ⟨r4.pl, r4.hand.more (by omega), r4.en, r4.all⟩, hk4⟩
end
end K30

set_option Elab.async false
set_option linter.all false
set_option maxRecDepth 100000
set_option maxHeartbeats 400000
namespace K30
open PySem PySem.Spec PyProof.Rows L2 Mp
noncomputable def firstEnd : En → Store → Res := (sSeq (sSet 12 (eMeth "waiting" [("Outgoing", g_Outgoing_waiting)] (eV 2) aNil)) (sSeq (sExpr (eLm lAppend (eV 12) (aCons (eTup (aCons (eC (.int 0)) (aCons (eTup aNil) aNil))) aNil))) (sRet (eAnd (eB2 vEq (eMeth "waiting" [("Outgoing", g_Outgoing_waiting)] (eV 2) aNil) (eLst aNil)) (eCall (g_law_same 20) (aCons (eMeth "known" [("Outgoing", g_Outgoing_known)] (eV 2) (aCons (eC (.int 0)) aNil)) (aCons (eC (.int 0)) aNil)))))))
noncomputable def firstKept : En → Store → Res := (sIf (bV (eB2 vIsN (eV 8) (eC .non))) (sSeq (sIf (bNot (bV (eCall g_law_ends_right (aCons (eB2 vIx (eV 8) (eC (.int 0))) (aCons (eB2 vIx (eV 8) (eC (.int 1))) (aCons (eB2 vIx (eV 8) (eC (.int 2))) (aCons (eB2 vIx (eV 8) (eC (.int 3))) (aCons (eB2 vIx (eV 8) (eC (.int 4))) aNil)))))))) (sRet (eC (.bl false))) sNil) (sIf (bNot (bV (eCall g_law_drained (aCons (eB2 vIx (eV 8) (eC (.int 0))) (aCons (eB2 vIx (eV 8) (eC (.int 1))) (aCons (eCall fLen (aCons (eB2 vIx (eV 8) (eC (.int 2))) aNil)) aNil)))))) (sRet (eC (.bl false))) sNil)) sNil)
noncomputable def firstTail : En → Store → Res := (sSeq (sIf (bOr (bNot (bV (eCall g_law_drained (aCons (eV 2) (aCons (eV 3) (aCons (eCall fLen (aCons (eV 4) aNil)) aNil)))))) (bOr (bV (eB2 vNe (eMeth "taken" [("Incoming", g_Incoming_taken)] (eV 3) aNil) (eCall fLen (aCons (eV 4) aNil)))) (bV (eB2 vNe (eMeth "held" [("Incoming", g_Incoming_held)] (eV 3) aNil) (eTup aNil))))) (sRet (eC (.bl false))) sNil) (sSeq firstKept firstEnd))
theorem first_s_eq : g_law_first_s = (sSeq (sSet 1 (eCall g_law_hand (aCons (eV 0) aNil))) (sSeq (sSet 2 (eCall (fMake "Outgoing" g_Outgoing_init) aNil)) (sSeq (sSet 3 (eCall (fMake "Incoming" g_Incoming_init) aNil)) (sSeq (sSet 4 (eLst aNil)) (sSeq (sSet 5 (eLst aNil)) (sSeq (sSet 6 (eDisp (((eC (.str "taken")), (eC (.int 0))) :: (((eC (.str "held")), eDk) :: [])))) (sSeq (sSet 7 (eC (.int 0))) (sSeq (sSet 8 (eC .non)) (sSeq (sFor (iR1 (aCons (eCall g_law_pick (aCons (eV 1) (aCons (eLst (aCons (eC (.int 5)) (aCons (eC (.int 20)) (aCons (eC (.int 60)) aNil)))) aNil))) aNil)) (gN 9) g_law_first_b1) firstTail))))))))) := rfl
section
variable {S : Store} {h n o t e d th al mi hd : Nat} {ts : List Val} {g m : Nat} {A : AL}
def tailR : RP := ⟨fun _ _ => False, fun v _ => v = .bl true, fun _ _ => False, fun _ _ => False, fun _ _ _ _ => False⟩
theorem first_end {x0 x1 x3 x4 x5 x6 x7 x8 x9 x10 x11 x12 : Option Val} (ho : OutAt S o n t []) : wR (firstEnd [x0, x1, some (.ref o), x3, x4, x5, x6, x7, x8, x9, x10, x11, x12] S) tailR := by
  have LL : LIM = 100000 := rfl
  unfold firstEnd
  simp -dsimp [wO_eMeth, out_pick ho.ob (n := "waiting") rfl]
  refine (waiting_ok ho).wk fun r S1 a1 l1 q1 => ?_
  have o1 := ho.ex a1
  have ew : waitL n [] = [] := rfl
  rw [ew] at q1
  have ne : o ≠ r := fun z => by have := o1.ob; rw [z, q1] at this; cases this
  have net : t ≠ r := by have := lt_at ho.li; omega
  simp -dsimp [q1, LL]
  have o2 : OutAt (S1.set r (.lst [.tup [.int 0, .tup []]])) o n t [] := ⟨set_at (Ne.symm ne) o1.ob, set_at (Ne.symm net) o1.li, by simp⟩
  simp -dsimp [wO_eMeth, out_pick o2.ob (n := "waiting") rfl]
  refine (waiting_ok o2).wk fun r2 S2 a2 l2 q2 => ?_
  rw [ew] at q2
  simp -dsimp
  have eq7 : eqv1 (S2 ++ [Ob.lst []]) (.ref r2) (.ref S2.length) = some true := eqv1_lists (at_app q2 _) at_new (by simp) (by simp)
  have o3 := (o2.ex a2).ex (Ex.app (T := [.lst []]))
  simp -dsimp [eq7, wO_eMeth, out_pick o3.ob (n := "known") rfl]
  refine (known_w (k := 0) o3 (by omega)).imp fun v S3 z => ?_
  obtain ⟨rfl, o4, k4⟩ := z
  have e0 : natV (0 - n) = .int 0 := by simp [natV]
  simp -dsimp [e0]
  refine (same_clb 20 S3 (.int 0) (by simp) (by simp) (by omega)).wk fun S4 a4 => ?_
  simp -dsimp [tailR]
theorem first_kept {x0 x1 x3 x4 x5 x6 x7 x9 x10 x11 x12 : Option Val} {kv : Val} {F : List Nat} (ho : OutAt S o n t []) (hF : o ∈ F) (hk : kv = .non ∨ Kp S F kv) {R : RP}
    (K : ∀ S', OutAt S' o n t [] → R.nx [x0, x1, some (.ref o), x3, x4, x5, x6, x7, some kv, x9, x10, x11, x12] S') : wR (firstKept [x0, x1, some (.ref o), x3, x4, x5, x6, x7, some kv, x9, x10, x11, x12] S) R := by
  have LL : LIM = 100000 := rfl
  unfold firstKept
  rcases hk with rfl | hk
  · simp -dsimp [isV]
    exact K S ho
  · obtain ⟨o2, t2, e2, d2, th2, mi2, hd2, ts, g, m, A, rfl, E, hn⟩ := hk.ex
    have iv : isV (.tup [.ref o2, .ref e2, .ref th2, natV g, .ref mi2]) .non = some false := rfl
    simp -dsimp [iv]
    refine (ends_right E).wk fun S1 a1 => ?_
    have E1 := E.ex a1
    simp -dsimp [E1.lis]
    refine (drained_ok E1.out E1.inc E1.ok).imp fun v S2 z => ?_
    obtain ⟨rfl, z1, z2, z3⟩ := z
    simp -dsimp
    have o1 := ho.ex a1
    have nt : t ∉ [o2, e2, d2] := by
      have y1 : t ≠ o2 := fun z => by have := o1.li; rw [z, E1.out.ob] at this; cases this
      have y2 : t ≠ e2 := fun z => by have := o1.li; rw [z, E1.inc.ob] at this; cases this
      have y3 : t ≠ d2 := fun z => by have := o1.li; rw [z, E1.inc.di] at this; cases this
      simp; exact ⟨y1, y2, y3⟩
    have no : o ∉ [o2, e2, d2] := by
      have y1 : o ≠ o2 := fun z => hn o2 (by simp) (z ▸ hF)
      have y2 : o ≠ e2 := fun z => hn e2 (by simp) (z ▸ hF)
      have y3 : o ≠ d2 := fun z => hn d2 (by simp) (z ▸ hF)
      simp; exact ⟨y1, y2, y3⟩
    exact K S2 ⟨z3.at o1.ob no, z3.at o1.li nt, by simp⟩
theorem first_tail {i : Nat} {en : En} {S0 : Store} (I : FI S0 h n o e d th al mi hd i en S) : wR (firstTail en S) tailR := by
  have LL : LIM = 100000 := rfl
  obtain ⟨t, ts, g, m, A, kv, x0, x9, x10, x11, x12, rfl, r, hk⟩ := I
  have hkept := @first_kept
  have hend := @first_end
  unfold firstTail
  generalize firstKept = KK at *
  generalize firstEnd = EE at *
  simp -dsimp [r.en.lis]
  refine (drained_ok r.en.out r.en.inc r.en.ok).imp fun v S2 z => ?_
  obtain ⟨rfl, ⟨t', z1⟩, z2, z3⟩ := z
  have hk2 : kv = .non ∨ Kp S2 [h, o, t, e, d, th, al, mi, hd] kv := hk.imp id fun q => q.keep (z3.more (by simp))
  have N := r.pl
  have lis2 : S2[th]? = some (.lst ts) := z3.at r.en.lis (by simp; exact ⟨Ne.symm (N.ne 0 4), Ne.symm (N.ne 2 4), Ne.symm (N.ne 3 4)⟩)
  have eqm : ∀ S4, eqv1 S4 (natV ts.length) (.int (ts.length : Int)) = some true := fun S4 => by simp [natV]
  simp -dsimp [wO_eMeth, in_pick z2.ob (n := "taken") rfl, in_taken_w z2, lis2, eqm, in_pick z2.ob (n := "held") rfl]
  refine (in_held_w z2).wk fun S3 a3 => ?_
  have eh : heldL [] = [] := by simp [heldL, sortN]
  have eqs : eqv1 S3 (.tup []) (.tup []) = some true := eqv1_self (by simp) (by simp)
  simp -dsimp [eh, LL, eqs]
  refine hkept (z1.ex a3) (F := [h, o, t, e, d, th, al, mi, hd]) (by simp) (hk2.imp id fun q => q.keep (KeepL.ex a3)) fun S4 o4 => ?_
  simp -dsimp
  exact hend o4
theorem first_ok (ns : List Int) (S : Store) : wO (g_law_first [.frz (ns.map .int)] S) (fun v _ => v = .bl true) noX := by
  have LL : LIM = 100000 := rfl
  have ht := @first_tail
  have hb := @turn_ok
  have eg : g_law_first = fnB 13 1 g_law_first_s := rfl
  rw [eg, first_s_eq]
  generalize firstTail = TT at *
  generalize g_law_first_b1 = B1 at *
  simp -dsimp [wO_fnB]
  refine (hand_ok ns S).imp fun v S1 z => ?_
  obtain ⟨rfl, H1, T, rfl⟩ := z
  generalize S.length + 1 = h at *
  generalize hS1 : S ++ T = S1 at *
  simp -dsimp [out_make, in_make, LL, wO_disp2]
  have lh := H1.lt
  generalize hz : S1.length = z at *
  have at1 : (S1 ++ [outO 0 (z + 1), Ob.lst [], inO 0 (z + 2 + 1), Ob.dk [], Ob.lst [], Ob.lst [], Ob.dk [], Ob.dk []])[z + 6]? = some (.dk []) := by
    rw [← hz, at_off]; rfl
  rw [wO_kDisp2 at1]
  have st : (S1 ++ [outO 0 (z + 1), Ob.lst [], inO 0 (z + 2 + 1), Ob.dk [], Ob.lst [], Ob.lst [], Ob.dk [], Ob.dk []]).set (z + 6) (.dk [(.inr "taken", .int 0), (.inr "held", .ref (z + 7))]) =
      S1 ++ [outO 0 (z + 1), Ob.lst [], inO 0 (z + 2 + 1), Ob.dk [], Ob.lst [], Ob.lst [], .dk [(.inr "taken", .int 0), (.inr "held", .ref (z + 7))], Ob.dk []] := by
    rw [← hz, List.set_append_right _ _ (by omega)]
    simp
  rw [st]
  have r1 : Run (S1 ++ [outO 0 (z + 1), Ob.lst [], inO 0 (z + 2 + 1), Ob.dk [], Ob.lst [], Ob.lst [], .dk [(.inr "taken", .int 0), (.inr "held", .ref (z + 7))], Ob.dk []]) h 0 z (z + 1) (z + 2) (z + 3) (z + 4) (z + 5) (z + 6) (z + 7) [] 0 0 [] := by
    have o0 : (S1 ++ [outO 0 (z + 1), Ob.lst [], inO 0 (z + 2 + 1), Ob.dk [], Ob.lst [], Ob.lst [], .dk [(.inr "taken", .int 0), (.inr "held", .ref (z + 7))], Ob.dk []])[z]? = some (outO 0 (z + 1)) := by rw [← hz]; exact at_new
    refine ⟨⟨by omega, by omega, by omega, by omega, by omega, by omega, by omega, by omega, ?_⟩, H1.app _, ⟨⟨o0, by rw [← hz, at_off]; rfl, by simp⟩, ⟨by rw [← hz, at_off]; rfl, by rw [← hz, at_off]; rfl, by simp⟩, by rw [← hz, at_off]; rfl, ⟨by rw [← hz, at_off]; rfl, by rw [← hz, at_off]; rfl, by simp⟩, ⟨by simp, by simp, by simp, by simp, by simp, ⟨by simp, by simp⟩, rfl⟩⟩, by rw [← hz, at_off]; rfl⟩
    simp
  generalize S1 ++ [outO 0 (z + 1), Ob.lst [], inO 0 (z + 2 + 1), Ob.dk [], Ob.lst [], Ob.lst [], .dk [(.inr "taken", .int 0), (.inr "held", .ref (z + 7))], Ob.dk []] = S2 at *
  simp -dsimp [wR_sFor, LL]
  have r2 := r1.ex (Ex.app (T := [.lst [.int 5, .int 20, .int 60]]))
  have lh2 := r1.hand.lt
  refine (pick_ok r2.hand (by omega) at_new (by omega) (by simp) (by simp)).imp fun v S3 q => ?_
  obtain ⟨hv, H3, s3⟩ := q
  have r3 := r2.grow s3.grow H3
  obtain ⟨u, rfl, hu⟩ : ∃ u : Nat, v = .int (u : Int) ∧ u ≤ 60 := by
    simp at hv
    rcases hv with rfl | rfl | rfl
    · exact ⟨5, rfl, by omega⟩
    · exact ⟨20, rfl, by omega⟩
    · exact ⟨60, rfl, by omega⟩
  have rg : RNG = 1152921504606846976 := by unfold RNG; decide
  simp -dsimp
  refine ⟨⟨by omega, by omega⟩, ?_⟩
  refine wR_forX (upL 0 u) (fun i en S' => FI S h 1 z (z + 2) (z + 3) (z + 4) (z + 5) (z + 6) (z + 7) i en S') ⟨z + 1, [], 0, 0, [], .non, _, _, _, _, _, rfl, by simpa using r3, .inl rfl⟩ (fun i x en S' hx hI => ?_) fun en S' hI => ?_
  · obtain ⟨hi, rfl⟩ := rng_get hx
    refine ⟨trivial, en.set 9 (some (natV i)), rfl, ?_⟩
    exact hb (by omega) (by omega) hI fun en' S' hI' => hI'
  · refine ⟨trivial, ?_⟩
    have := ht hI
    exact this.mono (fun _ _ z => z.elim) (fun _ _ z => z) (fun _ _ z => z) (fun _ _ z => z) fun _ _ _ _ z => z
end
end K30

set_option Elab.async false
set_option linter.all false
set_option maxRecDepth 100000
set_option maxHeartbeats 400000
namespace K30
open PySem PySem.Spec PyProof.Rows L2 Mp
/-! ### states of ends, judged -/
noncomputable def linkB : Val → Bool
  | .int i => decide (0 ≤ i) && decide (i < bigI 4294967296)
  | _ => false
def pairB : Val → Bool
  | .tup xs => decide (xs.length = 2)
  | _ => false
noncomputable def outB : Val → Bool
  | .tup [a, .tup xs] => linkB a && xs.all thB
  | _ => false
noncomputable def heldB (a : Int) : Int → List Val → Bool
  | _, [] => true
  | l, .tup [.int k, y] :: r => thB y && (decide (l < k) && (decide (k < a + 1000) && heldB a k r))
  | _, _ :: _ => false
noncomputable def inB : Val → Bool
  | .tup [.int a, .tup xs] => linkB (.int a) && heldB a a xs
  | _ => false
theorem heldB_cons {a l : Int} {x : Val} {r : List Val} : heldB a l (x :: r) = true ↔ ∃ k y, x = .tup [.int k, y] ∧ thB y = true ∧ l < k ∧ k < a + 1000 ∧ heldB a k r = true := by
  constructor
  · intro h
    unfold heldB at h
    split at h
    · rename_i h1 h2; cases h2
    · rename_i h2
      cases h2
      simp at h
      exact ⟨_, _, rfl, h.1, h.2.1, h.2.2.1, h.2.2.2⟩
    · cases h
  · rintro ⟨k, y, rfl, h1, h2, h3, h4⟩
    simp [heldB, h1, h2, h3, h4]
section
variable {S : Store} {v : Val} {P : Val → Store → Prop} {E : XO}
theorem link_g (f : Fit S v) : wO (g_is_link_number [v] S) P E = P (.bl (linkB v)) S := by
  simp -dsimp [wO_fnB, g_is_link_number, g_is_link_number_s, is_number_w f]
  cases v <;> simp [numB, linkB]
  rename_i i
  by_cases c : 0 ≤ i <;> simp [c]
theorem pair_g (f : Fit S v) : wO (g_is_pair [v] S) P E = P (.bl (pairB v)) S := by
  have key : ∀ xs : List Val, ((xs.length : Int) = 2) = (xs.length = 2) := fun xs => by apply propext; omega
  cases v with
  | ref j => rcases ty_ref' f with ht | ht <;> simp [wO_fnB, g_is_pair, g_is_pair_s, ht, tyNames, subTy, pairB]
  | frz xs => obtain ⟨t, ht⟩ := f; simp [tyOf] at ht
  | tup xs => simp [wO_fnB, g_is_pair, g_is_pair_s, tyOf, tyNames, subTy, pairB, key]
  | _ => simp [wO_fnB, g_is_pair, g_is_pair_s, tyOf, tyNames, subTy, pairB]
theorem is_out_pu (hd : DF S v) (hs : szV v ≤ 40000) : Pu (g_is_outgoing_state [v] S) S (.bl (outB v)) := by
  have LL : LIM = 100000 := rfl
  refine Pu.of ?_
  have pf := hd.fit
  have bad : pairB v = false → outB v = false := fun h => by
    unfold outB
    split
    · simp [pairB] at h
    · rfl
  simp -dsimp [wO_fnB, g_is_outgoing_state, g_is_outgoing_state_s, pair_g pf]
  cases cp : pairB v with
  | false => simp -dsimp [bad cp]
  | true =>
    obtain ⟨a, b, rfl⟩ : ∃ a b, v = .tup [a, b] := by
      cases v <;> simp [pairB] at cp
      rename_i xs
      match xs, cp with
      | [a, b], _ => exact ⟨a, b, rfl⟩
    cases hd with
    | tup h =>
    have da := h a (by simp)
    have db := h b (by simp)
    simp -dsimp [link_g da.fit]
    cases cl : linkB a with
    | false =>
      have : outB (.tup [a, b]) = false := by unfold outB; split <;> simp_all
      simp -dsimp [this]
    | true =>
      have fb := db.fit
      cases b with
      | tup xs =>
        have : outB (.tup [a, .tup xs]) = xs.all thB := by simp [outB, cl]
        rw [this]
        simp -dsimp [tyOf, tyNames, subTy, wO_lc]
        have hdx : ∀ x ∈ xs, DF S x := by cases db with | tup h => exact h
        have sl : xs.length ≤ szs xs := szs_len'
        simp at hs
        refine wO_lcV (fun x => .bl (thB x)) (by omega) (fun _ _ => trivial) (fun x hx S' a => ⟨_, rfl, Pu.of ?_⟩) fun S' a q => ?_
        · have := szV_mem hx
          simp -dsimp [g_is_outgoing_state_e1, wipeE]
          refine (is_thing_pu ((hdx x hx).ex a) (by omega)).wk fun S2 a2 => ?_
          exact isP_ex a2
        · simp -dsimp [fAll_map q]
          exact isP_ex a
      | frz xs => obtain ⟨t, ht⟩ := fb; simp [tyOf] at ht
      | ref j => rcases ty_ref' fb with ht | ht <;> simp -dsimp [ht, tyNames, subTy, outB]
      | _ => simp -dsimp [tyOf, tyNames, subTy, outB]
theorem wi_link : wiB v 0 4294967295 = linkB v := by
  cases v <;> simp [wiB, linkB, bigI_eq]
  rename_i i
  rw [Bool.eq_iff_iff]
  simp
  omega
theorem tupB_g (f : Fit S v) : ∃ t, tyOf S v = some t ∧ t ∈ tyNames ∧ subTy t "tuple" = isTup v := by
  cases v with
  | ref j => rcases ty_ref' f with ht | ht <;> exact ⟨_, ht, by decide, by simp [subTy, isTup]⟩
  | frz xs => obtain ⟨t, ht⟩ := f; simp [tyOf] at ht
  | _ => exact ⟨_, rfl, by decide, by simp [subTy, isTup]⟩
theorem isTup_ex {v : Val} (h : isTup v = true) : ∃ xs, v = .tup xs := isTup_of h
theorem law_is_out_pu (hd : DF S v) (hs : szV v ≤ 40000) (hp : dep v ≤ 15) : Pu (g_law_is_out [v] S) S (.bl (outB v)) := by
  have LL : LIM = 100000 := rfl
  have cp32 : CP 2 32 := ⟨by decide, by decide, by decide⟩
  refine Pu.of ?_
  obtain ⟨t, t1, t2, t3⟩ := tupB_g hd.fit
  simp -dsimp [wO_fnB, g_law_is_out, g_law_is_out_s, t1, t2, t3]
  cases c0 : isTup v with
  | false =>
    have : outB v = false := by
      unfold outB
      split
      · simp [isTup] at c0
      · rfl
    simp -dsimp [this]
  | true =>
    obtain ⟨zs, rfl⟩ := isTup_of c0
    by_cases c2 : zs.length = 2
    · obtain ⟨a, b, rfl⟩ : ∃ a b, zs = [a, b] := by
        match zs, c2 with
        | [a, b], _ => exact ⟨a, b, rfl⟩
      cases hd with
      | tup h =>
      have da := h a (by simp)
      have db := h b (by simp)
      simp -dsimp
      refine ⟨cp32, ?_⟩
      rw [is_within_w da.fit, wi_link]
      cases cl : linkB a with
      | false =>
        have : outB (.tup [a, b]) = false := by unfold outB; split <;> simp_all
        simp -dsimp [this]
      | true =>
        obtain ⟨u, u1, u2, u3⟩ := tupB_g db.fit
        simp -dsimp [u1, u2, u3]
        cases cb : isTup b with
        | false =>
          have : outB (.tup [a, b]) = false := by
            unfold outB
            split
            · rename_i h; cases h; simp [isTup] at cb
            · rfl
          simp -dsimp [this]
        | true =>
          obtain ⟨xs, rfl⟩ := isTup_of cb
          have : outB (.tup [a, .tup xs]) = xs.all thB := by simp [outB, cl]
          rw [this]
          simp -dsimp [wO_lc]
          have hdx : ∀ x ∈ xs, DF S x := by cases db with | tup h => exact h
          have sl : xs.length ≤ szs xs := szs_len'
          simp at hs hp
          refine wO_lcV (fun x => .bl (thB x)) (by omega) (fun _ _ => trivial) (fun x hx S' a => ⟨_, rfl, Pu.of ?_⟩) fun S' a q => ?_
          · have := dep_mem hx
            simp -dsimp [g_law_is_out_e1, wipeE]
            refine (law_is_thing_pu 20 S' x ((hdx x hx).ex a) (by omega)).wk fun S2 a2 => ?_
            exact isP_ex a2
          · simp -dsimp [fAll_map q]
            exact isP_ex a
    · have c2' : ¬ ((zs.length : Int) = 2) := by omega
      have : outB (.tup zs) = false := by
        unfold outB
        split
        · rename_i h; cases h; simp at c2
        · rfl
      simp -dsimp [c2, c2', this]
/-- an end made of its state -/
theorem outgoing_of_w (hd : DF S v) (hs : szV v ≤ 40000) (k1 : outB v = false → ∀ S', Ex S S' → E "NoState" [] S') (k2 : outB v = true → ∀ (g : Nat) xs S' o t, v = .tup [natV g, .tup xs] → Ex S S' → OutAt S' o g t xs → S.length ≤ o → S.length ≤ t → P (.ref o) S') :
    wO (g_outgoing_of [v] S) P E := by
  have LL : LIM = 100000 := rfl
  have n1 : ¬ (("many_known" : Str) = "things") := by decide
  simp -dsimp [wO_fnB, g_outgoing_of, g_outgoing_of_s]
  refine (is_out_pu hd hs).wk fun S1 a1 => ?_
  cases c : outB v with
  | false => simp -dsimp; exact k1 c S1 a1
  | true =>
    obtain ⟨g, xs, rfl, hx⟩ : ∃ (g : Nat) (xs : List Val), v = .tup [natV g, .tup xs] ∧ xs.length ≤ 40000 := by
      unfold outB at c
      split at c
      · rename_i a xs
        simp at c
        have sl : xs.length ≤ szs xs := szs_len'
        cases a <;> simp [linkB] at c
        rename_i i
        obtain ⟨g, rfl⟩ := Int.eq_ofNat_of_zero_le c.1.1
        exact ⟨g, xs, rfl, by simp at hs; omega⟩
      · cases c
    simp -dsimp [out_make, wR_sFldS]
    have h1 : (S1 ++ [outO 0 (S1.length + 1), Ob.lst []])[S1.length]? = some (outO 0 (S1.length + 1)) := at_new
    rw [wR_kFld h1 (by simp) (by simp)]
    simp -dsimp [putS, natV, wR_sFldS]
    have h2 : (S1 ++ [outO g (S1.length + 1), Ob.lst [], .lst xs])[S1.length]? = some (outO g (S1.length + 1)) := at_new
    rw [wR_kFld h2 (by simp) (by simp)]
    simp -dsimp [putS, n1]
    have l1 := a1.le
    refine k2 c g xs _ S1.length (S1.length + 2) rfl (a1.trans Ex.app) ⟨at_new, ?_, by omega⟩ l1 (by omega)
    rw [at_off]; rfl
noncomputable def toldV (b : Bool) (v : Val) : Val := if b = true then .tup [.str "told", v] else .tup [.str "NoState"]
theorem out_told_pu (hd : DF S v) (hs : szV v ≤ 40000) : Pu (g_law_out_told [v] S) S (toldV (outB v) v) := by
  have LL : LIM = 100000 := rfl
  refine Pu.of ?_
  simp -dsimp [wO_fnB, g_law_out_told, g_law_out_told_s, wR_sTry, wO_eMeth]
  refine outgoing_of_w hd hs (fun c S' a => ?_) fun c g xs S' o t e a h _ _ => ?_
  · simp [wH, c, toldV]
    exact ⟨by omega, isP_ex a⟩
  · simp -dsimp [out_pick h.ob (n := "state") rfl, out_state_w h, c, toldV]
    subst e
    exact ⟨by omega, isP_ex a⟩
end
end K30

set_option Elab.async false
set_option linter.all false
set_option maxRecDepth 100000
set_option maxHeartbeats 400000
namespace K30
open PySem PySem.Spec PyProof.Rows L2 Mp
theorem pairB_of {x : Val} (h : pairB x = true) : ∃ p q, x = .tup [p, q] := by
  cases x <;> simp [pairB] at h
  rename_i xs
  match xs, h with
  | [a, b], _ => exact ⟨a, b, rfl⟩
theorem bf {b : Bool} (h : b = true → False) : b = false := by cases b <;> simp_all
theorem drop_cons {α : Type} {xs : List α} {i : Nat} {x : α} (h : xs[i]? = some x) : xs.drop i = x :: xs.drop (i + 1) := by
  obtain ⟨hl, e⟩ := List.getElem?_eq_some_iff.mp h
  rw [List.drop_eq_getElem_cons hl, e]
section
variable {S : Store} {v : Val} {P : Val → Store → Prop} {E : XO} {a : Int}
noncomputable def heldsB (a : Int) : Val → Bool
  | .tup xs => heldB a a xs
  | _ => false
theorem are_held_pu (ha : 0 ≤ a) (hd : DF S v) (hs : szV v ≤ 40000) : Pu (g_are_held [.int a, v] S) S (.bl (heldsB a v)) := by
  have LL : LIM = 100000 := rfl
  refine Pu.of ?_
  obtain ⟨t, t1, t2, t3⟩ := tupB_g hd.fit
  cases c0 : isTup v with
  | false =>
    have ee : heldsB a v = false := by
      cases v with
      | tup xs => simp [isTup] at c0
      | _ => rfl
    rw [ee]
    simp -dsimp [wO_fnB, g_are_held, g_are_held_s, t1, t2, t3, c0]
  | true =>
    obtain ⟨xs, rfl⟩ := isTup_of c0
    have hdx : ∀ x ∈ xs, DF S x := by cases hd with | tup h => exact h
    simp at hs
    show wO (g_are_held [.int a, .tup xs] S) (isP (.bl (heldB a a xs)) S) noX
    simp -dsimp [wO_fnB, g_are_held, g_are_held_s, t1, t2, t3, c0, wR_sFor]
    refine wR_forX xs (fun i en S' => ∃ l, (∃ x3, en = [some (.int a), some (.tup xs), some (.int (l + 1)), x3]) ∧ 0 ≤ l ∧ heldB a a xs = heldB a l (xs.drop i) ∧ Ex S S') ⟨a, ⟨_, rfl⟩, ha, by simp, Ex.refl⟩ (fun i x en S' hx hI => ?_) fun en S' hI => ?_
    · obtain ⟨l, ⟨x3, rfl⟩, hl, e1, a1⟩ := hI
      refine ⟨trivial, _, rfl, ?_⟩
      rw [drop_cons hx] at e1
      have hxm := List.mem_of_getElem? hx
      have dx := (hdx x hxm).ex a1
      have sx := szV_mem hxm
      simp -dsimp [g_are_held_b1, pair_g dx.fit]
      cases cp : pairB x with
      | false =>
        have : heldB a l (x :: xs.drop (i + 1)) = false := bf fun h => by
          obtain ⟨k, y, rfl, _⟩ := heldB_cons.mp h
          simp [pairB] at cp
        rw [e1, this]
        simp -dsimp
        exact isP_ex a1
      | true =>
        obtain ⟨p, q, rfl⟩ := pairB_of cp
        cases dx with
        | tup h =>
        have dp := h p (by simp)
        have dq := h q (by simp)
        simp -dsimp [is_number_w dp.fit]
        cases cn : numB p with
        | false =>
          have : heldB a l (.tup [p, q] :: xs.drop (i + 1)) = false := bf fun h => by
            obtain ⟨k, y, z, _, z2, _⟩ := heldB_cons.mp h
            cases z
            simp [numB] at cn
            omega
          rw [e1, this]
          simp -dsimp
          exact isP_ex a1
        | true =>
          obtain ⟨k, rfl⟩ : ∃ k : Int, p = .int k := by cases p <;> simp [numB] at cn; exact ⟨_, rfl⟩
          simp -dsimp
          simp at sx
          refine (is_thing_pu dq (by omega)).wk fun S2 a2 => ?_
          have a12 := a1.trans a2
          have hc : heldB a l (.tup [.int k, q] :: xs.drop (i + 1)) = (thB q && (decide (l < k) && (decide (k < a + 1000) && heldB a k (xs.drop (i + 1))))) := by simp [heldB]
          rw [hc] at e1
          cases ct : thB q with
          | false =>
            rw [ct] at e1
            rw [e1]
            simp -dsimp
            exact isP_ex a12
          | true =>
            rw [ct] at e1
            by_cases c1 : l < k
            · have c1' : l + 1 ≤ k := by omega
              by_cases c2 : k < a + 1000
              · simp [c1, c2] at e1
                simp -dsimp [c1', c2]
                exact ⟨by omega, e1, a12⟩
              · simp [c1, c2] at e1
                rw [e1]
                simp -dsimp [c1', c2]
                exact isP_ex a12
            · have c1' : ¬ l + 1 ≤ k := by omega
              simp [c1] at e1
              rw [e1]
              simp -dsimp [c1']
              exact isP_ex a12
    · obtain ⟨l, ⟨x3, rfl⟩, hl, e1, a1⟩ := hI
      rw [List.drop_length] at e1
      refine ⟨trivial, ?_⟩
      have : heldB a a xs = true := by rw [e1]; simp [heldB]
      rw [this]
      simp -dsimp
      exact isP_ex a1
theorem is_in_pu (hd : DF S v) (hs : szV v ≤ 40000) : Pu (g_is_incoming_state [v] S) S (.bl (inB v)) := by
  refine Pu.of ?_
  simp -dsimp [wO_fnB, g_is_incoming_state, g_is_incoming_state_s, pair_g hd.fit]
  cases cp : pairB v with
  | false =>
    have : inB v = false := by
      unfold inB
      split
      · simp [pairB] at cp
      · rfl
    simp -dsimp [this]
  | true =>
    obtain ⟨p, q, rfl⟩ := pairB_of cp
    cases hd with
    | tup h =>
    have dp := h p (by simp)
    have dq := h q (by simp)
    simp -dsimp [link_g dp.fit]
    cases cl : linkB p with
    | false =>
      have : inB (.tup [p, q]) = false := by unfold inB; split <;> simp_all
      simp -dsimp [this]
    | true =>
      obtain ⟨k, rfl, hk⟩ : ∃ k : Int, p = .int k ∧ 0 ≤ k := by cases p <;> simp [linkB] at cl; exact ⟨_, rfl, cl.1⟩
      simp at hs
      simp -dsimp
      refine (are_held_pu hk dq (by omega)).wk fun S2 a2 => ?_
      have : inB (.tup [.int k, q]) = heldsB k q := by
        cases q <;> simp [inB, cl, heldsB]
      rw [this]
      exact isP_ex a2
theorem law_is_in_pu (hd : DF S v) (hs : szV v ≤ 40000) (hp : dep v ≤ 15) : Pu (g_law_is_in [v] S) S (.bl (inB v)) := by
  have LL : LIM = 100000 := rfl
  have cp32 : CP 2 32 := ⟨by decide, by decide, by decide⟩
  refine Pu.of ?_
  obtain ⟨t, t1, t2, t3⟩ := tupB_g hd.fit
  simp -dsimp [wO_fnB, g_law_is_in, g_law_is_in_s, t1, t2, t3]
  cases c0 : isTup v with
  | false =>
    have : inB v = false := by
      unfold inB
      split
      · simp [isTup] at c0
      · rfl
    simp -dsimp [this]
  | true =>
    obtain ⟨zs, rfl⟩ := isTup_of c0
    by_cases c2 : zs.length = 2
    · obtain ⟨p, q, rfl⟩ : ∃ a b, zs = [a, b] := by
        match zs, c2 with
        | [a, b], _ => exact ⟨a, b, rfl⟩
      cases hd with
      | tup h =>
      have da := h p (by simp)
      have db := h q (by simp)
      simp -dsimp
      refine ⟨cp32, ?_⟩
      rw [is_within_w da.fit, wi_link]
      cases cl : linkB p with
      | false =>
        have : inB (.tup [p, q]) = false := by unfold inB; split <;> simp_all
        simp -dsimp [this]
      | true =>
        obtain ⟨k0, rfl, hk0⟩ : ∃ k : Int, p = .int k ∧ 0 ≤ k := by cases p <;> simp [linkB] at cl; exact ⟨_, rfl, cl.1⟩
        obtain ⟨u, u1, u2, u3⟩ := tupB_g db.fit
        simp -dsimp [u1, u2, u3]
        cases cb : isTup q with
        | false =>
          have : inB (.tup [.int k0, q]) = false := by
            unfold inB
            split
            · rename_i h; cases h; simp [isTup] at cb
            · rfl
          simp -dsimp [this]
        | true =>
          obtain ⟨xs, rfl⟩ := isTup_of cb
          have ei : inB (.tup [.int k0, .tup xs]) = heldB k0 k0 xs := by simp [inB, cl]
          rw [ei]
          have hdx : ∀ x ∈ xs, DF S x := by cases db with | tup h => exact h
          have sl : xs.length ≤ szs xs := szs_len'
          simp at hs hp
          simp -dsimp [wR_sFor]
          refine wR_forX xs (fun i en S' => ∃ l, (∃ x3, en = [some (.tup [.int k0, .tup xs]), some (.int l), x3]) ∧ 0 ≤ l ∧ heldB k0 k0 xs = heldB k0 l (xs.drop i) ∧ Ex S S') ⟨k0, ⟨_, rfl⟩, hk0, by simp, Ex.refl⟩ (fun i x en S' hx hI => ?_) fun en S' hI => ?_
          · obtain ⟨l, ⟨x3, rfl⟩, hl, e1, a1⟩ := hI
            refine ⟨trivial, _, rfl, ?_⟩
            rw [drop_cons hx] at e1
            have hxm := List.mem_of_getElem? hx
            have dx := (hdx x hxm).ex a1
            have sx := szV_mem hxm
            have px := dep_mem hxm
            obtain ⟨w, w1, w2, w3⟩ := tupB_g dx.fit
            simp -dsimp [g_law_is_in_b1, w1, w2, w3]
            cases cx : isTup x with
            | false =>
              have : heldB k0 l (x :: xs.drop (i + 1)) = false := bf fun h => by
                obtain ⟨k, y, rfl, _⟩ := heldB_cons.mp h
                simp [isTup] at cx
              rw [e1, this]
              simp -dsimp
              exact isP_ex a1
            | true =>
              obtain ⟨ys, rfl⟩ := isTup_of cx
              by_cases cy : ys.length = 2
              · obtain ⟨p, q, rfl⟩ : ∃ a b, ys = [a, b] := by
                  match ys, cy with
                  | [a, b], _ => exact ⟨a, b, rfl⟩
                cases dx with
                | tup h =>
                have dp := h p (by simp)
                have dq := h q (by simp)
                simp -dsimp [is_integer_eq dp.fit]
                cases cn : intB p with
                | false =>
                  have : heldB k0 l (.tup [p, q] :: xs.drop (i + 1)) = false := bf fun h => by
                    obtain ⟨k, y, z, _⟩ := heldB_cons.mp h
                    cases z
                    simp [intB] at cn
                  rw [e1, this]
                  simp -dsimp
                  exact isP_ex a1
                | true =>
                  obtain ⟨k, rfl⟩ : ∃ k : Int, p = .int k := by cases p <;> simp [intB] at cn; exact ⟨_, rfl⟩
                  simp -dsimp
                  simp at sx px
                  refine (law_is_thing_pu 20 _ q dq (by omega)).wk fun S2 a2 => ?_
                  have a12 := a1.trans a2
                  have hc : heldB k0 l (.tup [.int k, q] :: xs.drop (i + 1)) = (thB q && (decide (l < k) && (decide (k < k0 + 1000) && heldB k0 k (xs.drop (i + 1))))) := by simp [heldB]
                  rw [hc] at e1
                  cases ct : thB q with
                  | false =>
                    rw [ct] at e1
                    rw [e1]
                    simp -dsimp
                    exact isP_ex a12
                  | true =>
                    rw [ct] at e1
                    by_cases c1 : l < k
                    · have c1' : ¬ k ≤ l := by omega
                      by_cases c3 : k < k0 + 1000
                      · have c3' : ¬ k0 + 1000 ≤ k := by omega
                        simp [c1, c3] at e1
                        simp -dsimp [c1', c3']
                        have c4 : ¬ (k ≥ k0 + 1000) := by omega
                        first
                          | exact ⟨by omega, e1, a12⟩
                          | (simp -dsimp [c4]; exact ⟨by omega, e1, a12⟩)
                      · have c3' : k0 + 1000 ≤ k := by omega
                        simp [c1, c3] at e1
                        rw [e1]
                        simp -dsimp [c1', c3']
                        exact isP_ex a12
                    · have c1' : k ≤ l := by omega
                      simp [c1] at e1
                      rw [e1]
                      simp -dsimp [c1']
                      exact isP_ex a12
              · have cy' : ¬ ((ys.length : Int) = 2) := by omega
                have : heldB k0 l (.tup ys :: xs.drop (i + 1)) = false := bf fun h => by
                  obtain ⟨k, y, z, _⟩ := heldB_cons.mp h
                  cases z
                  simp at cy
                rw [e1, this]
                simp -dsimp [cy, cy']
                exact isP_ex a1
          · obtain ⟨l, ⟨x3, rfl⟩, hl, e1, a1⟩ := hI
            rw [List.drop_length] at e1
            refine ⟨trivial, ?_⟩
            have : heldB k0 k0 xs = true := by rw [e1]; simp [heldB]
            rw [this]
            simp -dsimp
            exact isP_ex a1
    · have c2' : ¬ ((zs.length : Int) = 2) := by omega
      have : inB (.tup zs) = false := by
        unfold inB
        split
        · rename_i h; cases h; simp at c2
        · rfl
      simp -dsimp [c2, c2', this]
end
end K30

set_option Elab.async false
set_option linter.all false
set_option maxRecDepth 100000
set_option maxHeartbeats 400000
namespace K30
open PySem PySem.Spec PyProof.Rows L2 Mp
def pV (p : Nat × Val) : Val := .tup [natV p.1, p.2]
theorem held_list {a : Int} : ∀ {xs : List Val} {l : Int}, heldB a l xs = true → 0 ≤ l → ∃ A : AL, xs = A.map pV ∧ (A.map (·.1)).Pairwise (· < ·) ∧ ∀ p ∈ A, l < (p.1 : Int) ∧ (p.1 : Int) < a + 1000 ∧ thB p.2 = true
  | [], l, _, _ => ⟨[], rfl, by simp, by simp⟩
  | x :: r, l, h, hl => by
    obtain ⟨k, y, rfl, h1, h2, h3, h4⟩ := heldB_cons.mp h
    obtain ⟨k, rfl⟩ := Int.eq_ofNat_of_zero_le (by omega : 0 ≤ k)
    obtain ⟨A, rfl, q1, q2⟩ := held_list h4 (by omega)
    refine ⟨(k, y) :: A, rfl, ?_, fun p hp => ?_⟩
    · simp only [List.map_cons, List.pairwise_cons]
      refine ⟨fun z hz => ?_, q1⟩
      obtain ⟨p, hp, rfl⟩ := List.mem_map.mp hz
      have := (q2 p hp).1
      omega
    · rcases List.mem_cons.mp hp with rfl | hp
      · exact ⟨h2, h3, h1⟩
      · obtain ⟨z1, z2, z3⟩ := q2 p hp
        exact ⟨by omega, z2, z3⟩
theorem asc_nodup {l : List Nat} (h : l.Pairwise (· < ·)) : l.Nodup := h.imp fun z => Nat.ne_of_lt z
theorem heldP_asc {A : AL} (h : (A.map (·.1)).Pairwise (· < ·)) : heldP A = A.map pV := by
  have nd := asc_nodup h
  have e : heldL A = A.map (·.1) := by
    unfold heldL
    exact asc_ext _ _ (sortN_asc nd) h fun x => sortN_mem
  unfold heldP
  rw [e, List.map_map]
  refine List.map_congr_left fun p hp => ?_
  have : getA A p.1 = some p.2 := getA_of nd hp
  simp [this, pV]
section
variable {S : Store} {v : Val} {P : Val → Store → Prop} {E : XO}
theorem incoming_of_w (hd : DF S v) (hs : szV v ≤ 40000) (k1 : inB v = false → ∀ S', Ex S S' → E "NoState" [] S') (k2 : inB v = true → ∀ (m : Nat) (A : AL) S' e d, v = .tup [natV m, .tup (A.map pV)] → (A.map (·.1)).Pairwise (· < ·) → (∀ p ∈ A, m < p.1 ∧ p.1 < m + 1000 ∧ thB p.2 = true) → Ex S S' → InAt S' e m d A → S.length ≤ e → S.length ≤ d → P (.ref e) S') :
    wO (g_incoming_of [v] S) P E := by
  have LL : LIM = 100000 := rfl
  have n1 : ¬ (("many_taken" : Str) = "ahead") := by decide
  simp -dsimp [wO_fnB, g_incoming_of, g_incoming_of_s]
  refine (is_in_pu hd hs).wk fun S1 a1 => ?_
  cases c : inB v with
  | false => simp -dsimp; exact k1 c S1 a1
  | true =>
    obtain ⟨m, A, rfl, hx, hA, hA2⟩ : ∃ (m : Nat) (A : AL), v = .tup [natV m, .tup (A.map pV)] ∧ A.length ≤ 40000 ∧ (A.map (·.1)).Pairwise (· < ·) ∧ ∀ p ∈ A, m < p.1 ∧ p.1 < m + 1000 ∧ thB p.2 = true := by
      unfold inB at c
      split at c
      · rename_i a xs
        simp at c
        have sl : xs.length ≤ szs xs := szs_len'
        have c1 := c.1
        simp [linkB] at c1
        obtain ⟨g, rfl⟩ := Int.eq_ofNat_of_zero_le c1.1
        obtain ⟨A, rfl, q1, q2⟩ := held_list c.2 (by omega)
        refine ⟨g, A, rfl, by simp at hs sl; omega, q1, fun p hp => ?_⟩
        obtain ⟨z1, z2, z3⟩ := q2 p hp
        exact ⟨by omega, by omega, z3⟩
      · cases c
    have nd := asc_nodup hA
    simp -dsimp [in_make, wR_sFldS]
    have h1 : (S1 ++ [inO 0 (S1.length + 1), Ob.dk []])[S1.length]? = some (inO 0 (S1.length + 1)) := at_new
    rw [wR_kFld h1 (by simp) (by simp)]
    simp -dsimp [putS, natV, wR_sFldS, wO_dc, emO]
    have l1 := a1.le
    have n0 : (S1 ++ [inO m (S1.length + 1), Ob.dk []]).length = S1.length + 2 := by simp
    refine wO_dcI (A.map pV) (fun i S' => S' = S1 ++ [inO m (S1.length + 1), Ob.dk [], .dk (kvA (A.take i))]) (by simp [kvA]) (fun i x S' hx' hI => ?_) fun S' hI => ?_
    · subst hI
      refine ⟨trivial, ?_⟩
      rw [List.getElem?_map] at hx'
      obtain ⟨p, hp, rfl⟩ := Option.map_eq_some_iff.mp hx'
      refine ⟨_, rfl, ?_⟩
      have hd2 : (S1 ++ [inO m (S1.length + 1), Ob.dk [], .dk (kvA (A.take i))])[S1.length + 2]? = some (.dk (kvA (A.take i))) := by rw [at_off]; rfl
      have hl : (A.take i).length < LIM := by rw [List.length_take]; omega
      have pa : putA (A.take i) p.1 p.2 = A.take (i + 1) := by
        have nk : p.1 ∉ (A.take i).map (·.1) := fun z => by
          obtain ⟨q, hq, e⟩ := List.mem_map.mp z
          obtain ⟨j, hj⟩ := List.mem_iff_getElem?.mp hq
          have hji : j < i := by
            have := (List.getElem?_eq_some_iff.mp hj).1
            rw [List.length_take] at this; omega
          rw [List.getElem?_take_of_lt hji] at hj
          have e1 : (A.map (·.1))[j]? = some p.1 := by rw [List.getElem?_map, hj]; simp [e]
          have e2 : (A.map (·.1))[i]? = some p.1 := by rw [List.getElem?_map, hp]; rfl
          obtain ⟨w1, w2⟩ := List.getElem?_eq_some_iff.mp e1
          obtain ⟨w3, w4⟩ := List.getElem?_eq_some_iff.mp e2
          have := (List.getElem_inj nd).mp (w2.trans w4.symm)
          omega
        have tk : A.take (i + 1) = A.take i ++ [p] := by rw [List.take_succ, hp]; rfl
        rw [tk]
        unfold putA
        rw [if_neg]
        simp only [List.any_eq_true, decide_eq_true_eq, not_exists, not_and]
        exact fun q hq e => nk (List.mem_map.mpr ⟨q, hq, e⟩)
      have hp2 := putIx_A (v := p.2) (k := p.1) hd2 hl
      rw [pa] at hp2
      have st : (S1 ++ [inO m (S1.length + 1), Ob.dk [], .dk (kvA (A.take i))]).set (S1.length + 2) (.dk (kvA (A.take (i + 1)))) = S1 ++ [inO m (S1.length + 1), Ob.dk [], .dk (kvA (A.take (i + 1)))] := by
        rw [List.set_append_right _ _ (by omega)]; simp
      rw [st] at hp2
      have isd : isD (S1 ++ [inO m (S1.length + 1), Ob.dk [], .dk (kvA (A.take i))]) (S1.length + 2) = true := by simp only [isD, hd2]
      simp -dsimp [bYes, wipeE, pV]
      exact ⟨isd, by simp only [keyN, Option.bind_some, kvA_len, if_pos hl, put_A, pa]⟩
    · subst hI
      refine ⟨trivial, ?_⟩
      rw [List.length_map, List.take_length]
      have h2 : (S1 ++ [inO m (S1.length + 1), Ob.dk [], .dk (kvA A)])[S1.length]? = some (inO m (S1.length + 1)) := at_new
      simp -dsimp
      rw [wR_kFld h2 (by simp) (by simp)]
      simp -dsimp [putS, n1]
      refine k2 c m A _ S1.length (S1.length + 2) rfl hA hA2 (a1.trans Ex.app) ⟨at_new, ?_, by omega⟩ l1 (by omega)
      rw [at_off]; rfl
theorem in_told_pu (hd : DF S v) (hs : szV v ≤ 40000) : Pu (g_law_in_told [v] S) S (toldV (inB v) v) := by
  have LL : LIM = 100000 := rfl
  refine Pu.of ?_
  simp -dsimp [wO_fnB, g_law_in_told, g_law_in_told_s, wR_sTry, wO_eMeth]
  refine incoming_of_w hd hs (fun c S' a => ?_) fun c m A S' e d ev hA hA2 a h _ _ => ?_
  · simp [wH, c, toldV]
    exact ⟨by omega, isP_ex a⟩
  · simp -dsimp [in_pick h.ob (n := "state") rfl]
    refine (in_state_w h).wk fun S2 a2 => ?_
    simp -dsimp [c, toldV, heldP_asc hA]
    subst ev
    exact ⟨by omega, isP_ex (a.trans a2)⟩
theorem told_clb {S : Store} {v : Val} {b : Bool} (h : b = true → clb v = true) : clb (toldV b v) = true := by
  cases b with
  | false => simp [toldV, clb]; decide +kernel
  | true =>
    have := h rfl
    simp [toldV, this]
    simp [clb]; decide +kernel
theorem told_dep {v : Val} {b : Bool} (h : dep v ≤ 15) : dep (toldV b v) < 20 := by
  cases b <;> simp [toldV] <;> omega
theorem out_it (h : outB v = true) : itB v = true := by
  unfold outB at h
  split at h
  · rename_i a xs
    simp at h
    have : itB a = true := by cases a <;> simp [linkB] at h; simp [itB]
    have h2 : itsB xs = true := by
      rw [itsB_all, List.all_eq_true]
      exact fun x hx => by have := h.2 x hx; simp [thB] at this; exact this.2
    simp [this, h2]
  · cases h
theorem in_it (h : inB v = true) : itB v = true := by
  unfold inB at h
  split at h
  · rename_i a xs
    simp at h
    have c1 := h.1
    simp [linkB] at c1
    obtain ⟨A, rfl, q1, q2⟩ := held_list h.2 c1.1
    have h2 : itsB (A.map pV) = true := by
      rw [itsB_all, List.all_eq_true]
      intro x hx
      obtain ⟨p, hp, rfl⟩ := List.mem_map.mp hx
      have := (q2 p hp).2.2
      simp [thB] at this
      simp [pV, natV, this.2, itB]
    simp [h2, itB]
  · cases h
noncomputable def judgedRest : En → Store → Res := sSeq (sSet 1 (eTup (aCons (eC (.str "NoState")) aNil))) (sSeq (sIf (bV (eCall g_law_is_in (aCons (eV 0) aNil))) (sSet 1 (eTup (aCons (eC (.str "told")) (aCons (eV 0) aNil)))) sNil) (sRet (eCall (g_law_same 20) (aCons (eCall g_law_in_told (aCons (eV 0) aNil)) (aCons (eV 1) aNil)))))
theorem judged_s_eq : g_law_judged_s = sSeq (sSet 1 (eTup (aCons (eC (.str "NoState")) aNil))) (sSeq (sIf (bV (eCall g_law_is_out (aCons (eV 0) aNil))) (sSet 1 (eTup (aCons (eC (.str "told")) (aCons (eV 0) aNil)))) sNil) (sSeq (sIf (bNot (bV (eCall (g_law_same 20) (aCons (eCall g_law_out_told (aCons (eV 0) aNil)) (aCons (eV 1) aNil))))) (sRet (eC (.bl false))) sNil) judgedRest)) := rfl
theorem judged_rest (hd : DF S v) (hs : szV v ≤ 40000) (hp : dep v ≤ 15) {x1 : Option Val} {R : RP} (K : ∀ S', Ex S S' → R.rt (.bl true) S') : wR (judgedRest [some v, x1] S) R := by
  have LL : LIM = 100000 := rfl
  unfold judgedRest
  simp -dsimp
  refine ⟨by omega, ?_⟩
  refine (law_is_in_pu hd hs hp).wk fun S3 a3 => ?_
  have cl := told_clb (S := S) (v := v) (b := inB v) fun h => it_clb hd (in_it h)
  have dp := told_dep (v := v) (b := inB v) hp
  have told := in_told_pu (hd.ex a3) hs
  have fin : ∀ S4, Ex S3 S4 → ∀ {E : XO}, wO (g_law_same 20 [toldV (inB v) v, toldV (inB v) v] S4) (fun v S1 => R.rt v S1) E := fun S4 a4 {E} => (same_clb 20 S4 _ cl dp (by omega)).wk fun S5 a5 => K S5 ((a3.trans a4).trans a5)
  cases c : inB v with
  | false =>
    rw [c] at told fin
    have e0 : toldV false v = .tup [.str "NoState"] := rfl
    rw [e0] at told fin
    simp -dsimp
    refine told.wk fun S4 a4 => ?_
    simp -dsimp
    exact fin S4 a4
  | true =>
    rw [c] at told fin
    have e0 : toldV true v = .tup [.str "told", v] := rfl
    rw [e0] at told fin
    simp -dsimp
    refine ⟨by omega, told.wk fun S4 a4 => ?_⟩
    simp -dsimp
    exact fin S4 a4
theorem judged_pu (hd : DF S v) (hs : szV v ≤ 40000) (hp : dep v ≤ 15) : Pu (g_law_judged [v] S) S (.bl true) := by
  have LL : LIM = 100000 := rfl
  have eg : g_law_judged = fnB 2 1 g_law_judged_s := rfl
  have rest : ∀ S2, Ex S S2 → ∀ x1, wR (judgedRest [some v, x1] S2) ⟨fun _ S1 => isP (Val.bl true) S Val.non S1, isP (Val.bl true) S, fun _ _ => False, fun _ _ => False, fun c fs _ S1 => noX c fs S1⟩ := fun S2 a2 x1 =>
    judged_rest (hd.ex a2) hs hp fun S' a => isP_ex (a2.trans a)
  refine Pu.of ?_
  rw [eg, judged_s_eq]
  generalize judgedRest = JR at *
  simp -dsimp [wO_fnB]
  refine ⟨by omega, ?_⟩
  refine (law_is_out_pu hd hs hp).wk fun S1 a1 => ?_
  have d1 := hd.ex a1
  have cl := told_clb (S := S) (v := v) (b := outB v) fun h => it_clb hd (out_it h)
  have dp := told_dep (v := v) (b := outB v) hp
  have told := out_told_pu d1 hs
  cases c : outB v with
  | false =>
    rw [c] at told cl dp
    have e0 : toldV false v = .tup [.str "NoState"] := rfl
    rw [e0] at told cl dp
    simp -dsimp
    refine told.wk fun S4 a4 => ?_
    simp -dsimp
    refine (same_clb 20 S4 _ cl dp (by omega)).wk fun S5 a5 => ?_
    simp -dsimp
    exact rest S5 ((a1.trans a4).trans a5) _
  | true =>
    rw [c] at told cl dp
    have e0 : toldV true v = .tup [.str "told", v] := rfl
    rw [e0] at told cl dp
    simp -dsimp
    refine ⟨by omega, told.wk fun S4 a4 => ?_⟩
    simp -dsimp
    refine (same_clb 20 S4 _ cl dp (by omega)).wk fun S5 a5 => ?_
    simp -dsimp
    exact rest S5 ((a1.trans a4).trans a5) _
end
end K30

set_option Elab.async false
set_option linter.all false
set_option maxRecDepth 100000
set_option maxHeartbeats 400000
namespace K30
open PySem PySem.Spec PyProof.Rows L2 Mp
noncomputable def goesGap : En → Store → Res := (sSeq (sSet 8 (eLst (aCons (eTup (aCons (eC (.str "gap")) aNil)) aNil))) (sSeq (sFor (iR1 (aCons (eCall fLen (aCons (eB2 vIx (eV 2) (eC (.int 1))) aNil)) aNil)) (gN 9) g_law_goes_on_b1) (sSeq (sIf (bNot (bV (eCall (g_law_same 20) (aCons (eMeth "take" [("Incoming", g_Incoming_take)] (eV 6) (aCons (eB2 vIx (eV 2) (eC (.int 0))) (aCons (eTup (aCons (eC (.str "gap")) aNil)) aNil))) (aCons (eV 8) aNil))))) (sRet (eC (.bl false))) sNil) (sSeq (sSet 10 (eSl (eB2 vIx (eV 2) (eC (.int 1))) (pSome (eB2 vSub (eCall fLen (aCons (eV 8) aNil)) (eC (.int 1)))) pNo)) (sIf (bNot (bV (eCall (g_law_same 20) (aCons (eMeth "state" [("Incoming", g_Incoming_state)] (eV 6) aNil) (aCons (eTup (aCons (eB2 vAdd (eB2 vIx (eV 2) (eC (.int 0))) (eCall fLen (aCons (eV 8) aNil))) (aCons (eV 10) aNil))) aNil))))) (sRet (eC (.bl false))) sNil)))))
noncomputable def goesIn : En → Store → Res := (sSeq (sSet 6 (eCall g_incoming_of (aCons (eV 2) aNil))) (sSeq (sSet 7 (eMeth "copy" [("Incoming", g_Incoming_copy)] (eV 6) aNil)) (sSeq (sIf (bV (eB2 vLt (eB2 vIx (eV 2) (eC (.int 0))) (eB2 vSub (eB2 vPow (eC (.int 2)) (eC (.int 32))) (eC (.int 1))))) goesGap sNil) (sRet (eCall (g_law_same 20) (aCons (eMeth "state" [("Incoming", g_Incoming_state)] (eV 7) aNil) (aCons (eV 2) aNil)))))))
theorem goes_on_s_eq : g_law_goes_on_s = (sSeq (sSet 3 (eCall g_outgoing_of (aCons (eV 1) aNil))) (sSeq (sSet 4 (eMeth "copy" [("Outgoing", g_Outgoing_copy)] (eV 3) aNil)) (sSeq (sIf (bOr (bNot (bV (eCall (g_law_same 20) (aCons (eMeth "put" [("Outgoing", g_Outgoing_put)] (eV 3) (aCons (eTup (aCons (eC (.str "new")) aNil)) aNil)) (aCons (eB2 vAdd (eB2 vIx (eV 1) (eC (.int 0))) (eCall fLen (aCons (eB2 vIx (eV 1) (eC (.int 1))) aNil))) aNil))))) (bNot (bV (eCall (g_law_same 20) (aCons (eMeth "state" [("Outgoing", g_Outgoing_state)] (eV 4) aNil) (aCons (eV 1) aNil)))))) (sRet (eC (.bl false))) sNil) (sSeq (sSet 5 (eB2 vAdd (eB2 vIx (eV 1) (eC (.int 0))) (eCall g_law_take (aCons (eV 0) (aCons (eB2 vAdd (eCall fLen (aCons (eB2 vIx (eV 1) (eC (.int 1))) aNil)) (eC (.int 1))) aNil))))) (sSeq (sIf (bNot (bV (eCall (g_law_same 20) (aCons (eMeth "known" [("Outgoing", g_Outgoing_known)] (eV 3) (aCons (eV 5) aNil)) (aCons (eB2 vSub (eV 5) (eB2 vIx (eV 1) (eC (.int 0)))) aNil))))) (sRet (eC (.bl false))) sNil) (sSeq (sIf (bNot (bV (eCall (g_law_same 20) (aCons (eMeth "state" [("Outgoing", g_Outgoing_state)] (eV 3) aNil) (aCons (eTup (aCons (eV 5) (aCons (eB2 vAdd (eSl (eB2 vIx (eV 1) (eC (.int 1))) (pSome (eB2 vSub (eV 5) (eB2 vIx (eV 1) (eC (.int 0))))) pNo) (eTup (aCons (eTup (aCons (eC (.str "new")) aNil)) aNil))) aNil))) aNil))))) (sRet (eC (.bl false))) sNil) goesIn)))))) := rfl
theorem goesIn_eq : goesIn = (sSeq (sSet 6 (eCall g_incoming_of (aCons (eV 2) aNil))) (sSeq (sSet 7 (eMeth "copy" [("Incoming", g_Incoming_copy)] (eV 6) aNil)) (sSeq (sIf (bV (eB2 vLt (eB2 vIx (eV 2) (eC (.int 0))) (eB2 vSub (eB2 vPow (eC (.int 2)) (eC (.int 32))) (eC (.int 1))))) goesGap sNil) (sRet (eCall (g_law_same 20) (aCons (eMeth "state" [("Incoming", g_Incoming_state)] (eV 7) aNil) (aCons (eV 2) aNil))))))) := rfl
/-! ### what follows without a gap -/
def runA : Nat → AL → Nat
  | _, [] => 0
  | m, p :: r => if p.1 = m then runA (m + 1) r + 1 else 0
theorem runA_le : ∀ (A : AL) (m : Nat), runA m A ≤ A.length
  | [], _ => Nat.le_refl _
  | p :: r, m => by
    unfold runA
    split
    · have := runA_le r (m + 1); simp; omega
    · simp
theorem asc_get : ∀ {A : AL} {m i : Nat} {p : Nat × Val}, (A.map (·.1)).Pairwise (· < ·) → (∀ q ∈ A, m ≤ q.1) → A[i]? = some p → m + i ≤ p.1
  | [], _, _, _, _, _, h => by simp at h
  | q :: r, m, 0, p, _, hm, h => by simp at h; subst h; exact hm _ (by simp)
  | q :: r, m, i + 1, p, ha, hm, h => by
    simp only [List.map_cons, List.pairwise_cons] at ha
    have h1 : ∀ z ∈ r, m + 1 ≤ z.1 := fun z hz => by
      have := ha.1 z.1 (List.mem_map.mpr ⟨z, hz, rfl⟩)
      have := hm q (by simp)
      omega
    have := asc_get (m := m + 1) (i := i) (p := p) ha.2 h1 (by simpa using h)
    omega
theorem runA_iff : ∀ {A : AL} {m i : Nat} {p : Nat × Val}, (A.map (·.1)).Pairwise (· < ·) → (∀ q ∈ A, m ≤ q.1) → A[i]? = some p → (p.1 = m + i ↔ i < runA m A)
  | [], _, _, _, _, _, h => by simp at h
  | q :: r, m, i, p, ha, hm, h => by
    have ha0 := ha
    simp only [List.map_cons, List.pairwise_cons] at ha
    unfold runA
    by_cases c : q.1 = m
    · rw [if_pos c]
      cases i with
      | zero => simp at h; subst h; omega
      | succ i =>
        have h1 : ∀ z ∈ r, m + 1 ≤ z.1 := fun z hz => by
          have := ha.1 z.1 (List.mem_map.mpr ⟨z, hz, rfl⟩)
          omega
        have := runA_iff (m := m + 1) (i := i) (p := p) ha.2 h1 (by simpa using h)
        omega
    · rw [if_neg c]
      have h1 : ∀ z ∈ q :: r, m + 1 ≤ z.1 := fun z hz => by
        rcases List.mem_cons.mp hz with rfl | hz
        · have := hm z (by simp); omega
        · have := ha.1 z.1 (List.mem_map.mpr ⟨z, hz, rfl⟩)
          have := hm q (by simp)
          omega
      have := asc_get ha0 h1 h
      omega
theorem getA_none_of {A : AL} {m : Nat} (h : ∀ q ∈ A, m < q.1) : getA A m = none := getA_none.mpr fun z => by
  obtain ⟨q, hq, e⟩ := List.mem_map.mp z
  have := h q hq
  omega
theorem delA_none {A : AL} {m : Nat} (h : ∀ q ∈ A, m < q.1) : delA A m = A := by
  unfold delA
  refine List.filter_eq_self.mpr fun q hq => ?_
  have := h q hq
  simp; omega
theorem pops_run : ∀ {A : AL} {f m : Nat}, (A.map (·.1)).Pairwise (· < ·) → (∀ q ∈ A, m ≤ q.1) → A.length ≤ f → pops f m A = ((A.take (runA m A)).map (·.2), m + runA m A, A.drop (runA m A))
  | [], f, m, _, _, _ => by rw [pops_none rfl]; simp [runA]
  | q :: r, f, m, ha, hm, hf => by
    simp only [List.map_cons, List.pairwise_cons] at ha
    have h1 : ∀ z ∈ r, q.1 < z.1 := fun z hz => ha.1 z.1 (List.mem_map.mpr ⟨z, hz, rfl⟩)
    unfold runA
    by_cases c : q.1 = m
    · rw [if_pos c]
      obtain ⟨f, rfl⟩ : ∃ f', f = f' + 1 := ⟨f - 1, by simp at hf; omega⟩
      have e1 : getA (q :: r) m = some q.2 := by rw [getA_cons, if_pos c]
      have e2 : delA (q :: r) m = r := by
        have := delA_none (A := r) (m := m) fun z hz => by have := h1 z hz; omega
        unfold delA at this ⊢
        rw [List.filter_cons_of_neg (by simp [c]), this]
      rw [pops_some e1, e2, pops_run (m := m + 1) ha.2 (fun z hz => by have := h1 z hz; omega) (by simp at hf; omega)]
      simp; omega
    · rw [if_neg c]
      have : ∀ z ∈ q :: r, m < z.1 := fun z hz => by
        have := hm q (by simp)
        rcases List.mem_cons.mp hz with rfl | hz
        · omega
        · have := h1 z hz; omega
      rw [pops_none (getA_none_of this)]
      simp
/-- the gap filled -/
theorem gap_take {A : AL} {m : Nat} {v : Val} (ha : (A.map (·.1)).Pairwise (· < ·)) (hm : ∀ q ∈ A, m < q.1) :
    pops (addA m m v A).length m (addA m m v A) = (v :: (A.take (runA (m + 1) A)).map (·.2), m + 1 + runA (m + 1) A, A.drop (runA (m + 1) A)) := by
  have g0 := getA_none_of hm
  have e0 : addA m m v A = A ++ [(m, v)] := by
    unfold addA
    rw [if_pos ⟨Nat.le_refl _, by omega, g0⟩]
    unfold putA
    rw [if_neg]
    simp only [List.any_eq_true, decide_eq_true_eq, not_exists, not_and]
    exact fun q hq e => by have := hm q hq; omega
  rw [e0]
  have nd : ((A ++ [(m, v)]).map (·.1)).Nodup := by
    rw [List.map_append, List.nodup_append]
    refine ⟨asc_nodup ha, by simp, fun x hx y hy => ?_⟩
    simp at hy
    obtain ⟨q, hq, rfl⟩ := List.mem_map.mp hx
    have := hm q hq
    omega
  have e1 : getA (A ++ [(m, v)]) m = some v := getA_of nd (by simp)
  have e2 : delA (A ++ [(m, v)]) m = A := by
    have := delA_none hm
    unfold delA at this ⊢
    rw [List.filter_append, this]
    simp
  have el : (A ++ [(m, v)]).length = A.length + 1 := by simp
  rw [el, pops_some e1, e2, pops_run ha (fun q hq => by have := hm q hq; omega) (Nat.le_refl _)]
end K30

set_option Elab.async false
set_option linter.all false
set_option maxRecDepth 100000
set_option maxHeartbeats 400000
namespace K30
open PySem PySem.Spec PyProof.Rows L2 Mp
def sndL (A : AL) : List Val := A.map (·.2)
theorem sndL_len {A : AL} : (sndL A).length = A.length := by simp [sndL]
theorem sndL_get {A : AL} {i : Nat} {p : Nat × Val} (h : A[i]? = some p) : (sndL A)[i]? = some p.2 := by unfold sndL; rw [List.getElem?_map, h]; rfl
theorem sndL_take {A : AL} {k : Nat} : (A.take k).map (·.2) = (sndL A).take k := by unfold sndL; rw [List.map_take]
theorem sndL_mem {A : AL} {k : Nat} {y : Val} (h : y ∈ (sndL A).take k) : ∃ p ∈ A, y = p.2 := by
  have := List.mem_of_mem_take h
  obtain ⟨p, hp, rfl⟩ := List.mem_map.mp this
  exact ⟨p, hp, rfl⟩
section
variable {S : Store} {h n e d m : Nat} {A : AL} {mI : Int} {P : Val → Store → Prop} {E : XO}
abbrev gapV : Val := .tup [.str "gap"]
theorem gap_cl : clb gapV = true := by simp only [gapV, clb]; decide +kernel
theorem goes_gap {x0 x1 x3 x4 x5 x7 x8 x9 x10 : Option Val} {R : RP} (hm : mI = (m : Int)) (hi : InAt S e m d A) (ha : (A.map (·.1)).Pairwise (· < ·)) (hA : ∀ q ∈ A, m < q.1) (hl : A.length ≤ 30) (hk : m < 4294967296) (hc : clbs (A.map pV) = true) (hd : deps (A.map pV) ≤ 10)
    (K : ∀ S' x8 x9 x10, KeepL [e, d] S S' → R.nx [x0, x1, some (.tup [.int mI, .tup (A.map pV)]), x3, x4, x5, some (.ref e), x7, x8, x9, x10] S') :
    wR (goesGap [x0, x1, some (.tup [.int mI, .tup (A.map pV)]), x3, x4, x5, some (.ref e), x7, x8, x9, x10] S) R := by
  have LL : LIM = 100000 := rfl
  have rg : RNG = 1152921504606846976 := by unfold RNG; decide
  have hsnd : ∀ p ∈ A, clb p.2 = true ∧ dep p.2 ≤ 10 := fun p hp => by
    have h1 := clbs_iff.mp hc (pV p) (List.mem_map.mpr ⟨p, hp, rfl⟩)
    have h2 := dep_mem (List.mem_map.mpr ⟨p, hp, rfl⟩ : pV p ∈ A.map pV)
    simp [pV] at h1 h2
    exact ⟨h1.2, by omega⟩
  unfold goesGap
  simp -dsimp [wR_sFor]
  refine ⟨by omega, ⟨by omega, by omega⟩, ?_⟩
  have ez : ((A.map pV).length : Int).toNat = A.length := by simp
  have hrun := runA_le A (m + 1)
  have hA1 : ∀ q ∈ A, m + 1 ≤ q.1 := fun q hq => by have := hA q hq; omega
  refine wR_forX (upL 0 A.length) (fun i en S' => (∃ x9 x10, en = [x0, x1, some (.tup [.int mI, .tup (A.map pV)]), x3, x4, x5, some (.ref e), x7, some (.ref S.length), x9, x10]) ∧ S'[S.length]? = some (.lst (gapV :: (sndL A).take (min i (runA (m + 1) A)))) ∧ KeepL [S.length] S S' ∧ S.length < S'.length)
    ⟨⟨_, _, rfl⟩, by simpa using at_new, KeepL.ex Ex.app, by simp⟩ (fun i x en S1 hx hI => ?_) fun en S1 hI => ?_
  · obtain ⟨⟨x9, x10, rfl⟩, q1, q2, q3⟩ := hI
    obtain ⟨hi2, rfl⟩ := rng_get hx
    refine ⟨trivial, _, rfl, ?_⟩
    obtain ⟨p, hp⟩ : ∃ p, A[i]? = some p := ⟨_, List.getElem?_eq_getElem hi2⟩
    have e1 : atI (A.map pV) (i : Int) = some (pV p) := by rw [atI_cast, List.getElem?_map, hp]; rfl
    have ri := runA_iff ha hA1 hp
    have ni : natV i = .int (i : Int) := rfl
    simp -dsimp [g_law_goes_on_b1, ni, e1, pV, natV]
    by_cases c : i < runA (m + 1) A
    · have c1 : p.1 = m + 1 + i := ri.mpr c
      have c2 : (p.1 : Int) = mI + 1 + (i : Int) := by omega
      have l1 : (gapV :: (sndL A).take (min i (runA (m + 1) A))).length < LIM := by
        rw [List.length_cons, List.length_take, sndL_len]; omega
      simp -dsimp [c2, e1, pV, q1]
      have mi : min i (runA (m + 1) A) = i := by omega
      have mi2 : min (i + 1) (runA (m + 1) A) = i + 1 := by omega
      rw [mi] at q1 l1 ⊢
      rw [mi2]
      have tk : (sndL A).take (i + 1) = (sndL A).take i ++ [p.2] := by rw [List.take_succ, sndL_get hp]; rfl
      refine ⟨by have := @sndL_len A; omega, ?_, q2.setAt (.inl (by simp)), q3⟩
      rw [at_set q3, tk]
    · have c2 : ¬ ((p.1 : Int) = mI + 1 + (i : Int)) := by have := fun z => c (ri.mp z); omega
      simp -dsimp [c2]
      have mi : min i (runA (m + 1) A) = runA (m + 1) A := by omega
      have mi2 : min (i + 1) (runA (m + 1) A) = runA (m + 1) A := by omega
      rw [mi] at q1
      rw [mi2]
      exact ⟨q1, q2, q3⟩
  · obtain ⟨⟨x9, x10, rfl⟩, q1, q2, q3⟩ := hI
    refine ⟨trivial, ?_⟩
    rw [upL_len] at q1
    have mi : min A.length (runA (m + 1) A) = runA (m + 1) A := by omega
    rw [mi] at q1
    have le := lt_at hi.ob
    have ld := lt_at hi.di
    have hi1 : InAt S1 e m d A := ⟨q2.at hi.ob (by simp; omega), q2.at hi.di (by simp; omega), hi.sm⟩
    have nm : Val.int mI = natV m := by rw [hm]; rfl
    simp -dsimp [wO_eMeth, in_pick hi1.ob (n := "take") rfl]
    have ec : g_Incoming_take [.ref e, .int mI, gapV] S1 = g_Incoming_take [.ref e, natV m, gapV] S1 := by rw [nm]
    rw [ec]
    refine ⟨by omega, in_take_w (k := m) hi1 hk (by omega) fun f S2 u1 u2 u3 u4 => ?_⟩
    rw [gap_take ha hA, sndL_take] at u2 u3
    have q4 : S2[S.length]? = some (.lst (gapV :: (sndL A).take (runA (m + 1) A))) := u4.at q1 (by simp; omega)
    have clx : clbs (gapV :: (sndL A).take (runA (m + 1) A)) = true := by
      rw [clbs_cons, gap_cl, Bool.true_and, clbs_iff]
      intro y hy
      obtain ⟨p, hp, rfl⟩ := sndL_mem hy
      exact (hsnd p hp).1
    have dpx : deps (gapV :: (sndL A).take (runA (m + 1) A)) ≤ 10 := deps_le fun y hy => by
      rcases List.mem_cons.mp hy with rfl | hy
      · simp
      · obtain ⟨p, hp, rfl⟩ := sndL_mem hy
        exact (hsnd p hp).2
    have u2' : S2[f]? = some (.lst (gapV :: (sndL A).take (runA (m + 1) A))) := u2
    have u3' : InAt S2 e (m + 1 + runA (m + 1) A) d (A.drop (runA (m + 1) A)) := u3
    simp -dsimp
    refine (same_lists (d := 19) u2' q4 clx (by omega) (by omega)).wk fun S3 a3 => ?_
    have ml : min (runA (m + 1) A) (sndL A).length = runA (m + 1) A := by rw [sndL_len]; omega
    have ct : cutL (A.map pV) (some ((runA (m + 1) A : Nat) : Int)) none = (A.map pV).drop (runA (m + 1) A) := cut_drop _ _
    have i3 := u3'.ex a3
    simp -dsimp [a3.at q4, ml, ct, wO_eMeth, in_pick i3.ob (n := "state") rfl]
    refine (in_state_w i3).wk fun S4 a4 => ?_
    have q5 := (a3.trans a4).at q4
    simp -dsimp [q5, ml]
    refine ⟨by show 2 ≤ LIM; omega, ?_⟩
    have hA3 : ((A.drop (runA (m + 1) A)).map (·.1)).Pairwise (· < ·) := by
      rw [List.map_drop]; exact ha.sublist (List.drop_sublist _ _)
    have e1 : Val.int (mI + (((runA (m + 1) A : Nat) : Int) + 1)) = natV (m + 1 + runA (m + 1) A) := by unfold natV; congr 1; omega
    have e2 : heldP (A.drop (runA (m + 1) A)) = (A.map pV).drop (runA (m + 1) A) := by rw [heldP_asc hA3, List.map_drop]
    rw [e1, e2]
    have cl2 : clb (.tup [natV (m + 1 + runA (m + 1) A), .tup ((A.map pV).drop (runA (m + 1) A))]) = true := by
      simp [natV, clbs_drop hc]
    have dp2 : dep (.tup [natV (m + 1 + runA (m + 1) A), .tup ((A.map pV).drop (runA (m + 1) A))]) < 20 := by
      have := deps_drop (g := runA (m + 1) A) hd
      simp [natV]; omega
    refine (same_clb 20 S4 _ cl2 dp2 (by omega)).wk fun S5 a5 => ?_
    simp -dsimp
    refine K S5 _ _ _ ⟨?_, fun j o e1 hn => ?_⟩
    · exact Nat.le_trans (Nat.le_trans q2.1 u4.1) ((a3.trans a4).trans a5).le
    · have hj := lt_at e1
      exact ((a3.trans a4).trans a5).at (u4.at (q2.at e1 (by simp; omega)) hn)
theorem goesIn_ok {x0 x1 x3 x4 x5 x6 x7 x8 x9 x10 : Option Val} {R : RP} (hm : mI = (m : Int)) (ha : (A.map (·.1)).Pairwise (· < ·)) (hA : ∀ q ∈ A, m < q.1) (hl : A.length ≤ 30) (hk : m < 4294967296) (hc : clbs (A.map pV) = true) (hd : deps (A.map pV) ≤ 10)
    (hD : DF S (.tup [.int mI, .tup (A.map pV)])) (hs : szV (.tup [.int mI, .tup (A.map pV)]) ≤ 40000) (hB : inB (.tup [.int mI, .tup (A.map pV)]) = true) (K : ∀ S', KeepL [] S S' → R.rt (.bl true) S') :
    wR (goesIn [x0, x1, some (.tup [.int mI, .tup (A.map pV)]), x3, x4, x5, x6, x7, x8, x9, x10] S) R := by
  have LL : LIM = 100000 := rfl
  have cp32 : CP 2 32 := ⟨by decide, by decide, by decide⟩
  have hgap := @goes_gap
  rw [goesIn_eq]
  generalize goesGap = GG at *
  simp -dsimp
  refine incoming_of_w hD hs (fun c => by rw [hB] at c; cases c) fun _ m' A' S1 e d ev _ _ a1 i1 le1 ld1 => ?_
  obtain ⟨em, eA⟩ : m' = m ∧ A' = A := by
    simp only [Val.tup.injEq, List.cons.injEq, and_true, natV, Val.int.injEq] at ev
    obtain ⟨e1, e2⟩ := ev
    refine ⟨by omega, ?_⟩
    refine (List.ext_getElem? fun i => ?_).symm
    have := congrArg (·[i]?) e2
    simp only [List.getElem?_map] at this
    cases h1 : A[i]? with
    | none => rw [h1] at this; cases h2 : A'[i]? with
      | none => rfl
      | some q => rw [h2] at this; simp at this
    | some p => rw [h1] at this; cases h2 : A'[i]? with
      | none => rw [h2] at this; simp at this
      | some q =>
        rw [h2] at this
        simp [pV, natV] at this
        rw [show p = q from Prod.ext (by omega) this.2]
  subst em; subst eA
  simp -dsimp [wO_eMeth, in_pick i1.ob (n := "copy") rfl]
  refine (in_copy_w i1).imp fun v S2 z => ?_
  obtain ⟨rfl, c2, a2⟩ := z
  have i2 := i1.ex a2
  have hc2 : clb (.tup [natV m', .tup (A'.map pV)]) = true := by simp [natV, hc]
  have hd2 : dep (.tup [natV m', .tup (A'.map pV)]) < 20 := by simp [natV]; omega
  have nm : Val.int mI = natV m' := by rw [hm]; rfl
  have fin : ∀ S3 x8 x9 x10, KeepL [e, d] S2 S3 → wR (sRet (eCall (g_law_same 20) (aCons (eMeth "state" [("Incoming", g_Incoming_state)] (eV 7) aNil) (aCons (eV 2) aNil))) [x0, x1, some (.tup [.int mI, .tup (A'.map pV)]), x3, x4, x5, some (.ref e), some (.ref S1.length), x8, x9, x10] S3) R := fun S3 x8 x9 x10 kp => by
    have le := lt_at i1.ob
    have ld := lt_at i1.di
    have c3 : InAt S3 S1.length m' (S1.length + 2) A' := ⟨kp.at c2.ob (by simp; omega), kp.at c2.di (by simp; omega), c2.sm⟩
    simp -dsimp [wO_eMeth, in_pick c3.ob (n := "state") rfl]
    refine (in_state_w c3).wk fun S4 a4 => ?_
    simp -dsimp
    rw [heldP_asc ha, nm]
    refine (same_clb 20 S4 _ hc2 hd2 (by omega)).wk fun S5 a5 => ?_
    refine K S5 ⟨?_, fun j o e1 _ => ?_⟩
    · exact Nat.le_trans (Nat.le_trans (a1.trans a2).le kp.1) (a4.trans a5).le
    · have hj := lt_at e1
      exact (a4.trans a5).at (kp.at ((a1.trans a2).at e1) (by simp; omega))
  simp -dsimp
  refine ⟨cp32, ?_⟩
  by_cases cm : mI < 4294967295
  · simp -dsimp [cm]
    refine hgap hm i2 ha hA hl hk hc hd fun S3 x8 x9 x10 kp => ?_
    exact fin S3 x8 x9 x10 kp
  · have f0 := fin S2 x8 x9 x10 KeepL.refl
    simp -dsimp at f0
    simp -dsimp [cm]
    exact f0
theorem DF.of_it {S S' : Store} {v : Val} (h : DF S v) (hi : itB v = true) : DF S' v := by
  induction h with
  | non => exact .non
  | bl b => exact .bl b
  | int i => exact .int i
  | str h => exact .str h
  | tup h ih =>
    rw [itB_tup, itsB_all, List.all_eq_true] at hi
    exact .tup fun x hx => ih x hx (hi x hx)
  | ref h => simp [itB] at hi
theorem goes_on_ok {gI : Int} {g : Nat} {xs : List Val} (H : Hand S h n) (hn : n ≤ 800000000) (hg : gI = (g : Int)) (hxl : xs.length ≤ 30) (hxc : clbs xs = true) (hxd : deps xs ≤ 10) (hoD : DF S (.tup [.int gI, .tup xs])) (hos : szV (.tup [.int gI, .tup xs]) ≤ 40000) (hoB : outB (.tup [.int gI, .tup xs]) = true)
    (hm : mI = (m : Int)) (ha : (A.map (·.1)).Pairwise (· < ·)) (hA : ∀ q ∈ A, m < q.1) (hl : A.length ≤ 30) (hk : m < 4294967296) (hc : clbs (A.map pV) = true) (hd : deps (A.map pV) ≤ 10)
    (hD : DF S (.tup [.int mI, .tup (A.map pV)])) (hs : szV (.tup [.int mI, .tup (A.map pV)]) ≤ 40000) (hB : inB (.tup [.int mI, .tup (A.map pV)]) = true) :
    wO (g_law_goes_on [.ref h, .tup [.int gI, .tup xs], .tup [.int mI, .tup (A.map pV)]] S) (fun v S' => v = .bl true ∧ Hand S' h (n + 10) ∧ KeepL [h] S S') noX := by
  have LL : LIM = 100000 := rfl
  have eg : g_law_goes_on = fnB 11 3 g_law_goes_on_s := rfl
  have hin := @goesIn_ok
  rw [eg, goes_on_s_eq]
  generalize goesIn = GI at *
  simp -dsimp [wO_fnB]
  refine outgoing_of_w hoD hos (fun c => by rw [hoB] at c; cases c) fun _ g' xs' S1 o t ev a1 o1 lo1 lt1 => ?_
  obtain ⟨e1, e2⟩ : g' = g ∧ xs' = xs := by
    simp only [Val.tup.injEq, List.cons.injEq, and_true, natV, Val.int.injEq] at ev
    exact ⟨by omega, ev.2.symm⟩
  subst e1; subst e2
  have ng : Val.int gI = natV g' := by rw [hg]; rfl
  simp -dsimp [wO_eMeth, out_pick o1.ob (n := "copy") rfl]
  refine (out_copy_w o1).imp fun v S2 z => ?_
  obtain ⟨rfl, c2, a2⟩ := z
  have o2 := o1.ex a2
  have lo := lt_at o1.ob
  have lt := lt_at o1.li
  simp -dsimp [wO_eMeth, out_pick o2.ob (n := "put") rfl, LL]
  rw [put_w o2 (by omega)]
  have hh := H.lt
  have H2 : Hand S2 h n := by obtain ⟨T, rfl⟩ := a1; obtain ⟨T2, rfl⟩ := a2; exact (H.app T).app T2
  have o3 : OutAt (S2.set t (.lst (xs' ++ [.tup [.str "new"]]))) o g' t (xs' ++ [.tup [.str "new"]]) := ⟨set_at (fun z => by have := o2.li; rw [z, o2.ob] at this; cases this) o2.ob, at_set (lt_at o2.li), by simp; omega⟩
  have c3 : OutAt (S2.set t (.lst (xs' ++ [.tup [.str "new"]]))) S1.length g' (S1.length + 2) xs' := ⟨set_at (by omega) c2.ob, set_at (by omega) c2.li, c2.sm⟩
  have H3 : Hand (S2.set t (.lst (xs' ++ [.tup [.str "new"]]))) h n := H2.set_gt (by omega)
  have k3 : KeepL [h] S (S2.set t (.lst (xs' ++ [.tup [.str "new"]]))) := (KeepL.ex (a1.trans a2)).setAt (.inr (by omega))
  generalize S2.set t (.lst (xs' ++ [.tup [.str "new"]])) = S3 at *
  have e3 : Val.int (gI + (xs'.length : Int)) = .int ((g' + xs'.length : Nat) : Int) := by rw [hg]; congr 1
  simp -dsimp
  rw [e3]
  refine (same_clb 20 S3 (.int ((g' + xs'.length : Nat) : Int)) (by simp) (by simp) (by omega)).wk fun S4 a4 => ?_
  have c4 := c3.ex a4
  simp -dsimp [wO_eMeth, out_pick c4.ob (n := "state") rfl, out_state_w c4]
  have gi : (g' : Int) = gI := hg.symm
  have clo : clb (.tup [.int gI, .tup xs']) = true := by simp [hxc]
  have dpo : dep (.tup [.int gI, .tup xs']) < 20 := by simp; omega
  rw [gi]
  refine (same_clb 20 S4 _ clo dpo (by omega)).wk fun S5 a5 => ?_
  have o5 := (o3.ex a4).ex a5
  have H5 : Hand S5 h n := by obtain ⟨T, rfl⟩ := a4; obtain ⟨T2, rfl⟩ := a5; exact (H3.app T).app T2
  simp -dsimp
  refine (take_ok (many := (xs'.length : Int) + 1) H5 (by omega) (by omega) (by omega)).imp fun v S6 z => ?_
  obtain ⟨r, rfl, hr, H6, s6⟩ := z
  have g6 := s6.grow
  have o6 : OutAt S6 o g' t (xs' ++ [.tup [.str "new"]]) := ⟨g6.at o5.ob (by omega), g6.at o5.li (by omega), o5.sm⟩
  have nr : Val.int (gI + (r : Int)) = natV (g' + r) := by rw [hg]; unfold natV; congr 1
  have k6 := ((k3.trans (KeepL.ex (a4.trans a5))).trans (Grow.keepL g6))
  simp -dsimp [wO_eMeth, out_pick o6.ob (n := "known") rfl]
  have ek : g_Outgoing_known [.ref o, .int (gI + (r : Int))] S6 = g_Outgoing_known [.ref o, natV (g' + r)] S6 := by rw [nr]
  rw [ek]
  refine (known_w (k := g' + r) o6 (by simp; omega)).imp fun v S7 z => ?_
  obtain ⟨rfl, o7, k7⟩ := z
  have er : gI + (r : Int) - gI = (r : Int) := by omega
  have en : natV (g' + r - g') = .int (r : Int) := by unfold natV; congr 1; omega
  rw [en]
  simp -dsimp [er]
  refine (same_clb 20 S7 (.int (r : Int)) (by simp) (by simp) (by omega)).wk fun S8 a8 => ?_
  have o8 := o7.ex a8
  have dd : (xs' ++ [Val.tup [.str "new"]]).drop (g' + r - g') = xs'.drop r ++ [.tup [.str "new"]] := by
    rw [show g' + r - g' = r from by omega]
    exact List.drop_append_of_le_length (by omega)
  have mx : max g' (g' + r) = g' + r := by omega
  rw [dd, mx] at o8
  have ct : cutL xs' (some (r : Int)) none = xs'.drop r := cut_drop _ _
  simp -dsimp [wO_eMeth, out_pick o8.ob (n := "state") rfl, out_state_w o8, er, ct]
  have en2 : Val.int ((g' + r : Nat) : Int) = .int (gI + (r : Int)) := by rw [hg]; congr 1
  have cls : clb (.tup [.int (gI + (r : Int)), .tup (xs'.drop r ++ [.tup [.str "new"]])]) = true := by
    have h1 := clbs_drop (g := r) hxc
    simp only [clb_tup, clbs_cons, clb_int, Bool.true_and, clbs_nil, Bool.and_true]
    rw [clbs_iff] at h1 ⊢
    intro y hy
    rcases List.mem_append.mp hy with hy | hy
    · exact h1 y hy
    · simp at hy; subst hy; simp only [clb]; decide +kernel
  have dps : dep (.tup [.int (gI + (r : Int)), .tup (xs'.drop r ++ [.tup [.str "new"]])]) < 20 := by
    have h1 := deps_drop (g := r) hxd
    have : deps (xs'.drop r ++ [.tup [.str "new"]]) ≤ 10 := deps_le fun y hy => by
      rcases List.mem_append.mp hy with hy | hy
      · exact Nat.le_trans (dep_mem hy) h1
      · simp at hy; subst hy; simp
    simp only [dep_tup, deps_cons, dep_int, deps_nil]
    omega
  refine ⟨by omega, by omega, by omega, ?_⟩
  rw [gi]
  refine (same_clb 20 S8 _ cls dps (by omega)).wk fun S9 a9 => ?_
  have lo5 : S.length ≤ o := lo1
  have H9 : Hand S9 h (n + 1) := by
    have := H6.keepL k7 fun j hj => by simp; omega
    obtain ⟨T, rfl⟩ := a8
    obtain ⟨T2, rfl⟩ := a9
    exact (this.app T).app T2
  have k9 : KeepL [h] S S9 := by
    refine ⟨Nat.le_trans k6.1 (Nat.le_trans k7.1 (a8.trans a9).le), fun j ob e hj => ?_⟩
    have := lt_at e
    exact (a8.trans a9).at (k7.at (k6.at e hj) (by simp; omega))
  simp -dsimp
  have hi := hin (S := S9) (m := m) (A := A) (mI := mI) (x0 := some (.ref h)) (x1 := some (.tup [.int gI, .tup xs'])) (x3 := some (.ref o)) (x4 := some (.ref S1.length)) (x5 := some (.int (gI + (r : Int)))) (x6 := none) (x7 := none) (x8 := none) (x9 := none) (x10 := none) (R := ⟨fun _ _ => False, fun v S' => v = .bl true ∧ Hand S' h (n + 10) ∧ KeepL [h] S S', fun _ _ => False, fun _ _ => False, fun _ _ _ _ => False⟩)
    hm ha hA hl hk hc hd (hD.of_it (in_it hB)) hs hB fun S' kk => ⟨rfl, (H9.keepL kk fun j _ => by simp).more (by omega), k9.trans (kk.more (by simp))⟩
  exact hi.mono (fun _ _ z => z.elim) (fun _ _ z => z) (fun _ _ z => z) (fun _ _ z => z) fun _ _ _ _ z => z
end
end K30

set_option Elab.async false
set_option linter.all false
set_option maxRecDepth 100000
set_option maxHeartbeats 400000
namespace K30
open PySem PySem.Spec PyProof.Rows L2 Mp
mutual
theorem DF.of_clb {S : Store} : ∀ {v : Val}, clb v = true → DF S v
  | .non, _ => .non
  | .bl b, _ => .bl b
  | .int i, _ => .int i
  | .str s, h => .str (by simpa [clb] using h)
  | .tup xs, h => .tup (DF.of_clbs (by simpa using h))
  | .frz _, h => by simp [clb] at h
  | .ref _, h => by simp [clb] at h
theorem DF.of_clbs {S : Store} : ∀ {xs : List Val}, clbs xs = true → ∀ x ∈ xs, DF S x
  | [], _, x, hx => by cases hx
  | y :: r, h, x, hx => by
    simp only [clbs_cons, Bool.and_eq_true] at h
    rcases List.mem_cons.mp hx with e | hx
    · rw [e]; exact DF.of_clb h.1
    · exact DF.of_clbs h.2 x hx
end
theorem DF.grow {S S' : Store} {h n : Nat} {v : Val} (d : DF S v) (g : Grow h S S') (H : Hand S' h n) : DF S' v := by
  induction d with
  | non => exact .non
  | bl b => exact .bl b
  | int i => exact .int i
  | str h => exact .str h
  | tup h ih => exact .tup ih
  | @ref i ht =>
    refine .ref ?_
    by_cases c : i = h
    · subst c
      obtain ⟨_, _, _, _, _, _, e, _⟩ := H.ex
      exact ⟨"list", by simp [tyOf, e]⟩
    · obtain ⟨t, ht⟩ := ht
      simp only [tyOf] at ht
      cases e : S[i]? with
      | none => rw [e] at ht; cases ht
      | some o =>
        rw [e] at ht
        exact ⟨t, by simp only [tyOf]; rw [g.at e c]; exact ht⟩
/-- good as what is judged -/
def Gd (S : Store) (v : Val) : Prop := DF S v ∧ dep v ≤ 8 ∧ szV v ≤ 500
theorem Gd.grow {S S' : Store} {h n : Nat} {v : Val} (d : Gd S v) (g : Grow h S S') (H : Hand S' h n) : Gd S' v := ⟨d.1.grow g H, d.2⟩
/-- a thing -/
structure Th (x : Val) : Prop where
  cl : clb x = true
  th : thB x = true
  dp : dep x ≤ 3
  sz : szV x ≤ 10
section
variable {S : Store} {h n : Nat}
theorem some_thing_ok (H : Hand S h n) (hn : n ≤ 800000000) : wO (g_law_some_thing [.ref h] S) (fun v S' => Th v ∧ Hand S' h (n + 1) ∧ Grow h S S') noX := by
  have LL : LIM = 100000 := rfl
  have hh := H.lt
  simp -dsimp [wO_fnB, g_law_some_thing, g_law_some_thing_s, LL]
  refine (pick_ok (H.app _) (by omega) at_new (by omega) (by simp) (by simp)).imp fun v S' z => ?_
  obtain ⟨hv, H', s⟩ := z
  refine ⟨?_, H', (Grow.app _).trans s.grow⟩
  simp at hv
  have s1 : PyData.strOk "a" = true := by decide +kernel
  have s2 : PyData.strOk "b" = true := by decide +kernel
  have s3 : PyData.strOk "c" = true := by decide +kernel
  rcases hv with rfl | rfl | rfl | rfl | rfl | rfl <;> exact ⟨by simp [clb, clbs, s1, s2, s3], by simp [thB, isTup, itB, itsB], by simp, by simp [szV, szs]⟩
theorem odd_ok (H : Hand S h n) (hn : n ≤ 800000000) : wO (g_law_odd [.ref h] S) (fun v S' => Gd S' v ∧ Hand S' h (n + 1) ∧ Grow h S S') noX := by
  have LL : LIM = 100000 := rfl
  simp [wO_fnB, g_law_odd, g_law_odd_s]
  refine (take_ok (many := 18) H (by omega) (by omega) (by omega)).imp fun v S' ⟨r, e, hr, H', sm⟩ => ?_
  subst e
  have g := sm.grow
  have cp : CP 10 20 := ⟨by decide, by decide, by decide⟩
  have s1 : PyData.strOk "" = true := by decide +kernel
  have s2 : PyData.strOk "do" = true := by decide +kernel
  have s3 : PyData.strOk "0" = true := by decide +kernel
  rcases (show r = 0 ∨ r = 1 ∨ r = 2 ∨ r = 3 ∨ r = 4 ∨ r = 5 ∨ r = 6 ∨ r = 7 ∨ r = 8 ∨ r = 9 ∨ r = 10 ∨ r = 11 ∨ r = 12 ∨ r = 13 ∨ r = 14 ∨ r = 15 ∨ r = 16 ∨ r = 17 by omega) with
    rfl | rfl | rfl | rfl | rfl | rfl | rfl | rfl | rfl | rfl | rfl | rfl | rfl | rfl | rfl | rfl | rfl | rfl
  all_goals simp [LIM]
  all_goals first
    | refine ⟨?_, H'.app _, g.trans (Grow.app _)⟩
    | refine ⟨cp, ?_, H'.app _, g.trans (Grow.app _)⟩
  all_goals first
    | exact ⟨DF.of_clb (by simp [clb, clbs, s1, s2, s3]), by simp, by simp [szV, szs]⟩
    | (refine ⟨.ref ⟨"list", ?_⟩, by simp [dep], by simp [szV]⟩; simp [tyOf, List.getElem?_append_right]; done)
    | (refine ⟨.ref ⟨"dict", ?_⟩, by simp [dep], by simp [szV]⟩; simp [tyOf, List.getElem?_append_right]; done)
/-- a drawn beginning -/
theorem gone_ok {P : Val → Store → Prop} {E : XO} {env : En} (H : Hand S h n) (hn : n ≤ 800000000) (he : env[0]? = some (some (.ref h)))
    (K : ∀ (g : Nat) S', g < 4294967296 → Hand S' h (n + 2) → Grow h S S' → P (.int (g : Int)) S') :
    wO ((eCall g_law_pick (aCons (eV 0) (aCons (eLst (aCons (eC (.int 0)) (aCons (eCall g_law_take (aCons (eV 0) (aCons (eC (.int 40)) aNil))) (aCons (eB2 vSub (eB2 vPow (eC (.int 2)) (eC (.int 32))) (eC (.int 1))) (aCons (eB2 vPow (eC (.int 10)) (eC (.int 9))) aNil))))) aNil))) env S) P E := by
  have LL : LIM = 100000 := rfl
  have cp32 : CP 2 32 := ⟨by decide, by decide, by decide⟩
  have cp9 : CP 10 9 := ⟨by decide, by decide, by decide⟩
  simp -dsimp [he]
  refine (take_ok (many := 40) H (by omega) (by omega) (by omega)).imp fun v S1 z => ?_
  obtain ⟨r, rfl, hr, H1, s1⟩ := z
  simp -dsimp [LL]
  refine ⟨cp32, cp9, ?_⟩
  have hh := H1.lt
  refine (pick_ok (H1.app _) (by omega) at_new (by omega) (by simp) (by simp)).imp fun v S' z => ?_
  obtain ⟨hv, H', s⟩ := z
  have gg := (s1.grow.trans (Grow.app _)).trans s.grow
  simp at hv
  rcases hv with rfl | rfl | rfl | rfl
  · exact K 0 S' (by decide) H' gg
  · exact K r S' (by omega) H' gg
  · exact K 4294967295 S' (by decide) H' gg
  · exact K 1000000000 S' (by decide) H' gg
/-- the state of an outgoing end, drawn -/
structure OutS (v : Val) : Prop where
  ex : ∃ (g : Nat) (xs : List Val), v = .tup [.int (g : Int), .tup xs] ∧ g < 4294967296 ∧ xs.length ≤ 4 ∧ ∀ x ∈ xs, Th x
theorem out_state_ok (H : Hand S h n) (hn : n ≤ 700000000) : wO (g_law_out_state [.ref h] S) (fun v S' => OutS v ∧ Hand S' h (n + 20) ∧ Grow h S S') noX := by
  have LL : LIM = 100000 := rfl
  have rg : RNG = 1152921504606846976 := by unfold RNG; decide
  unfold g_law_out_state g_law_out_state_s
  rw [wO_fnB (by rfl), wR_sSeq, sSet, wR_sAsg]
  refine gone_ok H (by omega) rfl fun g S1 hg H1 g1 => ?_
  simp -dsimp [wO_lc]
  refine (take_ok (many := 5) H1 (by omega) (by omega) (by omega)).imp fun v S2 z => ?_
  obtain ⟨u, rfl, hu, H2, s2⟩ := z
  have g2 := g1.trans s2.grow
  have lh := H2.lt
  simp -dsimp
  refine ⟨⟨by omega, by omega⟩, ?_⟩
  refine wO_lcI (upL 0 u) (fun i acc S' => Hand S' h (n + 3 + i) ∧ Grow h S S' ∧ S'[S2.length]? = some (.lst acc) ∧ acc.length = i ∧ ∀ x ∈ acc, Th x) ⟨by simpa using H2.app _, g2.trans (Grow.app _), at_new, rfl, by simp⟩ (fun i x acc S' hx hI => ?_) fun acc S' hI => ?_
  · obtain ⟨q1, q2, q3, q4, q5⟩ := hI
    obtain ⟨hi, rfl⟩ := rng_get hx
    refine ⟨trivial, _, rfl, ?_⟩
    simp -dsimp [bYes, g_law_out_state_e1, wipeE]
    refine (some_thing_ok q1 (by omega)).imp fun v S4 z => ?_
    obtain ⟨z1, z2, z3⟩ := z
    have l4 := z3.at q3 (by omega)
    refine ⟨l4, by omega, (z2.set_gt (by omega)).more (by omega), Grow.setD (q2.trans z3) g2.1, at_set (lt_at l4), by simp [q4], fun y hy => ?_⟩
    rcases List.mem_append.mp hy with hy | hy
    · exact q5 y hy
    · simp at hy; subst hy; exact z1
  · obtain ⟨q1, q2, q3, q4, q5⟩ := hI
    rw [upL_len] at q1 q4
    simp -dsimp [q3, LL]
    exact ⟨⟨g, acc, rfl, hg, by omega, q5⟩, q1.more (by omega), q2⟩
/-- .. of an incoming end -/
structure InS (v : Val) : Prop where
  ex : ∃ (m : Nat) (A : AL), v = .tup [.int (m : Int), .tup (A.map pV)] ∧ m < 4294967296 ∧ A.length ≤ 4 ∧ (A.map (·.1)).Pairwise (· < ·) ∧ ∀ p ∈ A, m < p.1 ∧ p.1 < m + 1000 ∧ Th p.2
theorem in_b1 {m : Nat} {A : AL} {last : Nat} {f x : Nat} {R : RP} (H : Hand S h n) (hn : n ≤ 700000000) (hf : S[f]? = some (.lst (A.map pV))) (hhf : h < f) (hl : A.length ≤ 10) (hm : m ≤ last) (ha : (A.map (·.1)).Pairwise (· < ·)) (hA : ∀ p ∈ A, m < p.1 ∧ p.1 ≤ last ∧ p.1 < m + 1000 ∧ Th p.2)
    (K : ∀ (A' : AL) (last' : Nat) S', Hand S' h (n + 3) → S'[f]? = some (.lst (A'.map pV)) → A'.length ≤ A.length + 1 → m ≤ last' → (A'.map (·.1)).Pairwise (· < ·) → (∀ p ∈ A', m < p.1 ∧ p.1 ≤ last' ∧ p.1 < m + 1000 ∧ Th p.2) → (∀ j ob, j ≠ h → j ≠ f → S[j]? = some ob → S'[j]? = some ob) → S.length ≤ S'.length → R.nx [some (.ref h), some (.int (m : Int)), some (.ref f), some (.int (last' : Int)), some (natV x)] S') :
    wR (g_law_in_state_b1 [some (.ref h), some (.int (m : Int)), some (.ref f), some (.int (last : Int)), some (natV x)] S) R := by
  have LL : LIM = 100000 := rfl
  have hh := H.lt
  simp -dsimp [g_law_in_state_b1]
  refine (take_ok (many := 300) H (by omega) (by omega) (by omega)).imp fun v S1 z => ?_
  obtain ⟨r, rfl, hr, H1, s1⟩ := z
  have lh1 := H1.lt
  simp -dsimp [LL]
  refine (pick_ok (H1.app _) (by omega) at_new (by omega) (by simp) (by simp)).imp fun v S2 z => ?_
  obtain ⟨hv, H2, s2⟩ := z
  have gg := (s1.grow.trans (Grow.app [Ob.lst [.int 0, .int 0, .int 1, .int (r : Int), .int 900]])).trans s2.grow
  obtain ⟨w, rfl⟩ : ∃ w : Nat, v = .int (w : Int) := by
    simp at hv
    rcases hv with rfl | rfl | rfl | rfl
    · exact ⟨0, rfl⟩
    · exact ⟨1, rfl⟩
    · exact ⟨r, rfl⟩
    · exact ⟨900, rfl⟩
  have f2 := gg.at hf (by omega)
  simp -dsimp
  by_cases c : last + 1 + w < m + 1000
  · have c1 : (last : Int) + 1 + (w : Int) < (m : Int) + 1000 := by omega
    simp -dsimp [c1, f2]
    refine (some_thing_ok H2 (by omega)).imp fun v S3 z => ?_
    obtain ⟨z1, z2, z3⟩ := z
    have f3 := z3.at f2 (by omega)
    have l1 : (A.map pV).length < LIM := by simp; omega
    simp -dsimp [f3, LL]
    refine ⟨by simp at l1; omega, ?_⟩
    have em : A.map pV ++ [.tup [.int ((last : Int) + 1 + (w : Int)), v]] = (A ++ [(last + 1 + w, v)]).map pV := by simp [pV, natV]
    rw [em]
    refine K (A ++ [(last + 1 + w, v)]) (last + 1 + w) _ ((z2.set_gt (by omega)).more (by omega)) (at_set (lt_at f3)) (by simp) (by omega) ?_ (fun p hp => ?_) (fun j ob j1 j2 e => ?_) ?_
    · rw [List.map_append, List.pairwise_append]
      refine ⟨ha, by simp, fun a ha' b hb => ?_⟩
      obtain ⟨p, hp, rfl⟩ := List.mem_map.mp ha'
      simp at hb
      have := (hA p hp).2.1
      omega
    · rcases List.mem_append.mp hp with hp | hp
      · obtain ⟨y1, y2, y3⟩ := hA p hp
        exact ⟨y1, by omega, y3⟩
      · simp at hp; subst hp; exact ⟨by simp only []; omega, by simp, c, z1⟩
    · exact set_at (Ne.symm j2) (z3.at (gg.at e j1) j1)
    · rw [List.length_set]; exact Nat.le_trans gg.1 z3.1
  · have c1 : ¬ (last : Int) + 1 + (w : Int) < (m : Int) + 1000 := by omega
    simp -dsimp [c1]
    exact K A (last + 1 + w) S2 (H2.more (by omega)) f2 (by omega) (by omega) ha (fun p hp => by obtain ⟨y1, y2, y3⟩ := hA p hp; exact ⟨y1, by omega, y3⟩) (fun j ob j1 j2 e => gg.at e j1) gg.1
end
end K30

set_option Elab.async false
set_option linter.all false
set_option maxRecDepth 100000
set_option maxHeartbeats 400000
namespace K30
open PySem PySem.Spec PyProof.Rows L2 Mp
section
variable {S : Store} {h n : Nat}
theorem in_state_ok (H : Hand S h n) (hn : n ≤ 600000000) : wO (g_law_in_state [.ref h] S) (fun v S' => InS v ∧ Hand S' h (n + 30) ∧ Grow h S S') noX := by
  have LL : LIM = 100000 := rfl
  have rg : RNG = 1152921504606846976 := by unfold RNG; decide
  have hb := @in_b1
  unfold g_law_in_state g_law_in_state_s
  generalize g_law_in_state_b1 = B at *
  rw [wO_fnB (by rfl), wR_sSeq, sSet, wR_sAsg]
  refine gone_ok H (by omega) rfl fun m S1 hm H1 g1 => ?_
  simp -dsimp [wR_sFor]
  refine (take_ok (many := 5) (H1.app _) (by omega) (by omega) (by omega)).imp fun v S2 z => ?_
  obtain ⟨u, rfl, hu, H2, s2⟩ := z
  have lh := H1.lt
  have f2 := s2.grow.at (at_new (S := S1) (b := Ob.lst []) (T := [])) (by omega)
  have g2 := (g1.trans (Grow.app _)).trans s2.grow
  have ls := g1.1
  simp -dsimp
  refine ⟨⟨by omega, by omega⟩, ?_⟩
  refine wR_forX (upL 0 u) (fun i en S' => ∃ (A : AL) (last : Nat), (∃ x4, en = [some (.ref h), some (.int (m : Int)), some (.ref S1.length), some (.int (last : Int)), x4]) ∧ Hand S' h (n + 3 + i * 3) ∧ S'[S1.length]? = some (.lst (A.map pV)) ∧ A.length ≤ i ∧ m ≤ last ∧ (A.map (·.1)).Pairwise (· < ·) ∧ (∀ p ∈ A, m < p.1 ∧ p.1 ≤ last ∧ p.1 < m + 1000 ∧ Th p.2) ∧ Grow h S S')
    ⟨[], m, ⟨_, rfl⟩, by simpa using H2, f2, by simp, Nat.le_refl _, by simp, by simp, g2⟩ (fun i x en S' hx hI => ?_) fun en S' hI => ?_
  · obtain ⟨A, last, ⟨x4, rfl⟩, q1, q2, q3, q4, q5, q6, q7⟩ := hI
    obtain ⟨hi, rfl⟩ := rng_get hx
    refine ⟨trivial, _, rfl, ?_⟩
    refine hb q1 (by omega) q2 (by omega) (by omega) q4 q5 q6 fun A' last' S'' w1 w2 w3 w4 w5 w6 w7 w8 => ?_
    refine ⟨A', last', ⟨_, rfl⟩, w1.more (by omega), w2, by omega, w4, w5, w6, Nat.le_trans q7.1 w8, fun j hj hn => ?_⟩
    have e := (q7.2 j hj hn)
    rw [← e]
    have hj' : j < S'.length := Nat.lt_of_lt_of_le hj q7.1
    rw [List.getElem?_eq_getElem hj']
    exact w7 j _ hn (by omega) (List.getElem?_eq_getElem hj')
  · obtain ⟨A, last, ⟨x4, rfl⟩, q1, q2, q3, q4, q5, q6, q7⟩ := hI
    rw [upL_len] at q1 q3
    refine ⟨trivial, ?_⟩
    simp -dsimp [q2, LL]
    exact ⟨⟨m, A, rfl, hm, by omega, q5, fun p hp => ⟨(q6 p hp).1, (q6 p hp).2.2⟩⟩, q1.more (by omega), q7⟩
/-- a state to be spoilt -/
structure StS (v : Val) : Prop where
  ex : ∃ (g : Nat) (ys : List Val), v = .tup [.int (g : Int), .tup ys] ∧ ys.length ≤ 4 ∧ ∀ y ∈ ys, isTup y = true ∧ clb y = true ∧ dep y ≤ 5 ∧ szV y ≤ 15
theorem OutS.st {v : Val} (h : OutS v) : StS v := by
  obtain ⟨g, xs, rfl, h1, h2, h3⟩ := h.ex
  refine ⟨g, xs, rfl, h2, fun y hy => ?_⟩
  obtain ⟨t1, t2, t3, t4⟩ := h3 y hy
  simp [thB] at t2
  exact ⟨t2.1, t1, by omega, by omega⟩
theorem InS.st {v : Val} (h : InS v) : StS v := by
  obtain ⟨m, A, rfl, h1, h2, h3, h4⟩ := h.ex
  refine ⟨m, A.map pV, rfl, by simpa using h2, fun y hy => ?_⟩
  obtain ⟨p, hp, rfl⟩ := List.mem_map.mp hy
  obtain ⟨t1, t2, t3, t4⟩ := (h4 p hp).2.2
  exact ⟨rfl, by simp [pV, natV, t1], by simp [pV, natV]; omega, by simp [pV, natV, szV]; omega⟩
/-- what is judged -/
def Gf (S : Store) (v : Val) : Prop := DF S v ∧ dep v ≤ 15 ∧ szV v ≤ 3000
/-- .. of a part -/
def Gp (S : Store) (v : Val) : Prop := DF S v ∧ dep v ≤ 11 ∧ szV v ≤ 1500
theorem Gd.p {v : Val} (d : Gd S v) : Gp S v := ⟨d.1, by have := d.2.1; omega, by have := d.2.2; omega⟩
theorem Gp.grow {S' : Store} {v : Val} (d : Gp S v) (g : Grow h S S') (H : Hand S' h n) : Gp S' v := ⟨d.1.grow g H, d.2⟩
theorem Gp.f {v : Val} (d : Gp S v) : Gf S v := ⟨d.1, by have := d.2.1; omega, by have := d.2.2; omega⟩
theorem Gp.two {v : Val} (g : Int) (d : Gp S v) : Gf S (.tup [.int g, v]) := by
  obtain ⟨d1, d2, d3⟩ := d
  refine ⟨.tup fun x hx => ?_, by simp; omega, by simp [szV]; omega⟩
  simp at hx
  rcases hx with rfl | rfl
  · exact .int _
  · exact d1
/-- the many things of a state -/
structure Ys (ys : List Val) : Prop where
  hl : ys.length ≤ 4
  hy : ∀ y ∈ ys, isTup y = true ∧ clb y = true ∧ dep y ≤ 5 ∧ szV y ≤ 15
  ycl : clbs ys = true
  ydp : deps ys ≤ 5
  ysz : szs ys ≤ 60
noncomputable def spoiltB : En → Store → Res := (sSeq (sSet 3 (eLst (aCons (eCall fList (aCons (eB2 vIx (eV 1) (eC (.int 1))) aNil)) (aCons (eB2 vAdd (eB2 vIx (eV 1) (eC (.int 1))) (eTup (aCons (eCall g_law_odd (aCons (eV 0) aNil)) aNil))) (aCons (eC .non) (aCons (eB2 vAdd (eB2 vIx (eV 1) (eC (.int 1))) (eTup (aCons (eTup (aCons (eB2 vIx (eV 1) (eC (.int 0))) (aCons (eTup aNil) aNil))) aNil))) aNil)))))) (sRet (eTup (aCons (eB2 vIx (eV 1) (eC (.int 0))) (aCons (eCall g_law_pick (aCons (eV 0) (aCons (eV 3) aNil))) aNil)))))
noncomputable def spoiltC : En → Store → Res := (sSeq (sSet 4 (eCall g_law_take (aCons (eV 0) (aCons (eCall fLen (aCons (eB2 vIx (eV 1) (eC (.int 1))) aNil)) aNil)))) (sSeq (sSet 5 (eB2 vIx (eB2 vIx (eV 1) (eC (.int 1))) (eV 4))) (sSeq (sSet 6 (eLst (aCons (eCall g_law_odd (aCons (eV 0) aNil)) (aCons (eCall fList (aCons (eV 5) aNil)) (aCons (eB2 vAdd (eV 5) (eTup (aCons (eLst aNil) aNil))) (aCons (eB2 vAdd (eV 5) (eTup (aCons eDk aNil))) (aCons (eV 5) aNil))))))) (sSeq (sSet 6 (eB2 vAdd (eV 6) (eLst (aCons (eTup (aCons (eB2 vAdd (eB2 vIx (eV 1) (eC (.int 0))) (eC (.int 1000))) (aCons (eTup aNil) aNil))) (aCons (eTup (aCons (eB2 vAdd (eB2 vIx (eV 1) (eC (.int 0))) (eC (.int 999))) (aCons (eTup aNil) aNil))) aNil))))) (sRet (eTup (aCons (eB2 vIx (eV 1) (eC (.int 0))) (aCons (eB2 vAdd (eB2 vAdd (eSl (eB2 vIx (eV 1) (eC (.int 1))) pNo (pSome (eV 4))) (eTup (aCons (eCall g_law_pick (aCons (eV 0) (aCons (eV 6) aNil))) aNil))) (eSl (eB2 vIx (eV 1) (eC (.int 1))) (pSome (eB2 vAdd (eV 4) (eC (.int 1)))) pNo)) aNil))))))))
theorem spoilt_s_eq : g_law_spoilt_s = (sSeq (sSet 2 (eCall g_law_take (aCons (eV 0) (aCons (eC (.int 8)) aNil)))) (sSeq (sIf (bV (eB2 vEq (eV 2) (eC (.int 0)))) (sRet (eCall g_law_pick (aCons (eV 0) (aCons (eLst (aCons (eCall g_law_odd (aCons (eV 0) aNil)) (aCons (eCall fList (aCons (eV 1) aNil)) (aCons (eSl (eV 1) pNo (pSome (eC (.int 1)))) (aCons (eB2 vAdd (eV 1) (eTup (aCons (eC (.int 0)) aNil))) aNil))))) aNil)))) sNil) (sSeq (sIf (bV (eB2 vEq (eV 2) (eC (.int 1)))) (sRet (eTup (aCons (eCall g_law_pick (aCons (eV 0) (aCons (eLst (aCons (eNeg (eC (.int 1))) (aCons (eC (.bl true)) (aCons (eB2 vPow (eC (.int 2)) (eC (.int 32))) (aCons (eC .non) (aCons (eB2 vAdd (eB2 vIx (eV 1) (eC (.int 0))) (eC (.int 1))) (aCons (eC (.str "0")) aNil))))))) aNil))) (aCons (eB2 vIx (eV 1) (eC (.int 1))) aNil)))) sNil) (sSeq (sIf (bOr (bV (eB2 vEq (eV 2) (eC (.int 2)))) (bV (eB2 vEq (eCall fLen (aCons (eB2 vIx (eV 1) (eC (.int 1))) aNil)) (eC (.int 0))))) spoiltB sNil) spoiltC)))) := rfl
theorem spoiltB_ok {S0 : Store} {g w : Nat} {ys : List Val} {x3 x4 x5 x6 : Option Val} (Y : Ys ys) (H1 : Hand S h n) (hn : n ≤ 700000000) (g1 : Grow h S0 S) :
    wR (spoiltB [some (.ref h), some (.tup [.int (g : Int), .tup ys]), some (.int (w : Int)), x3, x4, x5, x6] S) ⟨fun _ _ => False, fun u S' => Gf S' u ∧ Hand S' h (n + 9) ∧ Grow h S0 S', fun _ _ => False, fun _ _ => False, fun _ _ _ _ => False⟩ := by
  have LL : LIM = 100000 := rfl
  obtain ⟨hl, hy, ycl, ydp, ysz⟩ := Y
  have lh1 := H1.lt
  unfold spoiltB
  simp -dsimp
  refine (odd_ok (H1.app _) (by omega)).imp fun o S2 z => ?_
  obtain ⟨z1, z2, z3⟩ := z
  have lh2 := z2.lt
  have l2 : S2[S.length]? = some (.lst ys) := z3.at at_new (by omega)
  simp -dsimp [LL]
  refine ⟨by omega, ?_⟩
  refine (pick_ok (z2.app _) (by omega) at_new (by omega) (by simp) (by simp)).imp fun u S4 z => ?_
  obtain ⟨hu, H4, s4⟩ := z
  have g4 := (Grow.app (h := h) (S := S2) _).trans s4.grow
  simp -dsimp
  refine ⟨by omega, ?_, H4.more (by omega), ((g1.trans (Grow.app _)).trans z3).trans g4⟩
  have l4 := g4.at l2 (by omega)
  have o4 := z1.grow g4 H4
  refine Gp.two _ ?_
  simp at hu
  rcases hu with rfl | rfl | rfl | rfl
  · exact ⟨.ref ⟨"list", by simp [tyOf, l4]⟩, by simp [dep], by simp [szV]⟩
  · refine ⟨.tup fun x hx => ?_, ?_, ?_⟩
    · rcases List.mem_append.mp hx with hx | hx
      · exact DF.of_clb ((hy x hx).2.1)
      · simp at hx; subst hx; exact o4.1
    · have : deps (ys ++ [o]) ≤ 8 := deps_le fun y h => by
        rcases List.mem_append.mp h with h | h
        · have := (hy y h).2.2.1; omega
        · simp at h; subst h; exact o4.2.1
      simp only [dep_tup]; omega
    · rw [szV_tup, szs_append]; have := o4.2.2; simp; omega
  · exact ⟨.non, by simp, by simp [szV]⟩
  · refine ⟨.tup fun x hx => ?_, ?_, ?_⟩
    · rcases List.mem_append.mp hx with hx | hx
      · exact DF.of_clb ((hy x hx).2.1)
      · simp at hx; subst hx; exact DF.of_clb (by simp)
    · have : deps (ys ++ [.tup [.int (g : Int), .tup []]]) ≤ 8 := deps_le fun y h => by
        rcases List.mem_append.mp h with h | h
        · have := (hy y h).2.2.1; omega
        · simp at h; subst h; simp
      simp only [dep_tup]; omega
    · rw [szV_tup, szs_append]; simp [szV]; omega
theorem spoiltC_ok {S0 : Store} {g w : Nat} {ys : List Val} {x3 x4 x5 x6 : Option Val} (Y : Ys ys) (lp : 0 < ys.length) (H1 : Hand S h n) (hn : n ≤ 700000000) (g1 : Grow h S0 S) :
    wR (spoiltC [some (.ref h), some (.tup [.int (g : Int), .tup ys]), some (.int (w : Int)), x3, x4, x5, x6] S) ⟨fun _ _ => False, fun u S' => Gf S' u ∧ Hand S' h (n + 9) ∧ Grow h S0 S', fun _ _ => False, fun _ _ => False, fun _ _ _ _ => False⟩ := by
  have LL : LIM = 100000 := rfl
  obtain ⟨hl, hy, ycl, ydp, ysz⟩ := Y
  have lh1 := H1.lt
  unfold spoiltC
  simp -dsimp
  refine (take_ok (many := (ys.length : Int)) H1 (by omega) (by omega) (by omega)).imp fun v S2 z => ?_
  obtain ⟨k, rfl, hk, H2, s2⟩ := z
  have hk2 : k < ys.length := by omega
  obtain ⟨y, hyk⟩ : ∃ y, ys[k]? = some y := ⟨_, List.getElem?_eq_getElem hk2⟩
  obtain ⟨zs, rfl⟩ := isTup_of (hy y (List.mem_of_getElem? hyk)).1
  obtain ⟨_, y2, y3, y4⟩ := hy _ (List.mem_of_getElem? hyk)
  simp -dsimp [hyk]
  refine (odd_ok H2 (by omega)).imp fun o S3 z => ?_
  obtain ⟨z1, z2, z3⟩ := z
  simp -dsimp [LL]
  have sz := szs_len' (xs := zs)
  simp at y3 y4
  refine ⟨by omega, ?_⟩
  have lh3 := z2.lt
  generalize hT : [Ob.lst zs, Ob.lst [], Ob.dk [],
            Ob.lst
              [o, Val.ref (List.length S3), Val.tup (zs ++ [Val.ref (List.length S3 + 1)]),
                Val.tup (zs ++ [Val.ref (List.length S3 + 2)]), Val.tup zs],
            Ob.lst [Val.tup [Val.int (↑g + 1000), Val.tup []], Val.tup [Val.int (↑g + 999), Val.tup []]],
            Ob.lst
              [o, Val.ref (List.length S3), Val.tup (zs ++ [Val.ref (List.length S3 + 1)]),
                Val.tup (zs ++ [Val.ref (List.length S3 + 2)]), Val.tup zs, Val.tup [Val.int (↑g + 1000), Val.tup []],
                Val.tup [Val.int (↑g + 999), Val.tup []]]] = T
  have m5 : (S3 ++ T)[S3.length + 5]? = some (.lst [o, Val.ref (List.length S3), Val.tup (zs ++ [Val.ref (List.length S3 + 1)]),
                Val.tup (zs ++ [Val.ref (List.length S3 + 2)]), Val.tup zs, Val.tup [Val.int (↑g + 1000), Val.tup []],
                Val.tup [Val.int (↑g + 999), Val.tup []]]) := by rw [at_off, ← hT]; rfl
  have m0 : (S3 ++ T)[S3.length]? = some (.lst zs) := by rw [← hT]; exact at_new
  have m1 : (S3 ++ T)[S3.length + 1]? = some (.lst []) := by rw [at_off, ← hT]; rfl
  have m2 : (S3 ++ T)[S3.length + 2]? = some (.dk []) := by rw [at_off, ← hT]; rfl
  clear hT
  refine (pick_ok (z2.app T) (by omega) m5 (by omega) (by simp) (by simp)).imp fun u S4 z => ?_
  obtain ⟨hu, H4, s4⟩ := z
  have gT : Grow h S3 (S3 ++ T) := Grow.app T
  have g4 := gT.trans s4.grow
  have r0 : DF S4 (.ref S3.length) := .ref ⟨"list", by simp [tyOf, s4.grow.at m0 (by omega)]⟩
  have r1 : DF S4 (.ref (S3.length + 1)) := .ref ⟨"list", by simp [tyOf, s4.grow.at m1 (by omega)]⟩
  have r2 : DF S4 (.ref (S3.length + 2)) := .ref ⟨"dict", by simp [tyOf, s4.grow.at m2 (by omega)]⟩
  have zdf : ∀ x ∈ zs, DF S4 x := fun x hx => DF.of_clbs (by simpa using y2) x hx
  have o4 := (z1.grow g4 H4).p
  have app : ∀ q, DF S4 q → dep q = 0 → szV q = 1 → Gp S4 (.tup (zs ++ [q])) := fun q d1 d2 d3 => by
    refine ⟨.tup fun x hx => ?_, ?_, ?_⟩
    · rcases List.mem_append.mp hx with hx | hx
      · exact zdf x hx
      · simp at hx; subst hx; exact d1
    · have : deps (zs ++ [q]) ≤ 8 := deps_le fun y h => by
        rcases List.mem_append.mp h with h | h
        · have := dep_mem h; omega
        · simp at h; subst h; omega
      simp only [dep_tup]; omega
    · rw [szV_tup, szs_append]; simp; omega
  have hu2 : Gp S4 u := by
    simp at hu
    rcases hu with rfl | rfl | rfl | rfl | rfl | rfl | rfl
    · exact o4
    · exact ⟨r0, by simp [dep], by simp [szV]⟩
    · exact app _ r1 (by simp [dep]) (by simp [szV])
    · exact app _ r2 (by simp [dep]) (by simp [szV])
    · exact ⟨.tup zdf, by simp; omega, by simp; omega⟩
    · exact ⟨DF.of_clb (by simp), by simp, by simp [szV]⟩
    · exact ⟨DF.of_clb (by simp), by simp, by simp [szV]⟩
  have c1 : cutL ys none (some (k : Int)) = ys.take k := cut_take ys k
  have e1 : ((k : Int) + 1) = ((k + 1 : Nat) : Int) := by omega
  have c2 : cutL ys (some ((k : Int) + 1)) none = ys.drop (k + 1) := by rw [e1]; exact cut_drop ys (k + 1)
  simp -dsimp [c1, c2]
  have lk : min k ys.length = k := by omega
  first
    | refine ⟨by omega, by omega, by omega, ?_⟩
    | skip
  have dl : deps (ys.take k ++ u :: ys.drop (k + 1)) ≤ 11 := deps_le fun y h => by
    rcases List.mem_append.mp h with h | h
    · have := (hy y (List.mem_of_mem_take h)).2.2.1; omega
    · rcases List.mem_cons.mp h with rfl | h
      · exact hu2.2.1
      · have := (hy y (List.mem_of_mem_drop h)).2.2.1; omega
  have tk : szs (ys.take k) + szs (ys.drop k) = szs ys := by rw [← szs_append, List.take_append_drop]
  have dk : szs (ys.drop (k + 1)) ≤ szs (ys.drop k) := by
    rw [drop_cons hyk]; simp
  refine ⟨by omega, ⟨.tup fun x hx => ?_, by simp only [dep_tup, deps_cons, dep_int, deps_nil]; omega, ?_⟩, H4.more (by omega), ((g1.trans s2.grow).trans z3).trans g4⟩
  · simp at hx
    rcases hx with rfl | rfl
    · exact .int _
    · refine .tup fun y h => ?_
      rcases List.mem_append.mp h with h | h
      · exact DF.of_clb (hy y (List.mem_of_mem_take h)).2.1
      · rcases List.mem_cons.mp h with rfl | h
        · exact hu2.1
        · exact DF.of_clb (hy y (List.mem_of_mem_drop h)).2.1
  · have := hu2.2.2
    simp only [szV_tup, szs_cons, szs_append, szs_nil, szV]
    omega
theorem spoilt_ok (H : Hand S h n) (hn : n ≤ 600000000) {v : Val} (hv : StS v) : wO (g_law_spoilt [.ref h, v] S) (fun u S' => Gf S' u ∧ Hand S' h (n + 10) ∧ Grow h S S') noX := by
  have LL : LIM = 100000 := rfl
  have cp32 : CP 2 32 := ⟨by decide, by decide, by decide⟩
  obtain ⟨g, ys, rfl, hl, hy⟩ := hv.ex
  have ycl : clbs ys = true := clbs_iff.mpr fun y h => (hy y h).2.1
  have ydp : deps ys ≤ 5 := deps_le fun y h => (hy y h).2.2.1
  have ysz : szs ys ≤ 60 := by
    have : ∀ l : List Val, (∀ y ∈ l, szV y ≤ 15) → szs l ≤ 15 * l.length := by
      intro l
      induction l with
      | nil => simp
      | cons y r ih =>
        intro hh
        have := ih fun z hz => hh z (by simp [hz])
        have := hh y (by simp)
        simp; omega
    have := this ys fun y h => (hy y h).2.2.2
    omega
  have ydf : ∀ S', DF S' (.tup ys) := fun S' => DF.of_clb (by simpa using ycl)
  have hB := @spoiltB_ok
  have hC := @spoiltC_ok
  have eg : g_law_spoilt = fnB 7 2 g_law_spoilt_s := rfl
  rw [eg, spoilt_s_eq]
  generalize spoiltB = BB at *
  generalize spoiltC = CC at *
  have Y : Ys ys := ⟨hl, hy, ycl, ydp, ysz⟩
  simp -dsimp [wO_fnB]
  refine (take_ok (many := 8) H (by omega) (by omega) (by omega)).imp fun w S1 z => ?_
  obtain ⟨w, rfl, hw, H1, s1⟩ := z
  have g1 := s1.grow
  have lh1 := H1.lt
  simp -dsimp
  by_cases c0 : w = 0
  · subst c0
    simp -dsimp
    refine (odd_ok H1 (by omega)).imp fun o S2 z => ?_
    obtain ⟨z1, z2, z3⟩ := z
    have lh2 := z2.lt
    have ct : cutL [Val.int (g : Int), .tup ys] none (some 1) = [.int (g : Int)] := cut_take _ 1
    simp -dsimp [ct, LL]
    have H3 : Hand (S2 ++ [Ob.lst [.int (g : Int), .tup ys], .lst [o, .ref S2.length, .tup [.int (g : Int)], .tup [.int (g : Int), .tup ys, .int 0]]]) h (n + 1 + 1) := z2.app _
    have at3 : (S2 ++ [Ob.lst [.int (g : Int), .tup ys], .lst [o, .ref S2.length, .tup [.int (g : Int)], .tup [.int (g : Int), .tup ys, .int 0]]])[S2.length + 1]? = some (.lst [o, .ref S2.length, .tup [.int (g : Int)], .tup [.int (g : Int), .tup ys, .int 0]]) := by rw [at_off]; rfl
    have at2 : (S2 ++ [Ob.lst [.int (g : Int), .tup ys], .lst [o, .ref S2.length, .tup [.int (g : Int)], .tup [.int (g : Int), .tup ys, .int 0]]])[S2.length]? = some (.lst [.int (g : Int), .tup ys]) := at_new
    have g3 : Grow h S2 (S2 ++ [Ob.lst [.int (g : Int), .tup ys], .lst [o, .ref S2.length, .tup [.int (g : Int)], .tup [.int (g : Int), .tup ys, .int 0]]]) := Grow.app _
    refine (pick_ok H3 (by omega) at3 (by omega) (by simp) (by simp)).imp fun u S4 z => ?_
    obtain ⟨hu, H4, s4⟩ := z
    have g4 := g3.trans s4.grow
    refine ⟨?_, H4.more (by omega), (g1.trans z3).trans g4⟩
    simp at hu
    rcases hu with rfl | rfl | rfl | rfl
    · exact (z1.p.grow g4 H4).f
    · have : S4[S2.length]? = some (.lst [.int (g : Int), .tup ys]) := s4.grow.at at2 (by omega)
      exact ⟨.ref ⟨"list", by simp [tyOf, this]⟩, by simp [dep], by simp [szV]⟩
    · exact ⟨.tup fun x hx => by simp at hx; subst hx; exact .int _, by simp, by simp [szV]⟩
    · refine ⟨.tup fun x hx => ?_, by simp; omega, by simp [szV]; omega⟩
      simp at hx
      rcases hx with rfl | rfl | rfl
      · exact .int _
      · exact ydf _
      · exact .int _
  · by_cases c1 : w = 1
    · subst c1
      simp -dsimp [LL]
      refine ⟨cp32, ?_⟩
      refine (pick_ok (H1.app _) (by omega) at_new (by omega) (by simp) (by simp)).imp fun u S4 z => ?_
      obtain ⟨hu, H4, s4⟩ := z
      have st0 : clb (.str "0") = true := by simp only [clb]; decide +kernel
      have hu2 : clb u = true ∧ dep u = 0 ∧ szV u = 1 := by
        simp at hu
        rcases hu with rfl | rfl | rfl | rfl | rfl | rfl <;> first | exact ⟨by simp, by simp, by simp [szV]⟩ | exact ⟨st0, by simp, by simp [szV]⟩
      obtain ⟨u1, u2, u3⟩ := hu2
      simp -dsimp
      refine ⟨by omega, ⟨DF.of_clb (by simp [u1, ycl]), by simp; omega, by simp; omega⟩, H4.more (by omega), (g1.trans (Grow.app _)).trans s4.grow⟩
    · by_cases c2 : w = 2 ∨ ys = []
      · have tail := hB Y H1 (by omega) g1 (g := g) (w := w) (x3 := none) (x4 := none) (x5 := none) (x6 := none)
        by_cases c3 : w = 2
        · subst c3
          simp -dsimp
          refine tail.mono (fun _ _ z => z.elim) (fun u S' z => ?_) (fun _ _ z => z.elim) (fun _ _ z => z.elim) fun _ _ _ _ z => z.elim
          exact ⟨z.1, z.2.1.more (by omega), z.2.2⟩
        · have c4 : ys = [] := c2.resolve_left c3
          subst c4
          have c1i : ¬ (w : Int) = 1 := by omega
          have c3i : ¬ (w : Int) = 2 := by omega
          simp -dsimp [c0, c1, c3, c1i, c3i]
          refine tail.mono (fun _ _ z => z.elim) (fun u S' z => ?_) (fun _ _ z => z.elim) (fun _ _ z => z.elim) fun _ _ _ _ z => z.elim
          exact ⟨z.1, z.2.1.more (by omega), z.2.2⟩
      · have c3 : ¬ w = 2 := fun z => c2 (.inl z)
        have c4 : ¬ ys = [] := fun z => c2 (.inr z)
        have lp : 0 < ys.length := List.length_pos_iff.mpr c4
        have c1i : ¬ (w : Int) = 1 := by omega
        have c3i : ¬ (w : Int) = 2 := by omega
        simp -dsimp [c0, c1, c3, c4, c1i, c3i]
        have tail := hC Y lp H1 (by omega) g1 (g := g) (w := w) (x3 := none) (x4 := none) (x5 := none) (x6 := none)
        refine tail.mono (fun _ _ z => z.elim) (fun u S' z => ?_) (fun _ _ z => z.elim) (fun _ _ z => z.elim) fun _ _ _ _ z => z.elim
        exact ⟨z.1, z.2.1.more (by omega), z.2.2⟩
end
end K30

set_option Elab.async false
set_option linter.all false
set_option maxRecDepth 100000
set_option maxHeartbeats 400000
namespace K30
open PySem PySem.Spec PyProof.Rows L2 Mp
theorem OutS.facts {v : Val} (h : OutS v) (S : Store) : ∃ (g : Nat) (xs : List Val), v = .tup [.int (g : Int), .tup xs] ∧ xs.length ≤ 30 ∧ clbs xs = true ∧ deps xs ≤ 10 ∧ outB v = true ∧ DF S v ∧ szV v ≤ 40000 ∧ dep v ≤ 15 := by
  obtain ⟨g, xs, rfl, h1, h2, h3⟩ := h.ex
  have cl : clbs xs = true := clbs_iff.mpr fun x hx => (h3 x hx).cl
  have dp : deps xs ≤ 3 := deps_le fun x hx => (h3 x hx).dp
  have sz : szs xs ≤ 10 * xs.length := by
    clear h h2 cl dp
    induction xs with
    | nil => simp
    | cons y r ih =>
      have := ih fun z hz => h3 z (by simp [hz])
      have := (h3 y (by simp)).sz
      simp; omega
  refine ⟨g, xs, rfl, by omega, cl, by omega, ?_, DF.of_clb (by simp [cl]), by simp [szV]; omega, by simp; omega⟩
  simp only [outB, linkB, Bool.and_eq_true, decide_eq_true_eq, List.all_eq_true]
  refine ⟨⟨by omega, ?_⟩, fun x hx => (h3 x hx).th⟩
  rw [bigI_eq]; omega
theorem heldB_of {a : Int} : ∀ {A : AL} {l : Int}, (A.map (·.1)).Pairwise (· < ·) → (∀ p ∈ A, l < (p.1 : Int) ∧ (p.1 : Int) < a + 1000 ∧ thB p.2 = true) → heldB a l (A.map pV) = true
  | [], l, _, _ => by simp [heldB]
  | p :: r, l, ha, h => by
    simp only [List.map_cons, List.pairwise_cons] at ha
    obtain ⟨h1, h2, h3⟩ := h p (by simp)
    rw [List.map_cons, heldB_cons]
    refine ⟨(p.1 : Int), p.2, rfl, h3, h1, h2, heldB_of ha.2 fun q hq => ?_⟩
    have := ha.1 q.1 (List.mem_map.mpr ⟨q, hq, rfl⟩)
    obtain ⟨w1, w2, w3⟩ := h q (by simp [hq])
    exact ⟨by omega, w2, w3⟩
theorem InS.facts {v : Val} (h : InS v) (S : Store) : ∃ (m : Nat) (A : AL), v = .tup [.int (m : Int), .tup (A.map pV)] ∧ (A.map (·.1)).Pairwise (· < ·) ∧ (∀ q ∈ A, m < q.1) ∧ A.length ≤ 30 ∧ m < 4294967296 ∧ clbs (A.map pV) = true ∧ deps (A.map pV) ≤ 10 ∧ DF S v ∧ szV v ≤ 40000 ∧ inB v = true ∧ dep v ≤ 15 := by
  obtain ⟨m, A, rfl, h1, h2, h3, h4⟩ := h.ex
  have cl : clbs (A.map pV) = true := clbs_iff.mpr fun x hx => by
    obtain ⟨p, hp, rfl⟩ := List.mem_map.mp hx
    simp [pV, natV, (h4 p hp).2.2.cl]
  have dp : deps (A.map pV) ≤ 4 := deps_le fun x hx => by
    obtain ⟨p, hp, rfl⟩ := List.mem_map.mp hx
    have := (h4 p hp).2.2.dp
    simp [pV, natV]; omega
  have sz : szs (A.map pV) ≤ 15 * A.length := by
    clear h h2 cl dp h3
    induction A with
    | nil => simp
    | cons y r ih =>
      have := ih fun z hz => h4 z (by simp [hz])
      have := (h4 y (by simp)).2.2.sz
      simp [pV, natV, szV]
      omega
  refine ⟨m, A, rfl, h3, fun q hq => (h4 q hq).1, by omega, h1, cl, by omega, DF.of_clb (by simp [cl]), by simp [szV]; omega, ?_, by simp; omega⟩
  simp only [inB, linkB, Bool.and_eq_true, decide_eq_true_eq]
  refine ⟨⟨by omega, ?_⟩, heldB_of h3 fun p hp => ?_⟩
  · rw [bigI_eq]; omega
  · obtain ⟨y1, y2, y3⟩ := h4 p hp
    exact ⟨by omega, by omega, y3.th⟩
section
variable {S : Store} {h n : Nat}
theorem KeepL.grow {S S' : Store} (k : KeepL [h] S S') : Grow h S S' := ⟨k.1, fun j hj hn => by rw [List.getElem?_eq_getElem hj]; exact k.at (List.getElem?_eq_getElem hj) (by simpa using hn)⟩
theorem second_ok (ns : List Int) (S : Store) : wO (g_law_second [.frz (ns.map .int)] S) (fun v _ => v = .bl true) noX := by
  have LL : LIM = 100000 := rfl
  have rg : RNG = 1152921504606846976 := by unfold RNG; decide
  have hj := @judged_pu
  have hg := @goes_on_ok
  have hs := @spoilt_ok
  simp -dsimp [wO_fnB, g_law_second, g_law_second_s, wR_sFor]
  refine (hand_ok ns S).imp fun v S1 z => ?_
  obtain ⟨rfl, H1, T, rfl⟩ := z
  generalize S.length + 1 = h at *
  generalize S ++ T = S1 at *
  simp -dsimp
  refine (out_state_ok H1 (by omega)).imp fun v1 S2 z => ?_
  obtain ⟨o1, H2, g2⟩ := z
  simp -dsimp
  refine (in_state_ok H2 (by omega)).imp fun v2 S3 z => ?_
  obtain ⟨i1, H3, g3⟩ := z
  simp -dsimp
  obtain ⟨g, xs, e1, a1, a2, a3, a4, a5, a6, a7⟩ := o1.facts S3
  refine (hj a5 a6 a7).wk fun S4 x4 => ?_
  obtain ⟨m, A, e2, b1, b2, b3, b4, b5, b6, b7, b8, b9, b10⟩ := i1.facts S4
  simp -dsimp
  refine (hj b7 b8 b10).wk fun S5 x5 => ?_
  simp -dsimp
  have H5 : Hand S5 h 50 := by obtain ⟨T, rfl⟩ := x4; obtain ⟨T2, rfl⟩ := x5; exact ((H3.more (by omega)).app T).app T2
  subst e1; subst e2
  refine (hg H5 (by omega) rfl a1 a2 a3 ((a5.ex x4).ex x5) a6 a4 rfl b1 b2 b3 b4 b5 b6 (b7.ex x5) b8 b9).imp fun v S6 z => ?_
  obtain ⟨rfl, H6, k6⟩ := z
  simp -dsimp [wR_sFor]
  refine ⟨by omega, ?_⟩
  refine wR_forX (upL 0 4) (fun i en S' => (∃ x0 x4, en = [x0, some (.ref h), some (.tup [.int (g : Int), .tup xs]), some (.tup [.int (m : Int), .tup (A.map pV)]), x4]) ∧ Hand S' h (60 + i * 20)) ⟨⟨_, _, rfl⟩, H6.more (by omega)⟩ (fun i x en S' hx hI => ?_) fun en S' hI => ?_
  · obtain ⟨⟨x0, x4, rfl⟩, q1⟩ := hI
    obtain ⟨hi, rfl⟩ := rng_get hx
    refine ⟨trivial, _, rfl, ?_⟩
    simp -dsimp [g_law_second_b1]
    refine (hs q1 (by omega) o1.st).imp fun u S7 z => ?_
    obtain ⟨z1, z2, z3⟩ := z
    simp -dsimp
    refine (hj z1.1 (by have := z1.2.2; omega) z1.2.1).wk fun S8 x8 => ?_
    have H8 : Hand S8 h (60 + i * 20 + 10) := by obtain ⟨T, rfl⟩ := x8; exact z2.app T
    simp -dsimp
    refine (hs H8 (by omega) i1.st).imp fun u S9 z => ?_
    obtain ⟨y1, y2, y3⟩ := z
    simp -dsimp
    refine (hj y1.1 (by have := y1.2.2; omega) y1.2.1).wk fun S10 x10 => ?_
    have H10 : Hand S10 h (60 + (i + 1) * 20) := by obtain ⟨T, rfl⟩ := x10; exact (y2.app T).more (by omega)
    simp -dsimp
    exact H10
  · obtain ⟨⟨x0, x4, rfl⟩, q1⟩ := hI
    refine ⟨trivial, ?_⟩
    simp -dsimp [out_make, wO_eMeth]
    have o0 : OutAt (S' ++ [outO 0 (S'.length + 1), .lst []]) S'.length 0 (S'.length + 1) [] := ⟨at_new, by rw [at_off]; rfl, by simp⟩
    simp -dsimp [out_pick o0.ob (n := "state") rfl, out_state_w o0, LL]
    have ez : Val.int ((0 : Nat) : Int) = .int 0 := rfl
    refine (same_clb 20 _ (.tup [.int 0, .tup []]) (by simp) (by simp) (by omega)).wk fun S7 x7 => ?_
    simp -dsimp [in_make, wO_eMeth]
    have i0 : InAt (S7 ++ [inO 0 (S7.length + 1), .dk []]) S7.length 0 (S7.length + 1) [] := ⟨at_new, by rw [at_off]; rfl, by simp⟩
    simp -dsimp [in_pick i0.ob (n := "state") rfl]
    refine (in_state_w i0).wk fun S8 x8 => ?_
    have eh : heldP [] = [] := heldP_asc (A := []) (by simp)
    have en : natV 0 = .int 0 := rfl
    simp -dsimp [eh, en, LL]
    refine (same_clb 20 _ (.tup [.int 0, .tup []]) (by simp) (by simp) (by omega)).wk fun S9 x9 => ?_
    rfl
end
theorem law_w (ns : List Int) : wO (g_law [.frz (ns.map .int)] []) (fun v _ => v = .bl true) noX := by
  have h1 := first_ok ns []
  have h2 := second_ok ns
  simp -dsimp [wO_fnB, g_law, g_law_s]
  refine h1.imp fun v S z => ?_
  subst z
  simp -dsimp
  exact (h2 S).imp fun v S z => z
theorem math : ∀ ns : List Int, ns.length ≤ 63 → ∃ S, g_law [.frz (ns.map .int)] [] = .ok (.bl true) S := fun ns _ => by
  obtain ⟨v, S, e, rfl⟩ := wO_ok (law_w ns)
  exact ⟨S, e⟩
end K30

set_option Elab.async false
set_option linter.all false
set_option maxRecDepth 100000
set_option maxHeartbeats 0
namespace K30
open PySem PySem.Spec PyProof.Rows L2 Mp
def loose0 : List Str := ["RoadError", "NoNumber", "NoState", "is_number", "NUMBER_LIMIT", "WINDOW", "is_thing", "is_link_number", "is_pair", "Outgoing", "is_outgoing_state", "outgoing_of", "Incoming", "are_held", "is_incoming_state", "incoming_of", "_law_hand", "_law_take", "_law_pick", "_law_is_integer", "_law_same", "_law_item", "_law_thing", "_law_heard", "_law_ends_right", "_law_deed", "_law_drained", "_law_first", "_law_is_within", "_law_odd"]
def loose1 : List Str := ["_law_is_thing", "_law_some_thing", "_law_out_state", "_law_in_state", "_law_spoilt", "_law_is_out", "_law_is_in", "_law_out_told", "_law_in_told", "_law_judged", "_law_goes_on", "_law_second"]
def loose : List Str := loose0 ++ loose1
abbrev R : PySem.W.OpenRow := PySem.W.OpenLaw.row PySem.Challenge.rw_leastroads_k30_whole_links_and_their_sta
abbrev hk : PySem.W.Hook := hookM 5 fl dl xl
def ob (s : PySem.W.SharedT) : AlM := obsMG 5 fl dl xl (HandSHeadRun.getT s)
theorem ob_eq (s : PySem.W.SharedT) : ob s = hk.obs s.abs := obsMG_eq (HandSHeadRun.getT_eq s)
theorem run (w : World) : HandSHeadRun.RunEq R (PySem.W.view R.prog [46]) hk ob 8000 loose w := by
  intro os
  kernel_rfl
end K30
open PySem PySem.W PySem.Calls PyProof.Rows
theorem PySem.Challenge.cw_leastroads_k30_whole_links_and_their_sta_holds : PySem.Challenge.rw_leastroads_k30_whole_links_and_their_sta.Holds := by
  w_on; o_law
  refine HandSHeadRun.head_any (r := OpenLaw.row PySem.Challenge.rw_leastroads_k30_whole_links_and_their_sta) (q := view (OpenLaw.row PySem.Challenge.rw_leastroads_k30_whole_links_and_their_sta).prog [46]) (H := K30.hk) (ob := K30.ob) (M := 8000) (loose := K30.loose) (d := HandSHeadRun.topDef (OpenLaw.row PySem.Challenge.rw_leastroads_k30_whole_links_and_their_sta).prog 46) (kwd := []) K30.ob_eq
    (by kernel_rfl) (fun s => by kernel_rfl) K30.run (by kernel_rfl) (by kernel_rfl) (by kernel_rfl) (by rfl) (by first | assumption | decide +kernel) (by decide +kernel) ⟨rfl, rfl, rfl, rfl, rfl, by decide +kernel⟩ ?hw ?hc
  case hw => w_witness2
  case hc =>
    refine Mp.walk_M (l := PySem.Challenge.rw_leastroads_k30_whole_links_and_their_sta) (n := 63) (k := 25) (x := "_law_script") (Y := K30.YY) (g := K30.g_law) rfl (by decide) (by kernel_rfl) ⟨rfl, by decide, by decide⟩ ?F K30.math
    intro w mg fa h Y G hmg0
    obtain ⟨K, KX, c⟩ := Y
    have hmg : mg ("law" : PySem.Str) = some (.ref fa) := by
      rw [← show (HandSHeadRun.topDef (OpenLaw.row PySem.Challenge.rw_leastroads_k30_whole_links_and_their_sta).prog 46).name = ("law" : PySem.Str) from by kernel_rfl]
      exact hmg0
    obtain ⟨fd, hb, hF⟩ := K30.all_ok (P := (PySem.Challenge.rw_leastroads_k30_whole_links_and_their_sta).prog) (w := w) KX G hmg c
    exact ⟨K, fd, KX, hb, fun base _ _ => hF base⟩
