import PyProof.Rows.All
import Wide.All
import OpenK.AllK
import Wide.FinOn
import HandS.Deep
import HandS.Defaults
import HandS.Exc
import HandS.ExcOwn
import HandS.ForMost
import HandS.Head0
import HandS.Head1
import HandS.Head2
import HandS.HeadEnd
import HandS.HeadHook1
import HandS.HeadHook2
import HandS.HeadHook3
import HandS.IsInst
import HandS.More
import HandS.RevRange
import HandS.SortInts
import HandS.Style
import HandS.TryOnly
import HandS.TupAny
import HandS.WordsDict
import HandS.WordsExc
import HandS.Zip
import KE.KStateDown
import Lean
import PySem.Challenge.RW_doppelganger_k01_parts_and_nodes
set_option Elab.async false
set_option linter.all false
set_option maxRecDepth 100000
set_option maxHeartbeats 0
/-! Dg1: values, cells, how they lie in the heap, and outcomes. -/
namespace Dg
open PySem PySem.Spec PyProof.Rows L2

/-! ### values and memory of the mirror -/
inductive U where
  | non | bl (b : Bool) | int (i : Int) | str (s : Str) | tup (xs : List U) | ref (i : Nat)
  /-- a list that is never changed (the script) -/
  | frl (xs : List U)
inductive Cell where
  | lst (xs : List U)
  | dct (kvs : List (Key × U))
abbrev Mem := List Cell
abbrev Slots := List (Option U)
inductive Res (α : Type) where
  | ok (a : α) (m : Mem)
  | ex (c : Str) (m : Mem)
  | bad
def Res.bind {α β : Type} (r : Res α) (k : α → Mem → Res β) : Res β := match r with
  | .ok a m => k a m
  | .ex c m => .ex c m
  | .bad => .bad
inductive Out where
  | nx (s : Slots) (m : Mem)
  | rt (u : U) (m : Mem)
  | bk (s : Slots) (m : Mem)
  | ct (s : Slots) (m : Mem)
  | ex (c : Str) (s : Slots) (m : Mem)
  | bad
abbrev FE := Slots → Mem → Res U
abbrev FT := Slots → Mem → Res Bool
abbrev FA := Slots → Mem → Res (List U)
abbrev FS := Slots → Mem → Out

/-! ### how a value lies -/
/-- a list that stays as it is -/
def FrL (K : PySem.W.Frag) (H : Hp) (a : Addr) (xs : List V) : Prop :=
  (∃ o, H a = some (.frz o (.lst xs))) ∨
    ∃ (o : Obj) (its : Array Value) (n : Nat), K.lookup a = some o ∧ o.cls = .type "list" ∧ o.dict = none ∧ o.data = .seq its n ∧ its.size ≤ sizeLine ∧ Vals xs its.toList
theorem FrL.sq {K : PySem.W.Frag} {H : Hp} {a : Addr} {xs : List V} (h : FrL K H a xs) : SqL K H a xs := by
  rcases h with ⟨o, h⟩ | h
  · exact .inl (.inr ⟨o, h⟩)
  · exact .inr h
mutual
inductive RepV (K : PySem.W.Frag) (H : Hp) (ρ : List Addr) : U → V → Prop
  | non : RepV K H ρ .non .non
  | bl {b : Bool} : RepV K H ρ (.bl b) (.bl b)
  | int {i : Int} : RepV K H ρ (.int i) (.int i)
  | str {s : Str} : PyData.strOk s = true → RepV K H ρ (.str s) (.str s)
  | tup {us : List U} {a : Addr} {vs : List V} : SqT K H a vs → RepVs K H ρ us vs → RepV K H ρ (.tup us) (.ref a)
  | ref {i : Nat} {a : Addr} : ρ[i]? = some a → RepV K H ρ (.ref i) (.ref a)
  | frl {us : List U} {a : Addr} {vs : List V} : FrL K H a vs → RepVs K H ρ us vs → RepV K H ρ (.frl us) (.ref a)
inductive RepVs (K : PySem.W.Frag) (H : Hp) (ρ : List Addr) : List U → List V → Prop
  | nil : RepVs K H ρ [] []
  | cons {u : U} {us : List U} {v : V} {vs : List V} : RepV K H ρ u v → RepVs K H ρ us vs → RepVs K H ρ (u :: us) (v :: vs)
end
/-- tuples and what is locked stay -/
def TX (H H' : Hp) : Prop := (∀ a xs, Rd H a (.tup xs) → Rd H' a (.tup xs)) ∧ ∀ a o u, H a = some (.frz o u) → H' a = some (.frz o u)
theorem TX.refl (H : Hp) : TX H H := ⟨fun _ _ h => h, fun _ _ _ h => h⟩
theorem TX.trans {H H1 H2 : Hp} (a : TX H H1) (b : TX H1 H2) : TX H H2 := ⟨fun x o h => b.1 x o (a.1 x o h), fun x o u h => b.2 x o u (a.2 x o u h)⟩
theorem TX.put {H : Hp} {p : Addr} {o : HO} (h : ∀ xs, ¬ H p = some (.tup xs)) (h2 : ∀ z u, ¬ H p = some (.frz z u)) : TX H (upd H p o) := ⟨fun a xs r => by
  rcases r with r | ⟨z, r⟩
  · have ne : a ≠ p := fun e => h xs (e ▸ r)
    exact .inl (by rw [upd_ne ne]; exact r)
  · have ne : a ≠ p := fun e => h2 z _ (e ▸ r)
    exact .inr ⟨z, by rw [upd_ne ne]; exact r⟩, fun a z u r => by
  have ne : a ≠ p := fun e => h2 z u (e ▸ r)
  rw [upd_ne ne]; exact r⟩
theorem TX.new {H : Hp} {p : Addr} {o : HO} (h : H p = none) : TX H (upd H p o) := TX.put (fun xs r => by rw [h] at r; cases r) fun z u r => by rw [h] at r; cases r
theorem TX.seq {K : PySem.W.Frag} {H H' : Hp} {a : Addr} {xs : List V} (t : TX H H') (h : SqT K H a xs) : SqT K H' a xs := by
  rcases h with h | h
  · exact .inl (t.1 a xs h)
  · exact .inr h
theorem TX.frl {K : PySem.W.Frag} {H H' : Hp} {a : Addr} {xs : List V} (t : TX H H') (h : FrL K H a xs) : FrL K H' a xs := by
  rcases h with ⟨o, h⟩ | h
  · exact .inl ⟨o, t.2 a o _ h⟩
  · exact .inr h
def Ext (ρ ρ' : List Addr) : Prop := ∃ l, ρ' = ρ ++ l
theorem Ext.refl (ρ : List Addr) : Ext ρ ρ := ⟨[], by simp⟩
theorem Ext.trans {a b c : List Addr} (h : Ext a b) (g : Ext b c) : Ext a c := by
  obtain ⟨l, rfl⟩ := h
  obtain ⟨r, rfl⟩ := g
  exact ⟨l ++ r, by simp⟩
theorem Ext.get {ρ ρ' : List Addr} (h : Ext ρ ρ') {i : Nat} {a : Addr} (e : ρ[i]? = some a) : ρ'[i]? = some a := by
  obtain ⟨l, rfl⟩ := h
  have : i < ρ.length := by
    rw [List.getElem?_eq_some_iff] at e
    exact e.1
  rw [List.getElem?_append_left this]
  exact e
theorem Ext.snoc (ρ : List Addr) (p : Addr) : Ext ρ (ρ ++ [p]) := ⟨[p], rfl⟩
section
variable {K : PySem.W.Frag} {H H' : Hp} {ρ ρ' : List Addr}
mutual
theorem RepV.mono (t : TX H H') (e : Ext ρ ρ') : ∀ {u : U} {v : V}, RepV K H ρ u v → RepV K H' ρ' u v
  | _, _, .non => .non
  | _, _, .bl => .bl
  | _, _, .int => .int
  | _, _, .str h => .str h
  | _, _, .tup h r => .tup (t.seq h) (RepVs.mono t e r)
  | _, _, .ref h => .ref (e.get h)
  | _, _, .frl h r => .frl (t.frl h) (RepVs.mono t e r)
theorem RepVs.mono (t : TX H H') (e : Ext ρ ρ') : ∀ {us : List U} {vs : List V}, RepVs K H ρ us vs → RepVs K H' ρ' us vs
  | _, _, .nil => .nil
  | _, _, .cons h r => .cons (RepV.mono t e h) (RepVs.mono t e r)
end
theorem RepVs.length : ∀ {us : List U} {vs : List V}, RepVs K H ρ us vs → us.length = vs.length
  | _, _, .nil => rfl
  | _, _, .cons _ r => congrArg (· + 1) (RepVs.length r)
theorem RepVs.get : ∀ {us : List U} {vs : List V} {i : Nat} {u : U}, RepVs K H ρ us vs → us[i]? = some u → ∃ v, vs[i]? = some v ∧ RepV K H ρ u v
  | _, _, _, _, .nil, e => by simp at e
  | _, _, 0, _, .cons h _, e => by simp at e; subst e; exact ⟨_, rfl, h⟩
  | _, _, i + 1, u, .cons _ r, e => by
    obtain ⟨v, h1, h2⟩ := RepVs.get (i := i) (u := u) r (by simpa using e)
    exact ⟨v, by simpa using h1, h2⟩
theorem RepVs.append : ∀ {us ws : List U} {vs xs : List V}, RepVs K H ρ us vs → RepVs K H ρ ws xs → RepVs K H ρ (us ++ ws) (vs ++ xs)
  | _, _, _, _, .nil, s => s
  | _, _, _, _, .cons h r, s => .cons h (RepVs.append r s)
theorem RepVs.set {u : U} {v : V} (h : RepV K H ρ u v) : ∀ {us : List U} {vs : List V} (i : Nat), RepVs K H ρ us vs → RepVs K H ρ (us.set i u) (vs.set i v)
  | _, _, _, .nil => .nil
  | _, _, 0, .cons _ r => .cons h r
  | _, _, i + 1, .cons q r => .cons q (RepVs.set h i r)
theorem RepVs.take : ∀ {us : List U} {vs : List V} (n : Nat), RepVs K H ρ us vs → RepVs K H ρ (us.take n) (vs.take n)
  | _, _, 0, _ => .nil
  | _, _, _ + 1, .nil => .nil
  | _, _, n + 1, .cons h r => .cons h (RepVs.take n r)
theorem RepVs.drop : ∀ {us : List U} {vs : List V} (n : Nat), RepVs K H ρ us vs → RepVs K H ρ (us.drop n) (vs.drop n)
  | _, _, 0, r => r
  | _, _, _ + 1, .nil => .nil
  | _, _, n + 1, .cons _ r => RepVs.drop n r
theorem RepVs.one {u : U} {v : V} (h : RepV K H ρ u v) : RepVs K H ρ [u] [v] := .cons h .nil
theorem RepVs.reverse {us : List U} {vs : List V} (r : RepVs K H ρ us vs) : RepVs K H ρ us.reverse vs.reverse := by
  induction us generalizing vs with
  | nil => cases r; exact .nil
  | cons u us ih =>
    cases r with
    | cons h r => rw [List.reverse_cons, List.reverse_cons]; exact (ih r).append (.one h)
theorem RepVs.ints : ∀ {is : List Int} {vs : List V}, RepVs K H ρ (is.map U.int) vs → vs = is.map V.int
  | [], _, r => by cases r; rfl
  | i :: is, _, r => by
    cases r with
    | cons h r => cases h; rw [RepVs.ints r]; rfl
theorem RepVs.ofInts : ∀ (is : List Int), RepVs K H ρ (is.map U.int) (is.map V.int)
  | [] => .nil
  | _ :: is => .cons .int (RepVs.ofInts is)
theorem RepVs.strs : ∀ {is : List Str} {vs : List V}, RepVs K H ρ (is.map U.str) vs → vs = is.map V.str
  | [], _, r => by cases r; rfl
  | i :: is, _, r => by
    cases r with
    | cons h r => cases h; rw [RepVs.strs r]; rfl
theorem RepVs.ofStrs : ∀ (is : List Str), (∀ x ∈ is, PyData.strOk x = true) → RepVs K H ρ (is.map U.str) (is.map V.str)
  | [], _ => .nil
  | x :: is, h => .cons (.str (h x (by simp))) (RepVs.ofStrs is fun y hy => h y (by simp [hy]))
theorem RepVs.strsOk : ∀ {is : List Str} {vs : List V}, RepVs K H ρ (is.map U.str) vs → ∀ x ∈ is, PyData.strOk x = true
  | [], _, _ => by simp
  | i :: is, _, r => by
    cases r with
    | cons h r =>
      cases h with
      | str h =>
        intro x hx
        rcases List.mem_cons.mp hx with e | e
        · exact e ▸ h
        · exact RepVs.strsOk r x e
theorem RepVs.bls : ∀ {is : List Bool} {vs : List V}, RepVs K H ρ (is.map U.bl) vs → vs = is.map V.bl
  | [], _, r => by cases r; rfl
  | i :: is, _, r => by
    cases r with
    | cons h r => cases h; rw [RepVs.bls r]; rfl
end

theorem nodup_inj {α : Type} {l : List α} (h : l.Nodup) {i j : Nat} (hi : i < l.length) (hj : j < l.length) (e : l[i] = l[j]) : i = j := by
  have p := List.pairwise_iff_getElem.mp h
  rcases Nat.lt_trichotomy i j with q | q | q
  · exact absurd e (p i j hi hj q)
  · exact q
  · exact absurd e.symm (p j i hj hi q)
/-! ### how the memory lies -/
def RepC (K : PySem.W.Frag) (H : Hp) (ρ : List Addr) : Cell → Addr → Prop
  | .lst us, a => ∃ vs, H a = some (.lst vs) ∧ RepVs K H ρ us vs
  | .dct kus, a => ∃ kvs, H a = some (.dK kvs) ∧ kvs.map (·.1) = kus.map (·.1) ∧ RepVs K H ρ (kus.map (·.2)) (kvs.map (·.2))
structure RepM (K : PySem.W.Frag) (H : Hp) (ρ : List Addr) (μ : Mem) : Prop where
  len : ρ.length = μ.length
  nd : ρ.Nodup
  cell : ∀ (i : Nat) (c : Cell), μ[i]? = some c → ∃ a, ρ[i]? = some a ∧ RepC K H ρ c a
section
variable {K : PySem.W.Frag} {H H' : Hp} {ρ ρ' : List Addr} {μ : Mem}
theorem RepC.there {c : Cell} {a : Addr} (h : RepC K H ρ c a) : ∃ o, H a = some o ∧ (∀ xs, o ≠ .tup xs) ∧ ∀ z u, o ≠ .frz z u := by
  cases c with
  | lst us => obtain ⟨vs, e, _⟩ := h; exact ⟨_, e, fun _ => by simp, fun _ _ => by simp⟩
  | dct us => obtain ⟨vs, e, _⟩ := h; exact ⟨_, e, fun _ => by simp, fun _ _ => by simp⟩
theorem RepC.tx {c : Cell} {a : Addr} {o' : HO} (h : RepC K H ρ c a) : TX H (upd H a o') := by
  obtain ⟨o, e, h1, h2⟩ := h.there
  exact TX.put (fun xs r => by rw [e] at r; cases r; exact h1 _ rfl) fun z u r => by rw [e] at r; cases r; exact h2 _ _ rfl
theorem RepC.mono {c : Cell} {a : Addr} (t : TX H H') (x : Ext ρ ρ') (e : H' a = H a) (h : RepC K H ρ c a) : RepC K H' ρ' c a := by
  cases c with
  | lst us => obtain ⟨vs, q, r⟩ := h; exact ⟨vs, e.trans q, r.mono t x⟩
  | dct us => obtain ⟨vs, q, w, r⟩ := h; exact ⟨vs, e.trans q, w, r.mono t x⟩
theorem RepM.at (m : RepM K H ρ μ) {i : Nat} {a : Addr} (e : ρ[i]? = some a) : ∃ c, μ[i]? = some c ∧ RepC K H ρ c a := by
  have hi : i < ρ.length := (List.getElem?_eq_some_iff.mp e).1
  have hj : i < μ.length := m.len ▸ hi
  obtain ⟨a', e', r⟩ := m.cell i _ (List.getElem?_eq_getElem hj)
  rw [e] at e'; cases e'
  exact ⟨_, List.getElem?_eq_getElem hj, r⟩
theorem RepM.get (m : RepM K H ρ μ) {i : Nat} {a : Addr} {c : Cell} (e : ρ[i]? = some a) (h : μ[i]? = some c) : RepC K H ρ c a := by
  obtain ⟨a', e', r⟩ := m.cell i c h
  rw [e] at e'; cases e'
  exact r
theorem RepM.lst (m : RepM K H ρ μ) {i : Nat} {a : Addr} {us : List U} (e : ρ[i]? = some a) (h : μ[i]? = some (.lst us)) : ∃ vs, H a = some (.lst vs) ∧ RepVs K H ρ us vs := m.get e h
theorem RepM.here (m : RepM K H ρ μ) {a : Addr} (h : a ∈ ρ) : H a ≠ none := by
  obtain ⟨i, hi, e⟩ := List.getElem_of_mem h
  obtain ⟨c, _, r⟩ := m.at (i := i) (a := a) (by rw [List.getElem?_eq_getElem hi, e])
  obtain ⟨o, q, _⟩ := r.there
  rw [q]; simp
theorem RepM.notin (m : RepM K H ρ μ) {p : Addr} (h : H p = none) : p ∉ ρ := fun q => m.here q h
/-- the heap has more, the memory is the same -/
theorem RepM.keep (m : RepM K H ρ μ) (t : TX H H') (k : ∀ a ∈ ρ, H' a = H a) : RepM K H' ρ μ := ⟨m.len, m.nd, fun i c h => by
  obtain ⟨a, e, r⟩ := m.cell i c h
  exact ⟨a, e, r.mono t (Ext.refl _) (k a (List.mem_of_getElem? e))⟩⟩
theorem RepM.temp (m : RepM K H ρ μ) {p : Addr} {o : HO} (h : H p = none) : RepM K (upd H p o) ρ μ := m.keep (TX.new h) fun a ha => upd_ne fun e => m.notin h (e ▸ ha)
/-- a new cell -/
theorem RepM.new (m : RepM K H ρ μ) {p : Addr} {o : HO} {c : Cell} (h : H p = none) (r : RepC K (upd H p o) (ρ ++ [p]) c p) : RepM K (upd H p o) (ρ ++ [p]) (μ ++ [c]) := by
  refine ⟨by simp [m.len], ?_, fun i d e => ?_⟩
  · rw [List.nodup_append]
    exact ⟨m.nd, by simp, fun a ha b hb => by simp at hb; subst hb; exact fun e => m.notin h (e ▸ ha)⟩
  · by_cases hi : i < μ.length
    · rw [List.getElem?_append_left hi] at e
      obtain ⟨a, e1, r1⟩ := m.cell i d e
      exact ⟨a, (Ext.snoc ρ p).get e1, r1.mono (TX.new h) (Ext.snoc ρ p) (upd_ne fun q => m.notin h (q ▸ List.mem_of_getElem? e1))⟩
    · have hi2 : i = μ.length := by
        have := (List.getElem?_eq_some_iff.mp e).1
        simp at this
        omega
      subst hi2
      rw [List.getElem?_append_right (Nat.le_refl _)] at e
      simp at e
      subst e
      exact ⟨p, by rw [← m.len, List.getElem?_append_right (Nat.le_refl _)]; simp, r⟩
/-- a cell is changed -/
theorem RepM.put (m : RepM K H ρ μ) {i : Nat} {a : Addr} {o : HO} {c : Cell} (e : ρ[i]? = some a) (r : RepC K (upd H a o) ρ c a) : RepM K (upd H a o) ρ (μ.set i c) := by
  obtain ⟨c0, e0, r0⟩ := m.at e
  have t : TX H (upd H a o) := r0.tx
  refine ⟨by simp [m.len], m.nd, fun j d h => ?_⟩
  by_cases hj : i = j
  · subst hj
    rw [List.getElem?_set_self (List.getElem?_eq_some_iff.mp e0).1] at h
    cases h
    exact ⟨a, e, r⟩
  · rw [List.getElem?_set_ne hj] at h
    obtain ⟨b, e1, r1⟩ := m.cell j d h
    refine ⟨b, e1, r1.mono t (Ext.refl _) (upd_ne fun q => hj ?_)⟩
    subst q
    obtain ⟨h1, h2⟩ := List.getElem?_eq_some_iff.mp e
    obtain ⟨h3, h4⟩ := List.getElem?_eq_some_iff.mp e1
    exact nodup_inj m.nd h1 h3 (h2.trans h4.symm)
end

/-! ### how the slots lie -/
structure RepS (K : PySem.W.Frag) (H : Hp) (ρ : List Addr) (s : Slots) (σ : L2.St) : Prop where
  len : s.length = σ.length
  get : ∀ (i : Nat) (u : U), s[i]? = some (some u) → ∃ v, σ[i]? = some (some v) ∧ RepV K H ρ u v
theorem RepS.mono {K : PySem.W.Frag} {H H' : Hp} {ρ ρ' : List Addr} {s : Slots} {σ : L2.St} (t : TX H H') (x : Ext ρ ρ') (h : RepS K H ρ s σ) : RepS K H' ρ' s σ :=
  ⟨h.len, fun i u e => by obtain ⟨v, q, r⟩ := h.get i u e; exact ⟨v, q, r.mono t x⟩⟩
theorem RepS.set {K : PySem.W.Frag} {H : Hp} {ρ : List Addr} {s : Slots} {σ : L2.St} {i : Nat} {u : U} {v : V} (h : RepS K H ρ s σ) (r : RepV K H ρ u v) : RepS K H ρ (s.set i (some u)) (σ.set i (some v)) := by
  refine ⟨by simp [h.len], fun j w e => ?_⟩
  by_cases hj : i = j
  · subst hj
    have hl : i < s.length := by
      have := (List.getElem?_eq_some_iff.mp e).1
      simpa using this
    rw [List.getElem?_set_self hl] at e
    cases e
    exact ⟨v, List.getElem?_set_self (h.len ▸ hl), r⟩
  · rw [List.getElem?_set_ne hj] at e
    obtain ⟨x, q, r'⟩ := h.get j w e
    exact ⟨x, by rw [List.getElem?_set_ne hj]; exact q, r'⟩

/-! ### a step of the heap -/
structure Stp (K : PySem.W.Frag) (ρ : List Addr) (H : Hp) (ρ' : List Addr) (H' : Hp) (μ' : Mem) : Prop where
  ext : Ext ρ ρ'
  tx : TX H H'
  mem : RepM K H' ρ' μ'
section
variable {K : PySem.W.Frag} {H H1 H2 : Hp} {ρ ρ1 ρ2 : List Addr} {μ μ1 μ2 : Mem}
theorem Stp.refl (m : RepM K H ρ μ) : Stp K ρ H ρ H μ := ⟨Ext.refl _, TX.refl _, m⟩
theorem Stp.trans (a : Stp K ρ H ρ1 H1 μ1) (b : Stp K ρ1 H1 ρ2 H2 μ2) : Stp K ρ H ρ2 H2 μ2 := ⟨a.ext.trans b.ext, a.tx.trans b.tx, b.mem⟩
theorem Stp.temp (m : RepM K H ρ μ) {p : Addr} {o : HO} (h : H p = none) : Stp K ρ H ρ (upd H p o) μ := ⟨Ext.refl _, TX.new h, m.temp h⟩
theorem Stp.new (m : RepM K H ρ μ) {p : Addr} {o : HO} {c : Cell} (h : H p = none) (r : RepC K (upd H p o) (ρ ++ [p]) c p) : Stp K ρ H (ρ ++ [p]) (upd H p o) (μ ++ [c]) := ⟨Ext.snoc ρ p, TX.new h, m.new h r⟩
theorem Stp.put (m : RepM K H ρ μ) {i : Nat} {a : Addr} {o : HO} {c : Cell} (e : ρ[i]? = some a) (r : RepC K (upd H a o) ρ c a) : Stp K ρ H ρ (upd H a o) (μ.set i c) := by
  obtain ⟨c0, e0, r0⟩ := m.at e
  exact ⟨Ext.refl _, r0.tx, m.put e r⟩
theorem Stp.v (t : Stp K ρ H ρ1 H1 μ1) {u : U} {v : V} (h : RepV K H ρ u v) : RepV K H1 ρ1 u v := h.mono t.tx t.ext
theorem Stp.vs (t : Stp K ρ H ρ1 H1 μ1) {u : List U} {v : List V} (h : RepVs K H ρ u v) : RepVs K H1 ρ1 u v := h.mono t.tx t.ext
theorem Stp.s (t : Stp K ρ H ρ1 H1 μ1) {u : Slots} {v : L2.St} (h : RepS K H ρ u v) : RepS K H1 ρ1 u v := h.mono t.tx t.ext
end

/-! ### what is wanted behind -/
abbrev RelT (α β : Type) := PySem.W.Frag → Hp → List Addr → α → β → Prop
def relV : RelT U V := RepV
def relVs : RelT (List U) (List V) := RepVs
def relB : RelT Bool Bool := fun _ _ _ a b => a = b
def relO : RelT (Option Int) (Option Int) := fun _ _ _ a b => a = b
def Post {α β : Type} (X : Cx) (W : WX) (σ : L2.St) (rel : RelT α β) (ρ : List Addr) (H : Hp) (r : Res α) (Q : β → Hp → Prop) : Prop := match r with
  | .ok u μ' => ∀ v H' ρ', Stp X.K ρ H ρ' H' μ' → rel X.K H' ρ' u v → Q v H'
  | .ex c μ' => ∀ cls H' ρ', Stp X.K ρ H ρ' H' μ' → X.mg c = some cls → W cls none σ H'
  | .bad => False
theorem Post.bind {α β γ δ : Type} {X : Cx} {W : WX} {σ : L2.St} {rel1 : RelT α β} {rel2 : RelT γ δ} {ρ : List Addr} {H : Hp} {r : Res α} {k : α → Mem → Res γ} {Q : δ → Hp → Prop} {Q1 : β → Hp → Prop}
    (h : Post X W σ rel2 ρ H (r.bind k) Q) (hk : ∀ a μ1 x H1 ρ1, Stp X.K ρ H ρ1 H1 μ1 → rel1 X.K H1 ρ1 a x → Post X W σ rel2 ρ1 H1 (k a μ1) Q → Q1 x H1) : Post X W σ rel1 ρ H r Q1 := by
  cases r with
  | ok a m =>
    intro v H' ρ' t q
    refine hk a m v H' ρ' t q ?_
    have h' : Post X W σ rel2 ρ H (k a m) Q := h
    generalize k a m = z at h'
    cases z with
    | ok b m2 => exact fun v2 H2 ρ2 t2 q2 => h' v2 H2 ρ2 (t.trans t2) q2
    | ex c m2 => exact fun cls H2 ρ2 t2 e => h' cls H2 ρ2 (t.trans t2) e
    | bad => exact h'
  | ex c m => exact h
  | bad => exact h
theorem Post.ok {α β : Type} {X : Cx} {W : WX} {σ : L2.St} {rel : RelT α β} {ρ ρ' : List Addr} {H H' : Hp} {u : α} {v : β} {μ' : Mem} {Q : β → Hp → Prop} (h : Post X W σ rel ρ H (.ok u μ') Q) (t : Stp X.K ρ H ρ' H' μ') (r : rel X.K H' ρ' u v) : Q v H' := h v H' ρ' t r

/-! ### an expression, a test, arguments -/
def WE (X : Cx) (e : Expr) : TE := fun σ H Q => ∃ t, PE X e t ∧ t σ H Q
theorem pe_w {X : Cx} {e : Expr} : PE X e (WE X e) := ⟨fun pins s σ H Q I ⟨_, h, q⟩ => h.run pins s σ H Q I q⟩
def WT (X : Cx) (e : Expr) : TT := fun σ H Q => ∃ t, PT X e t ∧ t σ H Q
theorem pt_w {X : Cx} {e : Expr} : PT X e (WT X e) := ⟨fun pins s σ H Q I ⟨_, h, q⟩ => h.run pins s σ H Q I q⟩
def WA (X : Cx) (es : List Expr) : TA := fun σ H Q => ∃ t, PA X es t ∧ t σ H Q
theorem pa_w {X : Cx} {es : List Expr} : PA X es (WA X es) := ⟨fun pos pins s σ H Q I ⟨_, h, q⟩ => h.run pos pins s σ H Q I q⟩
def OpW (X : Cx) (f : Value → Value → Sem Value) : R2 := fun x y H Q => ∃ r, OpR X f r ∧ r x y H Q
theorem op_w {X : Cx} {f : Value → Value → Sem Value} : OpR X f (OpW X f) := fun pins s σ H x y v u Q I rx ry ⟨_, h, q⟩ => h pins s σ H x y v u Q I rx ry q
def IxW (X : Cx) : R2 := fun x y H Q => ∃ r, IxR X r ∧ r x y H Q
theorem ix_w {X : Cx} : IxR X (IxW X) := fun value slice pins s σ H x y v u Q I rx ry ⟨_, h, q⟩ hs => h value slice pins s σ H x y v u Q I rx ry q hs

def CE (X : Cx) (W : WX) (e : Expr) (m : FE) : Prop := ∀ ρ μ s σ H Q, RepS X.K H ρ s σ → RepM X.K H ρ μ → Post X W σ relV ρ H (m s μ) Q → WE X e σ H Q
def CT (X : Cx) (W : WX) (e : Expr) (m : FT) : Prop := ∀ ρ μ s σ H Q, RepS X.K H ρ s σ → RepM X.K H ρ μ → Post X W σ relB ρ H (m s μ) Q → WT X e σ H Q
def CA (X : Cx) (W : WX) (es : List Expr) (m : FA) : Prop := ∀ ρ μ s σ H Q, RepS X.K H ρ s σ → RepM X.K H ρ μ → Post X W σ relVs ρ H (m s μ) Q → WA X es σ H Q

/-- what holds of a context: nothing is handled, k calls have room, W takes what is raised -/
structure Good (X : Cx) (W : WX) (k : Nat) : Prop where
  calm : X.calm = true
  room : Room k X.A
  tk : Takes X W
  po : PassesOwn (model X.prog X.w) X.A X.env X.xe

section
variable {X : Cx} {W : WX} {k : Nat}
/-! names and constants -/
def fVar (i : Nat) : FE := fun s μ => match s[i]? with
  | some (some u) => .ok u μ
  | _ => .bad
theorem ce_var (i : Nat) {x : Str} {pos : Pos} (hN : X.N[i]? = some x := by rfl) (hv : Vis X.env.scope x := by first | exact Or.inl rfl | exact Or.inr (Or.inl rfl) | exact Or.inr (Or.inr rfl)) (hd : (x == ("__debug__" : Str)) = false := by decide)
    (hcd : (x == ("__classdict__" : Str)) = false := by decide) : CE X W (.Name x pos) (fVar i) := by
  intro ρ μ s σ H Q hs hm h
  refine ⟨tVar i, pe_var hN hv hd hcd, ?_⟩
  unfold fVar at h
  cases e : s[i]? with
  | none => rw [e] at h; exact h.elim
  | some o =>
    cases o with
    | none => rw [e] at h; exact h.elim
    | some u =>
      rw [e] at h
      obtain ⟨v, q, r⟩ := hs.get i u e
      exact ⟨v, q, h.ok (Stp.refl hm) r⟩
def fC (u : U) : FE := fun _ μ => .ok u μ
theorem ce_int {i : Int} {j : Nat} {pos : Pos} : CE X W (.Constant (.int i) j pos) (fC (.int i)) := fun ρ μ s σ H Q hs hm h => ⟨_, pe_int, h.ok (Stp.refl hm) .int⟩
theorem ce_bl {b : Bool} {j : Nat} {pos : Pos} : CE X W (.Constant (.bool b) j pos) (fC (.bl b)) := fun ρ μ s σ H Q hs hm h => ⟨_, pe_bl, h.ok (Stp.refl hm) .bl⟩
theorem ce_non {j : Nat} {pos : Pos} : CE X W (.Constant .none j pos) (fC .non) := fun ρ μ s σ H Q hs hm h => ⟨_, pe_non, h.ok (Stp.refl hm) .non⟩
theorem ce_str {x : Str} {j : Nat} {pos : Pos} (hx : PyData.strOk x = true := by decide +kernel) : CE X W (.Constant (.str x) j pos) (fC (.str x)) := fun ρ μ s σ H Q hs hm h => ⟨_, pe_str, h.ok (Stp.refl hm) (.str hx)⟩
/-- a constant of the module -/
theorem ce_glob {x : Str} {u : U} {v : V} {z : Value} {pos : Pos} (hg : Gl X x) (hm : X.mg x = some z) (r : RelV v z) (q : ∀ H ρ, RepV X.K H ρ u v) (hd : (x == ("__debug__" : Str)) = false := by decide) : CE X W (.Name x pos) (fC u) :=
  fun ρ μ s σ H Q hs hm' h => ⟨_, pe_glob hg hm r hd, h.ok (Stp.refl hm') (q H ρ)⟩

/-! two-place operations -/
def fOp (f : U → U → Mem → Res U) (a b : FE) : FE := fun s μ => (a s μ).bind fun u μ1 => (b s μ1).bind fun w μ2 => f u w μ2
def OpS (X : Cx) (W : WX) (g : Value → Value → Sem Value) (f : U → U → Mem → Res U) : Prop := ∀ ρ μ σ H u w x y Q, RepM X.K H ρ μ → RepV X.K H ρ u x → RepV X.K H ρ w y → Post X W σ relV ρ H (f u w μ) Q → OpW X g x y H Q
theorem ce_op {op : Operator} {a b : Expr} {f : U → U → Mem → Res U} {ma mb : FE} {pos : Pos} (ho : OpS X W (binaryOp op) f) (ha : CE X W a ma) (hb : CE X W b mb) : CE X W (.BinOp a op b pos) (fOp f ma mb) := by
  intro ρ μ s σ H Q hs hm h
  refine ⟨_, pe_op op_w pe_w pe_w, ?_⟩
  refine ha ρ μ s σ H _ hs hm (h.bind fun u μ1 x H1 ρ1 t1 r1 h1 => ?_)
  refine hb ρ1 μ1 s σ H1 _ (t1.s hs) t1.mem (h1.bind fun w μ2 y H2 ρ2 t2 r2 h2 => ?_)
  exact ho ρ2 μ2 σ H2 u w x y Q t2.mem (t2.v r1) r2 h2
theorem ce_cmp {op : CmpOp} {a b : Expr} {f : U → U → Mem → Res U} {ma mb : FE} {pos : Pos} (ho : OpS X W (compareOp op) f) (ha : CE X W a ma) (hb : CE X W b mb) (hm0 : behindInMarks op b = false) : CE X W (.Compare a [op] [b] pos) (fOp f ma mb) := by
  intro ρ μ s σ H Q hs hm h
  refine ⟨_, pe_cmpR op_w pe_w pe_w hm0, ?_⟩
  refine ha ρ μ s σ H _ hs hm (h.bind fun u μ1 x H1 ρ1 t1 r1 h1 => ?_)
  refine hb ρ1 μ1 s σ H1 _ (t1.s hs) t1.mem (h1.bind fun w μ2 y H2 ρ2 t2 r2 h2 => ?_)
  exact ho ρ2 μ2 σ H2 u w x y Q t2.mem (t2.v r1) r2 h2
end
end Dg
/-! Dg2: operators, comparisons, tests, displays, calls of built-ins by value. -/
namespace Dg
open PySem PySem.Spec PyProof.Rows L2

def lim : Nat := 16777216
theorem lim_le {n : Nat} (h : n ≤ lim) : n ≤ sizeLine := h
theorem lim_lt {n : Nat} (h : n < lim) : n < sizeLine := h

/-! ### data of a value (for ==) -/
mutual
def toD (g : Nat → Option PyData) : U → Option PyData
  | .non => some .none
  | .bl b => some (.bool b)
  | .int i => some (.int i)
  | .str s => some (.str s)
  | .tup us => (toDs g us).map .tuple
  | .ref i => g i
  | .frl us => (toDs g us).map .list
def toDs (g : Nat → Option PyData) : List U → Option (List PyData)
  | [] => some []
  | u :: us => match toD g u, toDs g us with
    | some d, some ds => some (d :: ds)
    | _, _ => none
end
def refD (μ : Mem) : Nat → Nat → Option PyData
  | 0, _ => none
  | n + 1, i => match μ[i]? with
    | some (.lst us) => (toDs (refD μ n) us).map .list
    | _ => none
def datU (μ : Mem) (u : U) : Option PyData := toD (refD μ 6) u

def DOk (K : PySem.W.Frag) (H : Hp) (ρ : List Addr) (g : Nat → Option PyData) : Prop := ∀ i a d, ρ[i]? = some a → g i = some d → Dp K H (.ref a) d ∧ d.canLay0 = true
section
variable {K : PySem.W.Frag} {H : Hp} {ρ : List Addr} {μ : Mem} {g : Nat → Option PyData}
mutual
theorem toD_ok (hg : DOk K H ρ g) : ∀ (u : U) (v : V) (d : PyData), RepV K H ρ u v → toD g u = some d → Dp K H v d ∧ d.canLay0 = true
  | .non, _, _, h, e => by
    cases h
    simp only [toD, Option.some.injEq] at e
    subst e
    exact ⟨.non, rfl⟩
  | .bl b, _, _, h, e => by
    cases h
    simp only [toD, Option.some.injEq] at e
    subst e
    exact ⟨.bl _, rfl⟩
  | .int i, _, _, h, e => by
    cases h
    simp only [toD, Option.some.injEq] at e
    subst e
    exact ⟨.int _, rfl⟩
  | .str s, _, _, h, e => by
    cases h with
    | str hs =>
      simp only [toD, Option.some.injEq] at e
      subst e
      exact ⟨.str _, by simpa [PyData.canLay0] using hs⟩
  | .tup us, _, _, h, e => by
    cases h with
    | tup hs hr =>
      simp only [toD, Option.map_eq_some_iff] at e
      obtain ⟨ds, e1, rfl⟩ := e
      obtain ⟨h1, h2⟩ := toDs_ok hg us _ ds hr e1
      exact ⟨.tup hs h1, by simpa [PyData.canLay0] using h2⟩
  | .ref i, _, _, h, e => by
    cases h with
    | ref hr =>
      simp only [toD] at e
      exact hg i _ _ hr e
  | .frl us, _, _, h, e => by
    cases h with
    | frl hs hr =>
      simp only [toD, Option.map_eq_some_iff] at e
      obtain ⟨ds, e1, rfl⟩ := e
      obtain ⟨h1, h2⟩ := toDs_ok hg us _ ds hr e1
      exact ⟨.lst hs.sq h1, by simpa [PyData.canLay0] using h2⟩
theorem toDs_ok (hg : DOk K H ρ g) : ∀ (us : List U) (vs : List V) (ds : List PyData), RepVs K H ρ us vs → toDs g us = some ds → DpAll K H vs ds ∧ PyData.canLayAll0 ds = true
  | [], _, _, h, e => by
    cases h
    simp only [toDs, Option.some.injEq] at e
    subst e
    exact ⟨.nil, rfl⟩
  | u :: us, _, _, h, e => by
    cases h with
    | cons h1 h2 =>
      simp only [toDs] at e
      cases e1 : toD g u with
      | none => rw [e1] at e; cases e
      | some d =>
        cases e2 : toDs g us with
        | none => rw [e1, e2] at e; cases e
        | some ds =>
          rw [e1, e2] at e
          cases e
          obtain ⟨a1, a2⟩ := toD_ok hg u _ d h1 e1
          obtain ⟨b1, b2⟩ := toDs_ok hg us _ ds h2 e2
          exact ⟨.cons a1 b1, by simp [PyData.canLayAll0, a2, b2]⟩
end
theorem refD_ok (m : RepM K H ρ μ) : ∀ n, DOk K H ρ (refD μ n)
  | 0, _, _, _, _, e => by simp [refD] at e
  | n + 1, i, a, d, hi, e => by
    obtain ⟨c, hc, r⟩ := m.at hi
    simp only [refD, hc] at e
    cases c with
    | lst us =>
      obtain ⟨vs, q, rr⟩ := r
      simp only [Option.map_eq_some_iff] at e
      obtain ⟨ds, e1, rfl⟩ := e
      obtain ⟨h1, h2⟩ := toDs_ok (refD_ok m n) us _ ds rr e1
      exact ⟨.lst (.inl (.inl q)) h1, by simpa [PyData.canLay0] using h2⟩
    | dct us => cases e
theorem datU_ok (m : RepM K H ρ μ) {u : U} {v : V} {d : PyData} (r : RepV K H ρ u v) (e : datU μ u = some d) : Dp K H v d ∧ d.canLay0 = true := toD_ok (refD_ok m 6) u v d r e
end
def eqLim : Nat := 800
def eqU (u w : U) (μ : Mem) : Option Bool := match datU μ u, datU μ w with
  | some d, some e => if min d.depth e.depth ≤ eqLim then some (PyData.eqv d e) else none
  | _, _ => none
def resB (o : Option Bool) (μ : Mem) : Res U := match o with
  | some b => .ok (.bl b) μ
  | none => .bad
def uEq (u w : U) (μ : Mem) : Res U := resB (eqU u w μ) μ
def uNe (u w : U) (μ : Mem) : Res U := resB ((eqU u w μ).map not) μ

section
variable {X : Cx} {W : WX} {k : Nat}
def rEqL (K : PySem.W.Frag) : R2 := fun x y H Q => ∃ d e, Dp K H x d ∧ Dp K H y e ∧ d.canLay0 = true ∧ e.canLay0 = true ∧ min d.depth e.depth ≤ eqLim ∧ Q (.bl (PyData.eqv d e)) H
def rNeL (K : PySem.W.Frag) : R2 := fun x y H Q => ∃ d e, Dp K H x d ∧ Dp K H y e ∧ d.canLay0 = true ∧ e.canLay0 = true ∧ min d.depth e.depth ≤ eqLim ∧ Q (.bl (!PyData.eqv d e)) H
theorem op_eqL (hu : X.A.units + 800 < cLine) : OpR X (compareOp .Eq) (rEqL X.K) := by
  intro pins s σ H x y v u Q I rx ry h
  obtain ⟨d, e, hd, he, sd, se, hl, q⟩ := h
  obtain ⟨as, r1⟩ := Dp.reads I d x v hd rx
  obtain ⟨bs, r2⟩ := Dp.reads I e y u he ry
  exact SeqAt.compareEq_reads r1 r2 sd se (Nat.lt_of_le_of_lt (Nat.add_le_add_left hl _) hu) ⟨.bl _, H, I, rfl, q⟩
theorem op_neL (hu : X.A.units + 800 < cLine) : OpR X (compareOp .NotEq) (rNeL X.K) := by
  intro pins s σ H x y v u Q I rx ry h
  obtain ⟨d, e, hd, he, sd, se, hl, q⟩ := h
  obtain ⟨as, r1⟩ := Dp.reads I d x v hd rx
  obtain ⟨bs, r2⟩ := Dp.reads I e y u he ry
  exact SeqAt.compareNe_reads r1 r2 sd se (Nat.lt_of_le_of_lt (Nat.add_le_add_left hl _) hu) ⟨.bl _, H, I, rfl, q⟩
/-- levels are counted from 40 on -/
theorem Good.un (G : Good X W (k + 40)) : X.A.units + 800 < cLine := by
  have := G.room.un
  omega
theorem Good.hu (G : Good X W (k + 40)) : X.A.units + 1 < cLine := by
  have := G.room.un
  omega
theorem os_eq (G : Good X W (k + 40)) : OpS X W (compareOp .Eq) uEq := by
  intro ρ μ σ H u w x y Q hm ru rw' h
  unfold uEq eqU at h
  cases e1 : datU μ u with
  | none => rw [e1] at h; exact h.elim
  | some d =>
    cases e2 : datU μ w with
    | none => rw [e1, e2] at h; exact h.elim
    | some e =>
      rw [e1, e2] at h
      obtain ⟨a1, a2⟩ := datU_ok hm ru e1
      obtain ⟨b1, b2⟩ := datU_ok hm rw' e2
      by_cases hl : min d.depth e.depth ≤ eqLim
      · simp only [hl, if_true, resB] at h
        exact ⟨_, op_eqL G.un, d, e, a1, b1, a2, b2, hl, h.ok (Stp.refl hm) .bl⟩
      · simp only [hl, if_false, resB] at h
        exact h.elim
theorem os_ne (G : Good X W (k + 40)) : OpS X W (compareOp .NotEq) uNe := by
  intro ρ μ σ H u w x y Q hm ru rw' h
  unfold uNe eqU at h
  cases e1 : datU μ u with
  | none => rw [e1] at h; exact h.elim
  | some d =>
    cases e2 : datU μ w with
    | none => rw [e1, e2] at h; exact h.elim
    | some e =>
      rw [e1, e2] at h
      obtain ⟨a1, a2⟩ := datU_ok hm ru e1
      obtain ⟨b1, b2⟩ := datU_ok hm rw' e2
      by_cases hl : min d.depth e.depth ≤ eqLim
      · simp only [hl, if_true, Option.map_some, resB] at h
        exact ⟨_, op_neL G.un, d, e, a1, b1, a2, b2, hl, h.ok (Stp.refl hm) .bl⟩
      · simp only [hl, if_false, Option.map_none, resB] at h
        exact h.elim

/-! ### arithmetic -/
def big64 (i : Int) : Bool := decide (-(2 ^ 64) < i ∧ i < 2 ^ 64)
def uAdd (u w : U) (μ : Mem) : Res U := match u, w with
  | .int i, .int j => .ok (.int (i + j)) μ
  | .str a, .str b => if a.length + b.length ≤ lim then .ok (.str (a ++ b)) μ else .bad
  | .ref a, .ref b => match μ[a]?, μ[b]? with
    | some (.lst xs), some (.lst ys) => if xs.length + ys.length ≤ lim then .ok (.ref μ.length) (μ ++ [.lst (xs ++ ys)]) else .bad
    | _, _ => .bad
  | .tup (x :: xs), .tup ys => if (x :: xs).length + ys.length ≤ lim then .ok (.tup (x :: xs ++ ys)) μ else .bad
  | _, _ => .bad
theorem strOk_append {a b : Str} (ha : PyData.strOk a = true) (hb : PyData.strOk b = true) : PyData.strOk (a ++ b) = true := by
  show ((a.cps ++ b.cps).all _) = true
  rw [Array.all_append]
  exact Bool.and_eq_true_iff.mpr ⟨ha, hb⟩
theorem lst_of {K : PySem.W.Frag} {H : Hp} {ρ : List Addr} {μ : Mem} (hm : RepM K H ρ μ) {i : Nat} {a : Addr} {us : List U} (e : ρ[i]? = some a) (h : μ[i]? = some (.lst us)) : ∃ vs, H a = some (.lst vs) ∧ RepVs K H ρ us vs := hm.get e h
theorem newL {K : PySem.W.Frag} {H : Hp} {ρ : List Addr} {μ : Mem} (hm : RepM K H ρ μ) {p : Addr} {us : List U} {vs : List V} (np : H p = none) (r : RepVs K H ρ us vs) : Stp K ρ H (ρ ++ [p]) (upd H p (.lst vs)) (μ ++ [.lst us]) :=
  Stp.new hm np ⟨vs, upd_same, r.mono (TX.new np) (Ext.snoc ρ p)⟩
theorem refN {K : PySem.W.Frag} {H : Hp} {ρ : List Addr} {μ : Mem} (hm : RepM K H ρ μ) {p : Addr} {H' : Hp} : RepV K H' (ρ ++ [p]) (.ref μ.length) (.ref p) := .ref (by rw [← hm.len, List.getElem?_append_right (Nat.le_refl _)]; simp)
theorem newT {K : PySem.W.Frag} {H : Hp} {ρ : List Addr} {p : Addr} {us : List U} {vs : List V} (np : H p = none) (r : RepVs K H ρ us vs) : RepV K (upd H p (.tup vs)) ρ (.tup us) (.ref p) :=
  .tup (.inl (.inl upd_same)) (r.mono (TX.new np) (Ext.refl _))
theorem os_add : OpS X W (binaryOp .Add) uAdd := by
  intro ρ μ σ H u w x y Q hm ru rw' h
  unfold uAdd at h
  split at h
  · cases ru; cases rw'
    exact ⟨_, op_add, _, _, rfl, rfl, h.ok (Stp.refl hm) .int⟩
  · cases ru with
    | str sa =>
      cases rw' with
      | str sb =>
        split at h
        · exact ⟨_, op_add_str, _, _, rfl, rfl, lim_le (by assumption), h.ok (Stp.refl hm) (.str (strOk_append sa sb))⟩
        · exact h.elim
  · split at h
    · rename_i a b _ _ xs ys e1 e2
      cases ru with
      | ref ra =>
        cases rw' with
        | ref rb =>
          split at h
          · obtain ⟨vs, q1, r1⟩ := lst_of hm ra e1
            obtain ⟨ws, q2, r2⟩ := lst_of hm rb e2
            have hl : vs.length + ws.length ≤ sizeLine := by
              rw [← r1.length, ← r2.length]
              exact lim_le (by assumption)
            exact ⟨_, op_cat, _, _, vs, ws, rfl, rfl, q1, q2, hl, fun p np => h.ok (newL hm np (r1.append r2)) (refN hm)⟩
          · exact h.elim
    · exact h.elim
  · cases ru with
    | tup s1 r1 =>
      cases rw' with
      | tup s2 r2 =>
        split at h
        · rename_i hz
          refine ⟨_, op_catT, _, _, _, _, rfl, rfl, s1, s2, ?_, ?_, fun e => ?_, fun e p np => h.ok (Stp.temp hm np) (newT np (r1.append r2))⟩
          · intro e; subst e; cases r1
          · rw [← r1.length, ← r2.length]; exact lim_le hz
          · subst e
            cases r2
            rw [List.append_nil] at h
            exact h.ok (Stp.refl hm) (.tup s1 r1)
        · exact h.elim
  · exact h.elim
def uSub (u w : U) (μ : Mem) : Res U := match u, w with
  | .int i, .int j => .ok (.int (i - j)) μ
  | _, _ => .bad
theorem os_sub : OpS X W (binaryOp .Sub) uSub := by
  intro ρ μ σ H u w x y Q hm ru rw' h
  unfold uSub at h
  split at h
  · cases ru; cases rw'
    exact ⟨_, op_sub, _, _, rfl, rfl, h.ok (Stp.refl hm) .int⟩
  · exact h.elim
def repU (n : Nat) (xs : List U) : List U := (List.replicate n xs).flatten
theorem RepVs.rep {K : PySem.W.Frag} {H : Hp} {ρ : List Addr} {us : List U} {vs : List V} (r : RepVs K H ρ us vs) : ∀ n : Nat, RepVs K H ρ (repU n us) (List.replicate n vs).flatten
  | 0 => .nil
  | n + 1 => by
    have ih := RepVs.rep r n
    unfold repU at *
    rw [List.replicate_succ, List.replicate_succ, List.flatten_cons, List.flatten_cons]
    exact r.append ih
def uMul (u w : U) (μ : Mem) : Res U := match u, w with
  | .int i, .int j => if big64 i || big64 j then .ok (.int (i * j)) μ else .bad
  | .ref a, .int n => match μ[a]? with
    | some (.lst xs) => if -(2 ^ 63) ≤ n ∧ n < 2 ^ 63 ∧ xs.length * n.toNat ≤ lim then .ok (.ref μ.length) (μ ++ [.lst (repU n.toNat xs)]) else .bad
    | _ => .bad
  | _, _ => .bad
theorem os_mul : OpS X W (binaryOp .Mult) uMul := by
  intro ρ μ σ H u w x y Q hm ru rw' h
  unfold uMul at h
  split at h
  · cases ru; cases rw'
    split at h
    · rename_i hb
      refine ⟨_, op_mul, _, _, rfl, rfl, ?_, h.ok (Stp.refl hm) .int⟩
      rcases Bool.or_eq_true_iff.mp hb with e | e
      · exact .inl (of_decide_eq_true e)
      · exact .inr (of_decide_eq_true e)
    · exact h.elim
  · split at h
    · rename_i xs e1
      cases ru with
      | ref ra =>
        cases rw'
        split at h
        · rename_i hz
          obtain ⟨vs, q1, r1⟩ := lst_of hm ra e1
          exact ⟨_, op_rep, _, _, vs, rfl, rfl, q1, hz.1, hz.2.1, by rw [← r1.length]; exact lim_le hz.2.2, fun p np => h.ok (newL hm np (r1.rep _)) (refN hm)⟩
        · exact h.elim
    · exact h.elim
  · exact h.elim
def uFdiv (u w : U) (μ : Mem) : Res U := match u, w with
  | .int i, .int j => if j ≠ 0 ∧ j.natAbs < 1073741824 then .ok (.int (i.fdiv j)) μ else .bad
  | _, _ => .bad
theorem os_fdiv : OpS X W (binaryOp .FloorDiv) uFdiv := by
  intro ρ μ σ H u w x y Q hm ru rw' h
  unfold uFdiv at h
  split at h
  · cases ru; cases rw'
    split at h
    · exact ⟨_, op_fdivN, _, _, rfl, rfl, by assumption, h.ok (Stp.refl hm) .int⟩
    · exact h.elim
  · exact h.elim
def uMod (u w : U) (μ : Mem) : Res U := match u, w with
  | .int i, .int j => if j ≠ 0 then .ok (.int (i.fmod j)) μ else .bad
  | _, _ => .bad
theorem os_mod : OpS X W (binaryOp .Mod) uMod := by
  intro ρ μ σ H u w x y Q hm ru rw' h
  unfold uMod at h
  split at h
  · cases ru; cases rw'
    split at h
    · exact ⟨_, op_modN, _, _, rfl, rfl, by assumption, h.ok (Stp.refl hm) .int⟩
    · exact h.elim
  · exact h.elim
def uPow (u w : U) (μ : Mem) : Res U := match u, w with
  | .int i, .int j => if 0 ≤ j ∧ j ≤ 1000000 ∧ i.natAbs < 2 ^ 64 then .ok (.int (i ^ j.toNat)) μ else .bad
  | _, _ => .bad
theorem os_pow : OpS X W (binaryOp .Pow) uPow := by
  intro ρ μ σ H u w x y Q hm ru rw' h
  unfold uPow at h
  split at h
  · cases ru; cases rw'
    split at h
    · exact ⟨_, op_pow, _, _, rfl, rfl, by assumption, h.ok (Stp.refl hm) .int⟩
    · exact h.elim
  · exact h.elim
def fNeg (a : FE) : FE := fun s μ => (a s μ).bind fun u μ1 => match u with
  | .int i => .ok (.int (-i)) μ1
  | _ => .bad
theorem ce_neg {a : Expr} {ma : FE} {pos : Pos} (ha : CE X W a ma) : CE X W (.UnaryOp .USub a pos) (fNeg ma) := by
  intro ρ μ s σ H Q hs hm h
  refine ⟨_, pe_un un_neg pe_w, ?_⟩
  refine ha ρ μ s σ H _ hs hm (h.bind fun u μ1 x H1 ρ1 t1 r1 h1 => ?_)
  split at h1
  · cases r1
    exact ⟨_, rfl, h1.ok (Stp.refl t1.mem) .int⟩
  · exact h1.elim

/-! ### comparisons -/
def uCmp (p : Int → Int → Bool) (q : Str → Str → Option Bool) (u w : U) (μ : Mem) : Res U := match u, w with
  | .int i, .int j => .ok (.bl (p i j)) μ
  | .str a, .str b => resB (q a b) μ
  | _, _ => .bad
def strLt (a b : Str) : Bool := PySem.Spec.ltCps a.cps.toList b.cps.toList
def uLt : U → U → Mem → Res U := uCmp (fun i j => decide (i < j)) fun a b => some (strLt a b)
def uLe : U → U → Mem → Res U := uCmp (fun i j => decide (i ≤ j)) fun a b => some (!strLt b a)
def uGt : U → U → Mem → Res U := uCmp (fun i j => decide (j < i)) fun _ _ => none
def uGe : U → U → Mem → Res U := uCmp (fun i j => decide (j ≤ i)) fun _ _ => none
theorem os_cmp {op : CmpOp} {p : Int → Int → Bool} {q : Str → Str → Option Bool} (h1 : OpR X (compareOp op) (rI0 fun i j => .bl (p i j)))
    (h2 : ∀ a b c, q a b = some c → OpR X (compareOp op) (fun x y H Q => x = .str a ∧ y = .str b ∧ Q (.bl c) H)) : OpS X W (compareOp op) (uCmp p q) := by
  intro ρ μ σ H u w x y Q hm ru rw' h
  unfold uCmp at h
  split at h
  · cases ru; cases rw'
    exact ⟨_, h1, _, _, rfl, rfl, h.ok (Stp.refl hm) .bl⟩
  · rename_i a b
    cases ru; cases rw'
    cases e : q a b with
    | none => rw [e] at h; exact h.elim
    | some c =>
      rw [e] at h
      exact ⟨_, h2 a b c e, rfl, rfl, h.ok (Stp.refl hm) .bl⟩
  · exact h.elim
theorem os_lt : OpS X W (compareOp .Lt) uLt := os_cmp op_lt fun a b c e => by
  cases e
  intro pins s σ H x y v u Q I rx ry ⟨ex, ey, q⟩
  exact op_lt_str pins s σ H x y v u Q I rx ry ⟨a, b, ex, ey, by rw [← PyProof.Rows.ltCps_eq]; exact q⟩
theorem os_le : OpS X W (compareOp .LtE) uLe := os_cmp op_le fun a b c e => by
  cases e
  intro pins s σ H x y v u Q I rx ry ⟨ex, ey, q⟩
  exact op_le_str pins s σ H x y v u Q I rx ry ⟨a, b, ex, ey, by rw [← PyProof.Rows.ltCps_eq]; exact q⟩
theorem os_gt : OpS X W (compareOp .Gt) uGt := os_cmp op_gt fun a b c e => nomatch e
theorem os_ge : OpS X W (compareOp .GtE) uGe := os_cmp op_ge fun a b c e => nomatch e
def uIsN (u w : U) (μ : Mem) : Res U := match w, u with
  | .non, .non => .ok (.bl true) μ
  | .non, _ => .ok (.bl false) μ
  | _, _ => .bad
def uNotN (u w : U) (μ : Mem) : Res U := match w, u with
  | .non, .non => .ok (.bl false) μ
  | .non, _ => .ok (.bl true) μ
  | _, _ => .bad
theorem os_isN : OpS X W (compareOp .Is) uIsN := by
  intro ρ μ σ H u w x y Q hm ru rw' h
  unfold uIsN at h
  split at h
  · cases ru; cases rw'
    exact ⟨_, op_isN, rfl, h.ok (Stp.refl hm) .bl⟩
  · rename_i hn
    cases rw'
    have e : decide (x = V.non) = false := decide_eq_false (fun q => by subst q; cases ru; exact hn rfl)
    exact ⟨_, op_isN, rfl, by rw [e]; exact h.ok (Stp.refl hm) .bl⟩
  · exact h.elim
theorem os_notN : OpS X W (compareOp .IsNot) uNotN := by
  intro ρ μ σ H u w x y Q hm ru rw' h
  unfold uNotN at h
  split at h
  · cases ru; cases rw'
    exact ⟨_, op_notN, rfl, h.ok (Stp.refl hm) .bl⟩
  · rename_i hn
    cases rw'
    have e : decide (x = V.non) = false := decide_eq_false (fun q => by subst q; cases ru; exact hn rfl)
    exact ⟨_, op_notN, rfl, by rw [e]; exact h.ok (Stp.refl hm) .bl⟩
  · exact h.elim
/-- a < b < c -/
def fChain (f g : U → U → Mem → Res U) (a b c : FE) : FE := fun s μ => (a s μ).bind fun x μ1 => (b s μ1).bind fun y μ2 => (f x y μ2).bind fun z μ3 => match z with
  | .bl true => (c s μ3).bind fun w μ4 => g y w μ4
  | .bl false => .ok (.bl false) μ3
  | _ => .bad
theorem ce_chain {op op' : CmpOp} {a b c : Expr} {f g : U → U → Mem → Res U} {ma mb mc : FE} {pos : Pos} (ho : OpS X W (compareOp op) f) (ho' : OpS X W (compareOp op') g) (ha : CE X W a ma) (hb : CE X W b mb) (hc : CE X W c mc)
    (hch : ∀ {r r' : R2} {ta tb tc : TE}, OpR X (compareOp op) r → OpR X (compareOp op') r' → PE X a ta → PE X b tb → PE X c tc → PE X (.Compare a [op, op'] [b, c] pos) (tChain r r' ta tb tc)) : CE X W (.Compare a [op, op'] [b, c] pos) (fChain f g ma mb mc) := by
  intro ρ μ s σ H Q hs hm h
  refine ⟨_, hch op_w op_w pe_w pe_w pe_w, ?_⟩
  refine ha ρ μ s σ H _ hs hm (h.bind fun u μ1 x H1 ρ1 t1 r1 h1 => ?_)
  refine hb ρ1 μ1 s σ H1 _ (t1.s hs) t1.mem (h1.bind fun w μ2 y H2 ρ2 t2 r2 h2 => ?_)
  refine ho ρ2 μ2 σ H2 u w x y _ t2.mem (t2.v r1) r2 (h2.bind fun z μ3 v3 H3 ρ3 t3 r3 h3 => ?_)
  split at h3
  · cases r3
    refine ⟨true, rfl, ?_⟩
    refine iteT (hc ρ3 μ3 s σ H3 _ (t3.s (t2.s (t1.s hs))) t3.mem (h3.bind fun z' μ4 v4 H4 ρ4 t4 r4 h4 => ?_))
    exact ho' ρ4 μ4 σ H4 _ _ _ _ Q t4.mem (t4.v (t3.v r2)) r4 h4
  · cases r3
    exact ⟨false, rfl, iteF (h3.ok (Stp.refl t3.mem) .bl)⟩
  · exact h3.elim

/-! ### truth, tests -/
def truU (μ : Mem) : U → Option Bool
  | .non => some false
  | .bl b => some b
  | .int i => some (i != 0)
  | .str s => if s.length ≤ lim then some ((s.length : Int) != 0) else none
  | .tup us => some (!us.isEmpty)
  | .ref i => match μ[i]? with
    | some (.lst us) => some (!us.isEmpty)
    | some (.dct kvs) => some (!kvs.isEmpty)
    | none => none
  | .frl us => some (!us.isEmpty)
theorem RepVs.empty {K : PySem.W.Frag} {H : Hp} {ρ : List Addr} {us : List U} {vs : List V} (r : RepVs K H ρ us vs) : us.isEmpty = vs.isEmpty := by
  cases r <;> rfl
theorem map_empty {α β γ : Type} {f : α → γ} {g : β → γ} {xs : List α} {ys : List β} (h : xs.map f = ys.map g) : xs.isEmpty = ys.isEmpty := by
  cases xs <;> cases ys <;> simp_all
theorem truU_ok {K : PySem.W.Frag} {H : Hp} {ρ : List Addr} {μ : Mem} (hm : RepM K H ρ μ) {u : U} {v : V} {b : Bool} (r : RepV K H ρ u v) (e : truU μ u = some b) : TruV K v H b := by
  cases r with
  | non => cases e; rfl
  | bl => cases e; rfl
  | int => cases e; rfl
  | str hs =>
    simp only [truU] at e
    split at e
    · cases e; exact ⟨lim_le (by assumption), rfl⟩
    · cases e
  | tup hs hr =>
    cases e
    exact .inr (.inl ⟨_, hs, by rw [hr.empty]⟩)
  | ref hr =>
    obtain ⟨c, hc, rc⟩ := hm.at hr
    simp only [truU, hc] at e
    cases c with
    | lst us => obtain ⟨vs, q, r⟩ := rc; cases e; exact .inl ⟨vs, .inl (.inl q), by rw [r.empty]⟩
    | dct us => obtain ⟨vs, q, r, _⟩ := rc; cases e; exact .inr (.inr ⟨vs, q, by rw [map_empty r]⟩)
  | frl hs hr =>
    cases e
    exact .inl ⟨_, hs.sq, by rw [hr.empty]⟩
def tst (a : FE) : FT := fun s μ => (a s μ).bind fun u μ1 => match truU μ1 u with
  | some b => .ok b μ1
  | none => .bad
theorem ct_val {a : Expr} {ma : FE} (ha : CE X W a ma) (he : ∀ whole, isTrue a X.env whole = (do let v ← whole; standAt a.pos; holding [v] (truthy v)) := by intro _; rfl) : CT X W a (tst ma) := by
  intro ρ μ s σ H Q hs hm h
  refine ⟨_, pt_truth pe_w he, ?_⟩
  refine ha ρ μ s σ H _ hs hm (h.bind fun u μ1 x H1 ρ1 t1 r1 h1 => ?_)
  cases e : truU μ1 u with
  | none => rw [e] at h1; exact h1.elim
  | some b =>
    rw [e] at h1
    exact ⟨b, truU_ok t1.mem r1 e, h1.ok (Stp.refl t1.mem) rfl⟩
/-- a comparison as a test -/
def tstB (a : FE) : FT := fun s μ => (a s μ).bind fun u μ1 => match u with
  | .bl b => .ok b μ1
  | _ => .bad
theorem ct_cmp {op : CmpOp} {a b : Expr} {f : U → U → Mem → Res U} {ma mb : FE} {pos : Pos} (ho : OpS X W (compareOp op) f) (ha : CE X W a ma) (hb : CE X W b mb) (hm0 : behindInMarks op b = false) : CT X W (.Compare a [op] [b] pos) (tstB (fOp f ma mb)) := by
  intro ρ μ s σ H Q hs hm h
  refine ⟨_, pt_cmpR op_w pe_w pe_w hm0, ?_⟩
  have h' : Post X W σ relB ρ H ((ma s μ).bind fun u μ1 => (mb s μ1).bind fun w μ2 => (f u w μ2).bind fun z μ3 => match z with
    | .bl b => .ok b μ3
    | _ => .bad) Q := by
    have e : tstB (fOp f ma mb) s μ = ((ma s μ).bind fun u μ1 => (mb s μ1).bind fun w μ2 => (f u w μ2).bind fun z μ3 => match z with
      | .bl b => .ok b μ3
      | _ => .bad) := by
      unfold tstB fOp
      cases ma s μ with
      | ok u μ1 =>
        show Res.bind (Res.bind (mb s μ1) _) _ = Res.bind (mb s μ1) _
        cases mb s μ1 <;> rfl
      | ex c m => rfl
      | bad => rfl
    rw [← e]; exact h
  refine ha ρ μ s σ H _ hs hm (h'.bind fun u μ1 x H1 ρ1 t1 r1 h1 => ?_)
  refine hb ρ1 μ1 s σ H1 _ (t1.s hs) t1.mem (h1.bind fun w μ2 y H2 ρ2 t2 r2 h2 => ?_)
  refine ho ρ2 μ2 σ H2 u w x y _ t2.mem (t2.v r1) r2 (h2.bind fun z μ3 v H3 ρ3 t3 r3 h3 => ?_)
  split at h3
  · cases r3
    exact ⟨_, rfl, h3.ok (Stp.refl t3.mem) rfl⟩
  · exact h3.elim
theorem ct_chain {op op' : CmpOp} {a b c : Expr} {f g : U → U → Mem → Res U} {ma mb mc : FE} {pos : Pos} (ho : OpS X W (compareOp op) f) (ho' : OpS X W (compareOp op') g) (ha : CE X W a ma) (hb : CE X W b mb) (hc : CE X W c mc)
    (hch : ∀ {r r' : R2} {ta tb tc : TE}, OpR X (compareOp op) r → OpR X (compareOp op') r' → PE X a ta → PE X b tb → PE X c tc → PT X (.Compare a [op, op'] [b, c] pos) (tTest (L2.tChain r r' ta tb tc))) : CT X W (.Compare a [op, op'] [b, c] pos) (tstB (fChain f g ma mb mc)) := by
  intro ρ μ s σ H Q hs hm h
  refine ⟨_, hch op_w op_w pe_w pe_w pe_w, ?_⟩
  have h' : Post X W σ relB ρ H ((ma s μ).bind fun x μ1 => (mb s μ1).bind fun y μ2 => (f x y μ2).bind fun z μ3 => match z with
    | .bl true => (mc s μ3).bind fun w μ4 => (g y w μ4).bind fun z μ3 => match z with
      | .bl b => .ok b μ3
      | _ => .bad
    | .bl false => .ok false μ3
    | _ => .bad) Q := by
    have e : tstB (fChain f g ma mb mc) s μ = ((ma s μ).bind fun x μ1 => (mb s μ1).bind fun y μ2 => (f x y μ2).bind fun z μ3 => match z with
      | .bl true => (mc s μ3).bind fun w μ4 => (g y w μ4).bind fun z μ3 => match z with
        | .bl b => .ok b μ3
        | _ => .bad
      | .bl false => .ok false μ3
      | _ => .bad) := by
      unfold tstB fChain
      cases ma s μ with
      | ok u μ1 =>
        show Res.bind (Res.bind (mb s μ1) _) _ = Res.bind (mb s μ1) _
        cases mb s μ1 with
        | ok w μ2 =>
          show Res.bind (Res.bind (f u w μ2) _) _ = Res.bind (f u w μ2) _
          cases f u w μ2 with
          | ok z μ3 =>
            cases z with
            | bl b =>
              cases b with
              | true =>
                show Res.bind (Res.bind (mc s μ3) _) _ = Res.bind (mc s μ3) _
                cases mc s μ3 <;> rfl
              | false => rfl
            | _ => rfl
          | ex c m => rfl
          | bad => rfl
        | ex c m => rfl
        | bad => rfl
      | ex c m => rfl
      | bad => rfl
    rw [← e]; exact h
  refine ha ρ μ s σ H _ hs hm (h'.bind fun u μ1 x H1 ρ1 t1 r1 h1 => ?_)
  refine hb ρ1 μ1 s σ H1 _ (t1.s hs) t1.mem (h1.bind fun w μ2 y H2 ρ2 t2 r2 h2 => ?_)
  refine ho ρ2 μ2 σ H2 u w x y _ t2.mem (t2.v r1) r2 (h2.bind fun z μ3 v3 H3 ρ3 t3 r3 h3 => ?_)
  split at h3
  · cases r3
    refine ⟨true, rfl, ?_⟩
    refine iteT (hc ρ3 μ3 s σ H3 _ (t3.s (t2.s (t1.s hs))) t3.mem (h3.bind fun z' μ4 v4 H4 ρ4 t4 r4 h4 => ?_))
    refine ho' ρ4 μ4 σ H4 _ _ _ _ _ t4.mem (t4.v (t3.v r2)) r4 (h4.bind fun z μ5 v H5 ρ5 t5 r5 h5 => ?_)
    split at h5
    · cases r5
      exact ⟨_, rfl, h5.ok (Stp.refl t5.mem) rfl⟩
    · exact h5.elim
  · cases r3
    exact ⟨false, rfl, iteF ⟨false, rfl, h3.ok (Stp.refl t3.mem) rfl⟩⟩
  · exact h3.elim
def tNt (t : FT) : FT := fun s μ => (t s μ).bind fun b μ1 => .ok (!b) μ1
theorem ct_not {a : Expr} {ta : FT} {pos : Pos} (ha : CT X W a ta) : CT X W (.UnaryOp .Not a pos) (tNt ta) := by
  intro ρ μ s σ H Q hs hm h
  refine ⟨_, pt_not pt_w, ?_⟩
  refine ha ρ μ s σ H _ hs hm (h.bind fun b μ1 x H1 ρ1 t1 r1 h1 => ?_)
  cases r1
  exact h1.ok (Stp.refl t1.mem) rfl
def tAn (t u : FT) : FT := fun s μ => (t s μ).bind fun b μ1 => match b with
  | true => u s μ1
  | false => .ok false μ1
def tOr' (t u : FT) : FT := fun s μ => (t s μ).bind fun b μ1 => match b with
  | true => .ok true μ1
  | false => u s μ1
/-- chains of and, or -/
def WW (X : Cx) (e : Expr) : TT := fun σ H Q => ∃ t, PW X e t ∧ t σ H Q
theorem pw_w {X : Cx} {e : Expr} : PW X e (WW X e) := ⟨fun wh pins s σ H Q I ⟨_, h, q⟩ => h.run wh pins s σ H Q I q⟩
def CW (X : Cx) (W : WX) (e : Expr) (m : FT) : Prop := ∀ ρ μ s σ H Q, RepS X.K H ρ s σ → RepM X.K H ρ μ → Post X W σ relB ρ H (m s μ) Q → WW X e σ H Q
theorem CW.ct {e : Expr} {m : FT} (h : CW X W e m) : CT X W e m := fun ρ μ s σ H Q hs hm p => by
  obtain ⟨t, h1, h2⟩ := h ρ μ s σ H Q hs hm p
  exact ⟨t, h1.pt, h2⟩
theorem cw_and1 {a : Expr} {ta : FT} {pos : Pos} (ha : CT X W a ta) : CW X W (.BoolOp .And [a] pos) ta := fun ρ μ s σ H Q hs hm p => ⟨_, pw_and1 pt_w, ha ρ μ s σ H Q hs hm p⟩
theorem cw_or1 {a : Expr} {ta : FT} {pos : Pos} (ha : CT X W a ta) : CW X W (.BoolOp .Or [a] pos) ta := fun ρ μ s σ H Q hs hm p => ⟨_, pw_or1 pt_w, ha ρ μ s σ H Q hs hm p⟩
theorem cw_and {a b : Expr} {rest : List Expr} {ta tb : FT} {pos : Pos} (ha : CT X W a ta) (hb : CW X W (.BoolOp .And (b :: rest) pos) tb) : CW X W (.BoolOp .And (a :: b :: rest) pos) (tAn ta tb) := by
  intro ρ μ s σ H Q hs hm h
  refine ⟨_, pw_and pt_w pw_w, ?_⟩
  refine ha ρ μ s σ H _ hs hm (h.bind fun b μ1 x H1 ρ1 t1 r1 h1 => ?_)
  cases r1
  cases b with
  | true => exact iteT (hb ρ1 μ1 s σ H1 Q (t1.s hs) t1.mem h1)
  | false => exact iteF (h1.ok (Stp.refl t1.mem) rfl)
theorem cw_or {a b : Expr} {rest : List Expr} {ta tb : FT} {pos : Pos} (ha : CT X W a ta) (hb : CW X W (.BoolOp .Or (b :: rest) pos) tb) : CW X W (.BoolOp .Or (a :: b :: rest) pos) (tOr' ta tb) := by
  intro ρ μ s σ H Q hs hm h
  refine ⟨_, pw_or pt_w pw_w, ?_⟩
  refine ha ρ μ s σ H _ hs hm (h.bind fun b μ1 x H1 ρ1 t1 r1 h1 => ?_)
  cases r1
  cases b with
  | true => exact iteT (h1.ok (Stp.refl t1.mem) rfl)
  | false => exact iteF (hb ρ1 μ1 s σ H1 Q (t1.s hs) t1.mem h1)
/-- as values: all but the last are True or False -/
def fAnd (a b : FE) : FE := fun s μ => (a s μ).bind fun u μ1 => match u with
  | .bl true => b s μ1
  | .bl false => .ok (.bl false) μ1
  | _ => .bad
def fOr (a b : FE) : FE := fun s μ => (a s μ).bind fun u μ1 => match u with
  | .bl true => .ok (.bl true) μ1
  | .bl false => b s μ1
  | _ => .bad
theorem ce_one {op : BoolOp} {a : Expr} {ma : FE} {pos : Pos} (ha : CE X W a ma) : CE X W (.BoolOp op [a] pos) ma := fun ρ μ s σ H Q hs hm p => ⟨_, pe_one pe_w, ha ρ μ s σ H Q hs hm p⟩
theorem ce_and {a b : Expr} {rest : List Expr} {ma mb : FE} {pos : Pos} (ha : CE X W a ma) (hb : CE X W (.BoolOp .And (b :: rest) pos) mb) : CE X W (.BoolOp .And (a :: b :: rest) pos) (fAnd ma mb) := by
  intro ρ μ s σ H Q hs hm h
  refine ⟨_, pe_and pe_w pe_w, ?_⟩
  refine ha ρ μ s σ H _ hs hm (h.bind fun b μ1 x H1 ρ1 t1 r1 h1 => ?_)
  split at h1
  · cases r1
    exact ⟨_, rfl, iteT (hb ρ1 μ1 s σ H1 Q (t1.s hs) t1.mem h1)⟩
  · cases r1
    exact ⟨_, rfl, iteF (h1.ok (Stp.refl t1.mem) .bl)⟩
  · exact h1.elim
theorem ce_or {a b : Expr} {rest : List Expr} {ma mb : FE} {pos : Pos} (ha : CE X W a ma) (hb : CE X W (.BoolOp .Or (b :: rest) pos) mb) : CE X W (.BoolOp .Or (a :: b :: rest) pos) (fOr ma mb) := by
  intro ρ μ s σ H Q hs hm h
  refine ⟨_, pe_or pe_w pe_w, ?_⟩
  refine ha ρ μ s σ H _ hs hm (h.bind fun b μ1 x H1 ρ1 t1 r1 h1 => ?_)
  split at h1
  · cases r1
    exact ⟨_, rfl, iteT (h1.ok (Stp.refl t1.mem) .bl)⟩
  · cases r1
    exact ⟨_, rfl, iteF (hb ρ1 μ1 s σ H1 Q (t1.s hs) t1.mem h1)⟩
  · exact h1.elim
def fNot (a : FE) : FE := fun s μ => (a s μ).bind fun u μ1 => match u with
  | .bl b => .ok (.bl (!b)) μ1
  | _ => .bad
theorem ce_not {a : Expr} {ma : FE} {pos : Pos} (ha : CE X W a ma) : CE X W (.UnaryOp .Not a pos) (fNot ma) := by
  intro ρ μ s σ H Q hs hm h
  refine ⟨_, pe_not pe_w, ?_⟩
  refine ha ρ μ s σ H _ hs hm (h.bind fun b μ1 x H1 ρ1 t1 r1 h1 => ?_)
  split at h1
  · cases r1
    exact ⟨_, rfl, h1.ok (Stp.refl t1.mem) .bl⟩
  · exact h1.elim
def fIf (t : FT) (a b : FE) : FE := fun s μ => (t s μ).bind fun c μ1 => match c with
  | true => a s μ1
  | false => b s μ1
theorem ce_if {c a b : Expr} {tc : FT} {ma mb : FE} {pos : Pos} (hc : CT X W c tc) (ha : CE X W a ma) (hb : CE X W b mb) : CE X W (.IfExp c a b pos) (fIf tc ma mb) := by
  intro ρ μ s σ H Q hs hm h
  refine ⟨_, pe_ifExp pt_w pe_w pe_w, ?_⟩
  refine hc ρ μ s σ H _ hs hm (h.bind fun b μ1 x H1 ρ1 t1 r1 h1 => ?_)
  cases r1
  cases b with
  | true => exact iteT (ha ρ1 μ1 s σ H1 Q (t1.s hs) t1.mem h1)
  | false => exact iteF (hb ρ1 μ1 s σ H1 Q (t1.s hs) t1.mem h1)

/-! ### arguments, displays -/
def aNil : FA := fun _ μ => .ok [] μ
def aCons (a : FE) (r : FA) : FA := fun s μ => (a s μ).bind fun u μ1 => (r s μ1).bind fun us μ2 => .ok (u :: us) μ2
theorem ca_nil : CA X W [] aNil := fun ρ μ s σ H Q hs hm h => ⟨_, pa_nil, h.ok (Stp.refl hm) .nil⟩
theorem ca_cons {e : Expr} {es : List Expr} {me : FE} {mr : FA} (he : CE X W e me) (hr : CA X W es mr) (hse : starEach (e :: es) X.env = (false, eval e X.env) :: starEach es X.env := by rfl) : CA X W (e :: es) (aCons me mr) := by
  intro ρ μ s σ H Q hs hm h
  refine ⟨_, pa_cons pe_w pa_w hse, ?_⟩
  refine he ρ μ s σ H _ hs hm (h.bind fun u μ1 x H1 ρ1 t1 r1 h1 => ?_)
  refine hr ρ1 μ1 s σ H1 _ (t1.s hs) t1.mem (h1.bind fun us μ2 xs H2 ρ2 t2 r2 h2 => ?_)
  exact h2.ok (Stp.refl t2.mem) (.cons (t2.v r1) r2)
def fTup (a : FA) : FE := fun s μ => (a s μ).bind fun us μ1 => if us.length ≤ lim then .ok (.tup us) μ1 else .bad
def fLst (a : FA) : FE := fun s μ => (a s μ).bind fun us μ1 => if us.length ≤ lim then .ok (.ref μ1.length) (μ1 ++ [.lst us]) else .bad
theorem ce_tup {es : List Expr} {ma : FA} {x1 pos} (ha : CA X W es ma) : CE X W (.Tuple es x1 pos) (fTup ma) := by
  intro ρ μ s σ H Q hs hm h
  refine ⟨_, pe_tup pa_w, ?_⟩
  refine ha ρ μ s σ H _ hs hm (h.bind fun us μ1 vs H1 ρ1 t1 r1 h1 => ?_)
  split at h1
  · exact ⟨by rw [← RepVs.length r1]; exact lim_le (by assumption), fun p np => h1.ok (Stp.temp t1.mem np) (newT np r1)⟩
  · exact h1.elim
theorem ce_lst {es : List Expr} {ma : FA} {pos : Pos} (ha : CA X W es ma) : CE X W (.List es pos) (fLst ma) := by
  intro ρ μ s σ H Q hs hm h
  refine ⟨_, pe_lst pa_w, ?_⟩
  refine ha ρ μ s σ H _ hs hm (h.bind fun us μ1 vs H1 ρ1 t1 r1 h1 => ?_)
  split at h1
  · exact ⟨by rw [← RepVs.length r1]; exact lim_le (by assumption), fun p np => h1.ok (newL t1.mem np r1) (refN t1.mem)⟩
  · exact h1.elim
end
end Dg
/-! Dg3: calls of built-ins, subscripts, slices, dicts, methods. -/
namespace Dg
open PySem PySem.Spec PyProof.Rows L2
section
variable {X : Cx} {W : WX} {k : Nat}

/-! ### calls of built-ins by value -/
def CallW (X : Cx) (f : Value) : List V → Hp → VK → Prop := fun vs H Q => ∃ r, CallR X f r ∧ r vs H Q
theorem call_w {f : Value} : CallR X f (CallW X f) := fun pins s σ H xs us Q I rx ⟨_, h, q⟩ => h pins s σ H xs us Q I rx q
def CallS (X : Cx) (W : WX) (f : Value) (g : List U → Mem → Res U) : Prop := ∀ ρ μ σ H us vs Q, RepM X.K H ρ μ → RepVs X.K H ρ us vs → Post X W σ relV ρ H (g us μ) Q → CallW X f vs H Q
def fCall (g : List U → Mem → Res U) (a : FA) : FE := fun s μ => (a s μ).bind g
theorem ce_callB {id : String} {x : Str} {e : Expr} {es : List Expr} {ma : FA} {g : List U → Mem → Res U} {p pos : Pos} (hc : CallS X W (.builtin id) g) (hg : Gl X x) (hm : X.mg x = none) (hv : bootBuiltins x = some (.builtin id)) (ha : CA X W (e :: es) ma)
    (hp : ∀ {r : List V → Hp → VK → Prop} {t : TA}, CallR X (.builtin id) r → PA X (e :: es) t → PE X (.Call (.Name x p) (e :: es) [] pos) (tCB r t)) : CE X W (.Call (.Name x p) (e :: es) [] pos) (fCall g ma) := by
  intro ρ μ s σ H Q hs hm' h
  refine ⟨_, hp call_w pa_w, ?_⟩
  exact ha ρ μ s σ H _ hs hm' (h.bind fun us μ1 vs H1 ρ1 t1 r1 h1 => hc ρ1 μ1 σ H1 us vs Q t1.mem r1 h1)
theorem ce_callT {T : String} {x : Str} {e : Expr} {es : List Expr} {ma : FA} {g : List U → Mem → Res U} {p pos : Pos} (hc : CallS X W (.type T) g) (hg : Gl X x) (hm : X.mg x = none) (hv : bootBuiltins x = some (.type T)) (ha : CA X W (e :: es) ma)
    (hp : ∀ {r : List V → Hp → VK → Prop} {t : TA}, CallR X (.type T) r → PA X (e :: es) t → PE X (.Call (.Name x p) (e :: es) [] pos) (tCB r t)) : CE X W (.Call (.Name x p) (e :: es) [] pos) (fCall g ma) := by
  intro ρ μ s σ H Q hs hm' h
  refine ⟨_, hp call_w pa_w, ?_⟩
  exact ha ρ μ s σ H _ hs hm' (h.bind fun us μ1 vs H1 ρ1 t1 r1 h1 => hc ρ1 μ1 σ H1 us vs Q t1.mem r1 h1)

/-- what of a list or tuple is read -/
inductive SeqOf (μ : Mem) : U → List U → Prop
  | tup {us : List U} : SeqOf μ (.tup us) us
  | lst {i : Nat} {us : List U} : μ[i]? = some (.lst us) → SeqOf μ (.ref i) us
def seqU (μ : Mem) : U → Option (List U)
  | .tup us => some us
  | .ref i => match μ[i]? with
    | some (.lst us) => some us
    | _ => none
  | .frl us => some us
  | _ => none
theorem seqU_ok {K : PySem.W.Frag} {H : Hp} {ρ : List Addr} {μ : Mem} (hm : RepM K H ρ μ) {u : U} {v : V} {us : List U} (r : RepV K H ρ u v) (e : seqU μ u = some us) : ∃ a vs, v = .ref a ∧ (SqL K H a vs ∨ SqT K H a vs) ∧ RepVs K H ρ us vs := by
  cases r with
  | tup hs hr => cases e; exact ⟨_, _, rfl, .inr hs, hr⟩
  | ref hr =>
    obtain ⟨c, hc, rc⟩ := hm.at hr
    simp only [seqU, hc] at e
    cases c with
    | lst us => obtain ⟨vs, q, r⟩ := rc; cases e; exact ⟨_, vs, rfl, .inl (.inl (.inl q)), r⟩
    | dct us => cases e
  | frl hs hr => cases e; exact ⟨_, _, rfl, .inl hs.sq, hr⟩
  | _ => cases e
/-- a list that stands for itself -/
def lstU (μ : Mem) : U → Option (List U)
  | .ref i => match μ[i]? with
    | some (.lst us) => some us
    | _ => none
  | .frl us => some us
  | _ => none
theorem lstU_ok {K : PySem.W.Frag} {H : Hp} {ρ : List Addr} {μ : Mem} (hm : RepM K H ρ μ) {u : U} {v : V} {us : List U} (r : RepV K H ρ u v) (e : lstU μ u = some us) : ∃ a vs, v = .ref a ∧ SqL K H a vs ∧ RepVs K H ρ us vs := by
  cases r with
  | ref hr =>
    obtain ⟨c, hc, rc⟩ := hm.at hr
    simp only [lstU, hc] at e
    cases c with
    | lst us => obtain ⟨vs, q, r⟩ := rc; cases e; exact ⟨_, vs, rfl, .inl (.inl q), r⟩
    | dct us => cases e
  | frl hs hr => cases e; exact ⟨_, _, rfl, hs.sq, hr⟩
  | _ => cases e
def lenU (μ : Mem) : U → Option Nat
  | .str z => if z.length ≤ lim then some z.length else none
  | .tup us => some us.length
  | .ref i => match μ[i]? with
    | some (.lst us) => some us.length
    | some (.dct us) => some us.length
    | none => none
  | .frl us => some us.length
  | _ => none
def bLen (us : List U) (μ : Mem) : Res U := match us with
  | [u] => match lenU μ u with
    | some n => .ok (.int (n : Int)) μ
    | none => .bad
  | _ => .bad
theorem cs_len : CallS X W (.builtin "len") bLen := by
  intro ρ μ σ H us vs Q hm r h
  unfold bLen at h
  split at h
  · rename_i u
    cases r with
    | cons ru r0 =>
      cases r0
      cases e : lenU μ u with
      | none => rw [e] at h; exact h.elim
      | some n =>
        rw [e] at h
        have q : ∀ H', H' = H → Q (.int (n : Int)) H' := fun H' e => e ▸ h.ok (Stp.refl hm) .int
        cases ru with
        | str hs =>
          simp only [lenU] at e
          split at e
          · cases e; exact ⟨_, call_len, _, _, rfl, ⟨lim_le (by assumption), rfl⟩, q _ rfl⟩
          · cases e
        | tup hs hr => cases e; exact ⟨_, call_len, _, _, rfl, .inr ⟨_, hs, hr.length⟩, q _ rfl⟩
        | frl hs hr => cases e; exact ⟨_, call_len, _, _, rfl, .inl ⟨_, hs.sq, hr.length⟩, q _ rfl⟩
        | ref hr =>
          obtain ⟨c, hc, rc⟩ := hm.at hr
          simp only [lenU, hc] at e
          cases c with
          | lst us => obtain ⟨vs, q1, r⟩ := rc; cases e; exact ⟨_, call_len, _, _, rfl, .inl ⟨_, .inl (.inl q1), r.length⟩, q _ rfl⟩
          | dct us =>
            obtain ⟨vs, q1, r, _⟩ := rc
            cases e
            refine ⟨_, call_lenD, _, vs, rfl, q1, ?_⟩
            have : vs.length = us.length := by have := congrArg List.length r; simpa using this
            rw [this]
            exact q _ rfl
        | _ => cases e
  · exact h.elim
def bInt (us : List U) (μ : Mem) : Res U := match us with
  | [.int i] => .ok (.int i) μ
  | [.bl b] => .ok (.int (if b then 1 else 0)) μ
  | _ => .bad
theorem cs_int : CallS X W (.type "int") bInt := by
  intro ρ μ σ H us vs Q hm r h
  unfold bInt at h
  split at h
  · cases r with
    | cons ru r0 => cases r0; cases ru; exact ⟨_, call_int1, .inl ⟨_, rfl, h.ok (Stp.refl hm) .int⟩⟩
  · cases r with
    | cons ru r0 => cases r0; cases ru; exact ⟨_, call_int1, .inr ⟨_, rfl, h.ok (Stp.refl hm) .int⟩⟩
  · exact h.elim
def bAbs (us : List U) (μ : Mem) : Res U := match us with
  | [.int i] => .ok (.int (if i < 0 then -i else i)) μ
  | _ => .bad
theorem cs_abs : CallS X W (.builtin "abs") bAbs := by
  intro ρ μ σ H us vs Q hm r h
  unfold bAbs at h
  split at h
  · cases r with
    | cons ru r0 => cases r0; cases ru; exact ⟨_, call_abs, _, rfl, h.ok (Stp.refl hm) .int⟩
  · exact h.elim
def intsU : List U → Option (List Int)
  | [] => some []
  | .int i :: us => (intsU us).map (i :: ·)
  | _ :: _ => none
theorem intsU_ok : ∀ {us : List U} {is : List Int}, intsU us = some is → us = is.map U.int
  | [], _, e => by cases e; rfl
  | .int i :: us, _, e => by
    simp only [intsU, Option.map_eq_some_iff] at e
    obtain ⟨a, h, rfl⟩ := e
    rw [intsU_ok h]; rfl
  | .non :: us, _, e => by cases e
  | .bl _ :: us, _, e => by cases e
  | .str _ :: us, _, e => by cases e
  | .tup _ :: us, _, e => by cases e
  | .ref _ :: us, _, e => by cases e
  | .frl _ :: us, _, e => by cases e
def strsU : List U → Option (List Str)
  | [] => some []
  | .str i :: us => (strsU us).map (i :: ·)
  | _ :: _ => none
theorem strsU_ok : ∀ {us : List U} {is : List Str}, strsU us = some is → us = is.map U.str
  | [], _, e => by cases e; rfl
  | .str i :: us, _, e => by
    simp only [strsU, Option.map_eq_some_iff] at e
    obtain ⟨a, h, rfl⟩ := e
    rw [strsU_ok h]; rfl
  | .non :: us, _, e => by cases e
  | .bl _ :: us, _, e => by cases e
  | .int _ :: us, _, e => by cases e
  | .tup _ :: us, _, e => by cases e
  | .ref _ :: us, _, e => by cases e
  | .frl _ :: us, _, e => by cases e
def blsU : List U → Option (List Bool)
  | [] => some []
  | .bl i :: us => (blsU us).map (i :: ·)
  | _ :: _ => none
theorem blsU_ok : ∀ {us : List U} {is : List Bool}, blsU us = some is → us = is.map U.bl
  | [], _, e => by cases e; rfl
  | .bl i :: us, _, e => by
    simp only [blsU, Option.map_eq_some_iff] at e
    obtain ⟨a, h, rfl⟩ := e
    rw [blsU_ok h]; rfl
  | .non :: us, _, e => by cases e
  | .str _ :: us, _, e => by cases e
  | .int _ :: us, _, e => by cases e
  | .tup _ :: us, _, e => by cases e
  | .ref _ :: us, _, e => by cases e
  | .frl _ :: us, _, e => by cases e
def maxI : Int → List Int → Int
  | m, [] => m
  | m, x :: xs => maxI (if x > m then x else m) xs
def minI : Int → List Int → Int
  | m, [] => m
  | m, x :: xs => minI (if x < m then x else m) xs
theorem maxI_ok : ∀ (xs : List Int) (m : Int), (maxI m xs = m ∨ maxI m xs ∈ xs) ∧ m ≤ maxI m xs ∧ ∀ y ∈ xs, y ≤ maxI m xs
  | [], m => ⟨.inl rfl, Int.le_refl _, by simp⟩
  | x :: xs, m => by
    obtain ⟨h1, h2, h3⟩ := maxI_ok xs (if x > m then x else m)
    refine ⟨?_, ?_, fun y hy => ?_⟩
    · rcases h1 with h1 | h1
      · show maxI (if x > m then x else m) xs = m ∨ _
        rw [h1]
        by_cases c : x > m
        · rw [if_pos c]; exact .inr (by show maxI (if x > m then x else m) xs ∈ x :: xs; rw [h1, if_pos c]; exact List.mem_cons_self)
        · rw [if_neg c]; exact .inl rfl
      · exact .inr (List.mem_cons_of_mem _ h1)
    · show m ≤ maxI (if x > m then x else m) xs
      by_cases c : x > m
      · rw [if_pos c] at h2 ⊢; omega
      · rw [if_neg c] at h2 ⊢; omega
    · show y ≤ maxI (if x > m then x else m) xs
      rcases List.mem_cons.mp hy with e | e
      · subst e
        by_cases c : y > m
        · rw [if_pos c] at h2 ⊢; omega
        · rw [if_neg c] at h2 ⊢; omega
      · exact h3 y e
theorem minI_ok : ∀ (xs : List Int) (m : Int), (minI m xs = m ∨ minI m xs ∈ xs) ∧ minI m xs ≤ m ∧ ∀ y ∈ xs, minI m xs ≤ y
  | [], m => ⟨.inl rfl, Int.le_refl _, by simp⟩
  | x :: xs, m => by
    obtain ⟨h1, h2, h3⟩ := minI_ok xs (if x < m then x else m)
    refine ⟨?_, ?_, fun y hy => ?_⟩
    · rcases h1 with h1 | h1
      · show minI (if x < m then x else m) xs = m ∨ _
        rw [h1]
        by_cases c : x < m
        · rw [if_pos c]; exact .inr (by show minI (if x < m then x else m) xs ∈ x :: xs; rw [h1, if_pos c]; exact List.mem_cons_self)
        · rw [if_neg c]; exact .inl rfl
      · exact .inr (List.mem_cons_of_mem _ h1)
    · show minI (if x < m then x else m) xs ≤ m
      by_cases c : x < m
      · rw [if_pos c] at h2 ⊢; omega
      · rw [if_neg c] at h2 ⊢; omega
    · show minI (if x < m then x else m) xs ≤ y
      rcases List.mem_cons.mp hy with e | e
      · subst e
        by_cases c : y < m
        · rw [if_pos c] at h2 ⊢; omega
        · rw [if_neg c] at h2 ⊢; omega
      · exact h3 y e
def bMax (us : List U) (μ : Mem) : Res U := match us with
  | [.int i, .int j] => .ok (.int (if j > i then j else i)) μ
  | [.ref r] => match (lstU μ (.ref r)).bind intsU with
    | some (m :: is) => .ok (.int (maxI m is)) μ
    | _ => .bad
  | _ => .bad
def bMin (us : List U) (μ : Mem) : Res U := match us with
  | [.int i, .int j] => .ok (.int (if j < i then j else i)) μ
  | [.ref r] => match (lstU μ (.ref r)).bind intsU with
    | some (m :: is) => .ok (.int (minI m is)) μ
    | _ => .bad
  | _ => .bad
theorem cs_max (hc : X.calm = true) : CallS X W (.builtin "max") bMax := by
  intro ρ μ σ H us vs Q hm r h
  unfold bMax at h
  split at h
  · cases r with
    | cons ru r0 => cases r0 with | cons rw' r1 => cases r1; cases ru; cases rw'; exact ⟨_, call_max2 hc, _, _, rfl, h.ok (Stp.refl hm) .int⟩
  · rename_i i
    cases r with
    | cons ru r0 =>
      cases r0
      split at h
      · rename_i m is e
        obtain ⟨us, e1, e2⟩ := Option.bind_eq_some_iff.mp e
        obtain ⟨a, vs, rfl, q1, r1⟩ := lstU_ok hm ru e1
        rw [intsU_ok e2] at r1
        rw [r1.ints] at q1
        refine ⟨_, cr_max hc, a, m :: is, rfl, q1, by simp, fun z hz hle => ?_⟩
        have ez : z = maxI m is := by
          obtain ⟨h1, h2, h3⟩ := maxI_ok is m
          have a1 : maxI m is ≤ z := by
            rcases h1 with h1 | h1
            · rw [h1]; exact hle m (by simp)
            · exact hle _ (List.mem_cons_of_mem _ h1)
          have a2 : z ≤ maxI m is := by
            rcases List.mem_cons.mp hz with e | e
            · rw [e]; exact h2
            · exact h3 z e
          omega
        rw [ez]
        exact h.ok (Stp.refl hm) .int
      · exact h.elim
  · exact h.elim
theorem cs_min (hc : X.calm = true) : CallS X W (.builtin "min") bMin := by
  intro ρ μ σ H us vs Q hm r h
  unfold bMin at h
  split at h
  · cases r with
    | cons ru r0 => cases r0 with | cons rw' r1 => cases r1; cases ru; cases rw'; exact ⟨_, call_min2 hc, _, _, rfl, h.ok (Stp.refl hm) .int⟩
  · rename_i i
    cases r with
    | cons ru r0 =>
      cases r0
      split at h
      · rename_i m is e
        obtain ⟨us, e1, e2⟩ := Option.bind_eq_some_iff.mp e
        obtain ⟨a, vs, rfl, q1, r1⟩ := lstU_ok hm ru e1
        rw [intsU_ok e2] at r1
        rw [r1.ints] at q1
        refine ⟨_, cr_min hc, a, m :: is, rfl, q1, by simp, fun z hz hle => ?_⟩
        have ez : z = minI m is := by
          obtain ⟨h1, h2, h3⟩ := minI_ok is m
          have a1 : z ≤ minI m is := by
            rcases h1 with h1 | h1
            · rw [h1]; exact hle m (by simp)
            · exact hle _ (List.mem_cons_of_mem _ h1)
          have a2 : minI m is ≤ z := by
            rcases List.mem_cons.mp hz with e | e
            · rw [e]; exact h2
            · exact h3 z e
          omega
        rw [ez]
        exact h.ok (Stp.refl hm) .int
      · exact h.elim
  · exact h.elim
def bSum (us : List U) (μ : Mem) : Res U := match us with
  | [.ref r] => match (lstU μ (.ref r)).bind intsU with
    | some is => .ok (.int is.sum) μ
    | _ => .bad
  | _ => .bad
theorem cs_sum (hc : X.calm = true) : CallS X W (.builtin "sum") bSum := by
  intro ρ μ σ H us vs Q hm r h
  unfold bSum at h
  split at h
  · cases r with
    | cons ru r0 =>
      cases r0
      split at h
      · rename_i is e
        obtain ⟨us, e1, e2⟩ := Option.bind_eq_some_iff.mp e
        obtain ⟨a, vs, rfl, q1, r1⟩ := lstU_ok hm ru e1
        rw [intsU_ok e2] at r1
        rw [r1.ints] at q1
        exact ⟨_, cr_sum hc, a, is, rfl, q1, h.ok (Stp.refl hm) .int⟩
      · exact h.elim
  · exact h.elim
def bAll (us : List U) (μ : Mem) : Res U := match us with
  | [.ref r] => match (lstU μ (.ref r)).bind blsU with
    | some is => .ok (.bl (is.all id)) μ
    | _ => .bad
  | _ => .bad
def bAny (us : List U) (μ : Mem) : Res U := match us with
  | [.ref r] => match (lstU μ (.ref r)).bind blsU with
    | some is => .ok (.bl (is.any id)) μ
    | _ => .bad
  | _ => .bad
theorem cs_all (hc : X.calm = true) : CallS X W (.builtin "all") bAll := by
  intro ρ μ σ H us vs Q hm r h
  unfold bAll at h
  split at h
  · cases r with
    | cons ru r0 =>
      cases r0
      split at h
      · rename_i is e
        obtain ⟨us, e1, e2⟩ := Option.bind_eq_some_iff.mp e
        obtain ⟨a, vs, rfl, q1, r1⟩ := lstU_ok hm ru e1
        rw [blsU_ok e2] at r1
        rw [r1.bls] at q1
        exact ⟨_, cr_all hc, a, is, rfl, q1, h.ok (Stp.refl hm) .bl⟩
      · exact h.elim
  · exact h.elim
theorem cs_any (hc : X.calm = true) : CallS X W (.builtin "any") bAny := by
  intro ρ μ σ H us vs Q hm r h
  unfold bAny at h
  split at h
  · cases r with
    | cons ru r0 =>
      cases r0
      split at h
      · rename_i is e
        obtain ⟨us, e1, e2⟩ := Option.bind_eq_some_iff.mp e
        obtain ⟨a, vs, rfl, q1, r1⟩ := lstU_ok hm ru e1
        rw [blsU_ok e2] at r1
        rw [r1.bls] at q1
        exact ⟨_, cr_any hc, a, is, rfl, q1, h.ok (Stp.refl hm) .bl⟩
      · exact h.elim
  · exact h.elim
def bList (us : List U) (μ : Mem) : Res U := match us with
  | [u] => match seqU μ u with
    | some xs => .ok (.ref μ.length) (μ ++ [.lst xs])
    | none => .bad
  | _ => .bad
theorem cs_list : CallS X W (.type "list") bList := by
  intro ρ μ σ H us vs Q hm r h
  unfold bList at h
  split at h
  · cases r with
    | cons ru r0 =>
      cases r0
      split at h
      · rename_i xs e
        obtain ⟨a, vs, rfl, q1, r1⟩ := seqU_ok hm ru e
        exact ⟨_, call_list_of, a, vs, rfl, q1, fun p np => h.ok (newL hm np r1) (refN hm)⟩
      · exact h.elim
  · exact h.elim
def bTuple (us : List U) (μ : Mem) : Res U := match us with
  | [u] => match seqU μ u with
    | some xs => .ok (.tup xs) μ
    | none => .bad
  | _ => .bad
theorem cs_tuple : CallS X W (.type "tuple") bTuple := by
  intro ρ μ σ H us vs Q hm r h
  unfold bTuple at h
  split at h
  · cases r with
    | cons ru r0 =>
      cases r0
      split at h
      · rename_i xs e
        obtain ⟨a, vs, rfl, q1, r1⟩ := seqU_ok hm ru e
        refine ⟨_, call_tuple_of, a, vs, rfl, ?_⟩
        rcases q1 with q1 | q1
        · exact .inl ⟨q1, fun p np => h.ok (Stp.temp hm np) (newT np r1)⟩
        · exact .inr ⟨q1, h.ok (Stp.refl hm) (.tup q1 r1)⟩
      · exact h.elim
  · exact h.elim

/-! ### sorted -/
def insI (x : Int) : List Int → List Int
  | [] => [x]
  | y :: ys => if x ≤ y then x :: y :: ys else y :: insI x ys
def sortI : List Int → List Int
  | [] => []
  | x :: xs => insI x (sortI xs)
theorem insI_perm (x : Int) : ∀ ys, (insI x ys).Perm (x :: ys)
  | [] => List.Perm.refl _
  | y :: ys => by
    unfold insI
    split
    · exact List.Perm.refl _
    · exact ((insI_perm x ys).cons y).trans (List.Perm.swap x y ys)
theorem sortI_perm : ∀ xs, (sortI xs).Perm xs
  | [] => List.Perm.refl _
  | x :: xs => (insI_perm x (sortI xs)).trans ((sortI_perm xs).cons x)
theorem insI_sorted (x : Int) : ∀ ys : List Int, ys.Pairwise (· ≤ ·) → (insI x ys).Pairwise (· ≤ ·)
  | [], _ => by simp [insI]
  | y :: ys, h => by
    unfold insI
    rw [List.pairwise_cons] at h
    split
    · rename_i c
      rw [List.pairwise_cons, List.pairwise_cons]
      refine ⟨fun z hz => ?_, h⟩
      rcases List.mem_cons.mp hz with e | e
      · rw [e]; exact c
      · exact Int.le_trans c (h.1 z e)
    · rename_i c
      rw [List.pairwise_cons]
      refine ⟨fun z hz => ?_, insI_sorted x ys h.2⟩
      rcases List.mem_cons.mp ((insI_perm x ys).mem_iff.mp hz) with e | e
      · rw [e]; omega
      · exact h.1 z e
theorem sortI_sorted : ∀ xs, (sortI xs).Pairwise (· ≤ ·)
  | [] => .nil
  | x :: xs => insI_sorted x _ (sortI_sorted xs)
theorem sorted_unique : ∀ {a b : List Int}, a.Perm b → a.Pairwise (· ≤ ·) → b.Pairwise (· ≤ ·) → a = b
  | [], b, p, _, _ => by rw [List.nil_perm.mp p]
  | x :: a, [], p, _, _ => by simp at p
  | x :: a, y :: b, p, ha, hb => by
    rw [List.pairwise_cons] at ha hb
    have hx : x ∈ y :: b := p.mem_iff.mp (by simp)
    have hy : y ∈ x :: a := p.mem_iff.mpr (by simp)
    have e : x = y := by
      rcases List.mem_cons.mp hx with q | q
      · exact q
      · rcases List.mem_cons.mp hy with q2 | q2
        · exact q2.symm
        · exact Int.le_antisymm (ha.1 y q2) (hb.1 x q)
    subst e
    rw [sorted_unique (List.Perm.cons_inv p) ha.2 hb.2]
abbrev leC (a b : List Nat) : Prop := PySem.Spec.ltCps b a = false
theorem leC_refl : ∀ a : List Nat, leC a a
  | [] => rfl
  | a :: r => by
    have := leC_refl r
    simp_all [leC, PySem.Spec.ltCps]
theorem leC_anti : ∀ {a b : List Nat}, leC a b → leC b a → a = b
  | [], [], _, _ => rfl
  | [], _ :: _, h, g => by simp [leC, PySem.Spec.ltCps] at h g
  | _ :: _, [], h, g => by simp [leC, PySem.Spec.ltCps] at h g
  | a :: r, b :: t, h, g => by
    simp only [leC, PySem.Spec.ltCps, Bool.or_eq_false_iff, decide_eq_false_iff_not, Bool.and_eq_false_iff, beq_eq_false_iff_ne] at h g
    have e : a = b := by omega
    subst e
    have h2 : leC r t := by rcases h.2 with q | q; exact absurd rfl q; exact q
    have g2 : leC t r := by rcases g.2 with q | q; exact absurd rfl q; exact q
    rw [leC_anti h2 g2]
theorem leC_trans : ∀ {a b c : List Nat}, leC a b → leC b c → leC a c
  | [], _, [], _, _ => rfl
  | [], _, _ :: _, _, _ => rfl
  | _ :: _, [], _, h, _ => by simp [leC, PySem.Spec.ltCps] at h
  | _ :: _, _ :: _, [], _, g => by simp [leC, PySem.Spec.ltCps] at g
  | a :: r, b :: t, c :: w, h, g => by
    simp only [leC, PySem.Spec.ltCps, Bool.or_eq_false_iff, decide_eq_false_iff_not, Bool.and_eq_false_iff, beq_eq_false_iff_ne] at h g ⊢
    refine ⟨by omega, ?_⟩
    by_cases e : c = a
    · right
      have e1 : b = a := by omega
      have e2 : c = b := by omega
      have h2 : leC r t := by rcases h.2 with q | q; exact absurd e1 q; exact q
      have g2 : leC t w := by rcases g.2 with q | q; exact absurd e2 q; exact q
      exact leC_trans h2 g2
    · left; exact e
theorem leC_total (a b : List Nat) : leC a b ∨ leC b a := by
  induction a generalizing b with
  | nil => cases b <;> simp [leC, PySem.Spec.ltCps]
  | cons x r ih =>
    cases b with
    | nil => right; rfl
    | cons y t =>
      simp only [leC, PySem.Spec.ltCps, Bool.or_eq_false_iff, decide_eq_false_iff_not, Bool.and_eq_false_iff, beq_eq_false_iff_ne]
      by_cases h1 : x < y
      · left; exact ⟨by omega, .inl (by omega)⟩
      · by_cases h2 : y < x
        · right; exact ⟨by omega, .inl (by omega)⟩
        · rcases ih t with q | q
          · left; exact ⟨h2, .inr q⟩
          · right; exact ⟨h1, .inr q⟩
def leS (a b : Str) : Prop := leC a.cps.toList b.cps.toList
theorem leS_anti {a b : Str} (h : leS a b) (g : leS b a) : a = b := by
  have e := leC_anti h g
  cases a with | mk a => cases b with | mk b => exact congrArg Str.mk (Array.toList_inj.mp e)
theorem leS_of_rising : ∀ (r : List Str) (p : Str), risingS p r = true → (p :: r).Pairwise leS
  | [], p, _ => by simp
  | x :: r, p, h => by
    simp only [risingS, Bool.and_eq_true, Bool.not_eq_true'] at h
    have ih := leS_of_rising r x h.2
    rw [List.pairwise_cons] at ih
    rw [List.pairwise_cons, List.pairwise_cons]
    have h1 : leS p x := h.1
    refine ⟨fun z hz => ?_, ih⟩
    rcases List.mem_cons.mp hz with e | e
    · rw [e]; exact h1
    · exact leC_trans h1 (ih.1 z e)
theorem leS_of_sorted : ∀ {r : List Str}, sortedS r = true → r.Pairwise leS
  | [], _ => .nil
  | x :: r, h => leS_of_rising r x h
theorem uniqueS : ∀ {a b : List Str}, a.Perm b → a.Pairwise leS → b.Pairwise leS → a = b
  | [], b, p, _, _ => by rw [List.nil_perm.mp p]
  | x :: a, [], p, _, _ => by simp at p
  | x :: a, y :: b, p, ha, hb => by
    rw [List.pairwise_cons] at ha hb
    have hx : x ∈ y :: b := p.mem_iff.mp (by simp)
    have hy : y ∈ x :: a := p.mem_iff.mpr (by simp)
    have e : x = y := by
      rcases List.mem_cons.mp hx with q | q
      · exact q
      · rcases List.mem_cons.mp hy with q2 | q2
        · exact q2.symm
        · exact leS_anti (ha.1 y q2) (hb.1 x q)
    subst e
    rw [uniqueS (List.Perm.cons_inv p) ha.2 hb.2]
def insS (x : Str) : List Str → List Str
  | [] => [x]
  | y :: ys => if strLt y x then y :: insS x ys else x :: y :: ys
def sortS : List Str → List Str
  | [] => []
  | x :: xs => insS x (sortS xs)
theorem insS_perm (x : Str) : ∀ ys, (insS x ys).Perm (x :: ys)
  | [] => List.Perm.refl _
  | y :: ys => by
    unfold insS
    split
    · exact ((insS_perm x ys).cons y).trans (List.Perm.swap x y ys)
    · exact List.Perm.refl _
theorem sortS_perm : ∀ xs, (sortS xs).Perm xs
  | [] => List.Perm.refl _
  | x :: xs => (insS_perm x (sortS xs)).trans ((sortS_perm xs).cons x)
theorem insS_sorted (x : Str) : ∀ ys : List Str, ys.Pairwise leS → (insS x ys).Pairwise leS
  | [], _ => by simp [insS]
  | y :: ys, h => by
    unfold insS
    rw [List.pairwise_cons] at h
    split
    · rename_i c
      have yx : leS y x := by
        rcases leC_total y.cps.toList x.cps.toList with q | q
        · exact q
        · rw [leC] at q
          unfold strLt at c
          rw [q] at c; cases c
      rw [List.pairwise_cons]
      refine ⟨fun z hz => ?_, insS_sorted x ys h.2⟩
      rcases List.mem_cons.mp ((insS_perm x ys).mem_iff.mp hz) with e | e
      · rw [e]; exact yx
      · exact h.1 z e
    · rename_i c
      have xy : leS x y := by
        unfold strLt at c
        exact Bool.eq_false_iff.mpr c
      rw [List.pairwise_cons, List.pairwise_cons]
      refine ⟨fun z hz => ?_, h⟩
      rcases List.mem_cons.mp hz with e | e
      · rw [e]; exact xy
      · exact leC_trans xy (h.1 z e)
theorem sortS_sorted : ∀ xs, (sortS xs).Pairwise leS
  | [] => .nil
  | x :: xs => insS_sorted x _ (sortS_sorted xs)
def keysS : List (Key × U) → Option (List Str)
  | [] => some []
  | (.inr x, _) :: r => (keysS r).map (x :: ·)
  | _ :: _ => none
theorem keysS_ok : ∀ {us : List (Key × U)} {is : List Str}, keysS us = some is → us.map (·.1) = is.map Sum.inr
  | [], _, e => by cases e; rfl
  | (.inr x, _) :: us, _, e => by
    simp only [keysS, Option.map_eq_some_iff] at e
    obtain ⟨a, h, rfl⟩ := e
    simp [keysS_ok h]
  | (.inl _, _) :: us, _, e => by cases e
def keyOk : Key → Bool
  | .inl _ => true
  | .inr x => PyData.strOk x
/-- sorted: ints; fewer than 64 texts; a dict's fewer than 64 text keys -/
def bSorted (us : List U) (μ : Mem) : Res U := match us with
  | [.ref r] => match μ[r]? with
    | some (.dct kvs) => match keysS kvs with
      | some ks => if ks.length < 64 ∧ ks.all PyData.strOk = true then .ok (.ref μ.length) (μ ++ [.lst ((sortS ks).map U.str)]) else .bad
      | none => .bad
    | _ => match lstU μ (.ref r) with
      | some xs => match strsU xs with
        | some ss => if ss.length < 64 then .ok (.ref μ.length) (μ ++ [.lst ((sortS ss).map U.str)]) else .bad
        | none => match intsU xs with
          | some is => .ok (.ref μ.length) (μ ++ [.lst ((sortI is).map U.int)])
          | none => .bad
      | none => .bad
  | _ => .bad
theorem cs_sorted (hc : X.calm = true) : CallS X W (.builtin "sorted") bSorted := by
  intro ρ μ σ H us vs Q hm r h
  unfold bSorted at h
  split at h
  · rename_i i
    cases r with
    | cons ru r0 =>
      cases r0
      split at h
      · rename_i kvs e0
        split at h
        · rename_i ks ek
          split at h
          · rename_i hz
            cases ru with
            | ref hr =>
              obtain ⟨ws, q1, q2, _⟩ := hm.get hr e0
              refine ⟨_, call_sortedD hc, _, ws, ks, rfl, .inl q1, q2.trans (keysS_ok ek), hz.1, fun ys p pm sd np => ?_⟩
              have ey : ys = sortS ks := uniqueS (pm.trans (sortS_perm ks).symm) (leS_of_sorted sd) (sortS_sorted ks)
              subst ey
              exact h.ok (newL hm np (RepVs.ofStrs _ fun x hx => List.all_eq_true.mp hz.2 x ((sortS_perm ks).mem_iff.mp hx))) (refN hm)
          · exact h.elim
        · exact h.elim
      · split at h
        · rename_i xs e1
          obtain ⟨a, vs, rfl, q1, r1⟩ := lstU_ok hm ru e1
          split at h
          · rename_i ss e2
            split at h
            · rename_i hz
              rw [strsU_ok e2] at r1
              have ok := r1.strsOk
              rw [r1.strs] at q1
              refine ⟨_, cr_sortedS, a, ss, rfl, q1, hz, fun ys p pm sd np => ?_⟩
              have ey : ys = sortS ss := uniqueS (pm.trans (sortS_perm ss).symm) (leS_of_sorted sd) (sortS_sorted ss)
              subst ey
              exact h.ok (newL hm np (RepVs.ofStrs _ fun x hx => ok x ((sortS_perm ss).mem_iff.mp hx))) (refN hm)
            · exact h.elim
          · split at h
            · rename_i is e3
              rw [intsU_ok e3] at r1
              rw [r1.ints] at q1
              refine ⟨_, cr_sortedI, a, is, rfl, q1, fun ys p pm sd np => ?_⟩
              have ey : ys = sortI is := sorted_unique (pm.trans (sortI_perm is).symm) sd (sortI_sorted is)
              subst ey
              exact h.ok (newL hm np (RepVs.ofInts _)) (refN hm)
            · exact h.elim
        · exact h.elim
  · exact h.elim
end
end Dg
/-! Dg4: subscripts, slices, dicts, isinstance, methods. -/
namespace Dg
open PySem PySem.Spec PyProof.Rows L2

/-! ### dicts by their pairs -/
def valU (kus : List (Key × U)) (k : Key) : Option U := (kus.find? fun kv => decide (kv.1 = k)).map (·.2)
def putU (kus : List (Key × U)) (k : Key) (u : U) : List (Key × U) :=
  if (kus.any fun kv => decide (kv.1 = k)) = true then kus.map (fun kv => if kv.1 = k then (kv.1, u) else kv) else kus ++ [(k, u)]
structure RepKV (K : PySem.W.Frag) (H : Hp) (ρ : List Addr) (kus : List (Key × U)) (kvs : List (Key × V)) : Prop where
  keys : kvs.map (·.1) = kus.map (·.1)
  vals : RepVs K H ρ (kus.map (·.2)) (kvs.map (·.2))
section
variable {K : PySem.W.Frag} {H : Hp} {ρ : List Addr}
theorem RepKV.nil : RepKV K H ρ [] [] := ⟨rfl, .nil⟩
theorem RepKV.cons {k : Key} {u : U} {v : V} {kus : List (Key × U)} {kvs : List (Key × V)} (r : RepV K H ρ u v) (h : RepKV K H ρ kus kvs) : RepKV K H ρ ((k, u) :: kus) ((k, v) :: kvs) := ⟨by simp [h.keys], .cons r h.vals⟩
theorem RepKV.uncons {p : Key × U} {kus : List (Key × U)} {ws : List (Key × V)} (h : RepKV K H ρ (p :: kus) ws) : ∃ v kvs, ws = (p.1, v) :: kvs ∧ RepV K H ρ p.2 v ∧ RepKV K H ρ kus kvs := by
  obtain ⟨h1, h2⟩ := h
  cases ws with
  | nil => simp at h1
  | cons w ws =>
    simp only [List.map_cons, List.cons.injEq] at h1
    rw [List.map_cons, List.map_cons] at h2
    cases h2 with
    | cons r1 r2 => exact ⟨w.2, ws, by rw [← h1.1], r1, h1.2, r2⟩
theorem RepKV.unnil {ws : List (Key × V)} (h : RepKV K H ρ [] ws) : ws = [] := by
  have := h.keys
  simpa using this
theorem RepKV.length {kus : List (Key × U)} {kvs : List (Key × V)} (h : RepKV K H ρ kus kvs) : kvs.length = kus.length := by
  have := congrArg List.length h.keys
  simpa using this
theorem RepKV.mono {H' : Hp} {ρ' : List Addr} {kus : List (Key × U)} {kvs : List (Key × V)} (t : TX H H') (e : Ext ρ ρ') (h : RepKV K H ρ kus kvs) : RepKV K H' ρ' kus kvs := ⟨h.keys, h.vals.mono t e⟩
theorem RepKV.val {k : Key} : ∀ {kus : List (Key × U)} {kvs : List (Key × V)}, RepKV K H ρ kus kvs → (∀ u, valU kus k = some u → ∃ v, valV kvs k = some v ∧ RepV K H ρ u v) ∧ (valU kus k = none → valV kvs k = none)
  | [], _, h => by rw [h.unnil]; exact ⟨fun u e => by simp [valU] at e, fun _ => rfl⟩
  | p :: kus, ws, h => by
    obtain ⟨v, kvs, rfl, r, t⟩ := h.uncons
    have ih := RepKV.val (k := k) t
    by_cases e : p.1 = k
    · refine ⟨fun u hu => ⟨v, valV_pos e, ?_⟩, fun hn => ?_⟩
      · simp [valU, e] at hu
        exact hu ▸ r
      · simp [valU, e] at hn
    · rw [valV_neg (p := (p.1, v)) e]
      have : valU (p :: kus) k = valU kus k := by simp [valU, e]
      rw [this]
      exact ih
theorem RepKV.any {k : Key} {kus : List (Key × U)} {kvs : List (Key × V)} (h : RepKV K H ρ kus kvs) : (kvs.any fun kv => decide (kv.1 = k)) = (kus.any fun kv => decide (kv.1 = k)) := by
  have e1 : (kvs.any fun kv => decide (kv.1 = k)) = (kvs.map (·.1)).any fun x => decide (x = k) := by simp [List.any_map, Function.comp_def]
  have e2 : (kus.any fun kv => decide (kv.1 = k)) = (kus.map (·.1)).any fun x => decide (x = k) := by simp [List.any_map, Function.comp_def]
  rw [e1, e2, h.keys]
theorem RepKV.mapPut {k : Key} {u : U} {v : V} (r : RepV K H ρ u v) : ∀ {kus : List (Key × U)} {kvs : List (Key × V)}, RepKV K H ρ kus kvs →
    RepKV K H ρ (kus.map fun kv => if kv.1 = k then (kv.1, u) else kv) (kvs.map fun kv => if kv.1 = k then (kv.1, v) else kv)
  | [], _, h => by rw [h.unnil]; exact .nil
  | p :: kus, ws, h => by
    obtain ⟨v0, kvs, rfl, r0, t⟩ := h.uncons
    have ih := RepKV.mapPut (k := k) r t
    rw [List.map_cons, List.map_cons]
    by_cases e : p.1 = k
    · simp only [e, if_true]; exact ih.cons r
    · simp only [e, if_false]; exact ih.cons (k := p.1) r0
theorem RepKV.snoc {k : Key} {u : U} {v : V} (r : RepV K H ρ u v) {kus : List (Key × U)} {kvs : List (Key × V)} (h : RepKV K H ρ kus kvs) : RepKV K H ρ (kus ++ [(k, u)]) (kvs ++ [(k, v)]) := ⟨by simp [h.keys], by
  rw [List.map_append, List.map_append]; exact h.vals.append (.one r)⟩
theorem RepKV.put {k : Key} {u : U} {v : V} (r : RepV K H ρ u v) {kus : List (Key × U)} {kvs : List (Key × V)} (h : RepKV K H ρ kus kvs) : RepKV K H ρ (putU kus k u) (putK kvs k v) := by
  unfold putU putK
  rw [h.any]
  split
  · exact h.mapPut r
  · exact h.snoc r
theorem dct_of {μ : Mem} (hm : RepM K H ρ μ) {i : Nat} {a : Addr} {kus : List (Key × U)} (e : ρ[i]? = some a) (h : μ[i]? = some (.dct kus)) : ∃ kvs, H a = some (.dK kvs) ∧ RepKV K H ρ kus kvs := by
  obtain ⟨kvs, q, w, r⟩ := hm.get e h
  exact ⟨kvs, q, w, r⟩
theorem newD {μ : Mem} (hm : RepM K H ρ μ) {p : Addr} {kus : List (Key × U)} {kvs : List (Key × V)} (np : H p = none) (r : RepKV K H ρ kus kvs) : Stp K ρ H (ρ ++ [p]) (upd H p (.dK kvs)) (μ ++ [.dct kus]) :=
  Stp.new hm np ⟨kvs, upd_same, r.keys, (r.mono (TX.new np) (Ext.snoc ρ p)).vals⟩
theorem putD {μ : Mem} (hm : RepM K H ρ μ) {i : Nat} {a : Addr} {kus kus' : List (Key × U)} {kvs' : List (Key × V)} (e : ρ[i]? = some a) (h : μ[i]? = some (.dct kus)) (r : RepKV K H ρ kus' kvs') : Stp K ρ H ρ (upd H a (.dK kvs')) (μ.set i (.dct kus')) := by
  have t : TX H (upd H a (.dK kvs')) := (hm.get e h).tx
  exact Stp.put hm e ⟨kvs', upd_same, r.keys, (r.mono t (Ext.refl _)).vals⟩
theorem putL {μ : Mem} (hm : RepM K H ρ μ) {i : Nat} {a : Addr} {us us' : List U} {vs' : List V} (e : ρ[i]? = some a) (h : μ[i]? = some (.lst us)) (r : RepVs K H ρ us' vs') : Stp K ρ H ρ (upd H a (.lst vs')) (μ.set i (.lst us')) := by
  have t : TX H (upd H a (.lst vs')) := (hm.get e h).tx
  exact Stp.put hm e ⟨vs', upd_same, r.mono t (Ext.refl _)⟩
end
def keyU : U → Option Key
  | .int i => some (.inl i)
  | .str x => some (.inr x)
  | _ => none
theorem keyU_ok {K : PySem.W.Frag} {H : Hp} {ρ : List Addr} {u : U} {v : V} {k : Key} (r : RepV K H ρ u v) (e : keyU u = some k) : v = kV k := by
  cases r with
  | int => cases e; rfl
  | str _ => cases e; rfl
  | _ => cases e

section
variable {X : Cx} {W : WX} {k : Nat}
/-! ### subscripts -/
def opt {α : Type} (o : Option α) (μ : Mem) : Res α := match o with
  | some a => .ok a μ
  | none => .bad
def dctU (μ : Mem) : U → Option (List (Key × U))
  | .ref i => match μ[i]? with
    | some (.dct kus) => some kus
    | _ => none
  | _ => none
def ixU (u w : U) (μ : Mem) : Res U := match dctU μ u with
  | some kus => match keyU w with
    | some k => opt (valU kus k) μ
    | none => .bad
  | none => match u, w with
    | .str z, .int i => if z.length ≤ lim then opt ((atI z.cps.toList i).map fun c => .str ⟨#[c]⟩) μ else .bad
    | u, .int i => match seqU μ u with
      | some us => opt (atI us i) μ
      | none => .bad
    | _, _ => .bad
theorem RepVs.atI {K : PySem.W.Frag} {H : Hp} {ρ : List Addr} {us : List U} {vs : List V} {i : Int} {u : U} (r : RepVs K H ρ us vs) (e : atI us i = some u) : ∃ v, L2.atI vs i = some v ∧ RepV K H ρ u v := by
  unfold L2.atI at *
  rw [← r.length]
  obtain ⟨j, h1, h2⟩ := Option.bind_eq_some_iff.mp e
  obtain ⟨v, q, w⟩ := r.get h2
  exact ⟨v, Option.bind_eq_some_iff.mpr ⟨j, h1, q⟩, w⟩
theorem strOk_sign {z : Str} {i : Int} {c : Nat} (h : PyData.strOk z = true) (e : L2.atI z.cps.toList i = some c) : PyData.strOk ⟨#[c]⟩ = true := by
  unfold L2.atI at e
  obtain ⟨j, _, h2⟩ := Option.bind_eq_some_iff.mp e
  have hc : c ∈ z.cps := by
    have := List.mem_of_getElem? h2
    exact Array.mem_toList_iff.mp this
  unfold PyData.strOk at *
  rw [Array.all_eq_true'] at *
  intro x hx
  have : x = c := by simpa using hx
  subst this
  exact h x hc
theorem ix_ok {ρ : List Addr} {μ : Mem} {σ : L2.St} {H : Hp} {u w : U} {x y : V} {Q : VK} (hm : RepM X.K H ρ μ) (ru : RepV X.K H ρ u x) (rw' : RepV X.K H ρ w y) (hd : dctU μ u = none) (h : Post X W σ relV ρ H (ixU u w μ) Q) : IxW X x y H Q := by
  unfold ixU at h
  rw [hd] at h
  simp only at h
  split at h
  · rename_i z i
    cases ru with
    | str hz =>
      cases rw'
      split at h
      · cases e : L2.atI z.cps.toList i with
        | none => rw [e] at h; exact h.elim
        | some c =>
          rw [e] at h
          exact ⟨_, ix_str, z, i, c, rfl, rfl, lim_le (by assumption), e, h.ok (Stp.refl hm) (.str (strOk_sign hz e))⟩
      · exact h.elim
  · rename_i i _
    cases rw'
    cases e : seqU μ u with
    | none => rw [e] at h; exact h.elim
    | some us =>
      rw [e] at h
      obtain ⟨a, vs, rfl, q, r⟩ := seqU_ok hm ru e
      simp only at h
      cases e2 : L2.atI us i with
      | none => rw [e2] at h; exact h.elim
      | some z =>
        rw [e2] at h
        obtain ⟨v, q2, r2⟩ := r.atI e2
        have qq := h.ok (Stp.refl hm) r2
        rcases q with q | q
        · exact ⟨_, ix_list, a, vs, i, v, rfl, rfl, q, q2, qq⟩
        · exact ⟨_, ix_tup, a, vs, i, v, rfl, rfl, q, q2, qq⟩
  · exact h.elim
theorem dget_ok {ρ : List Addr} {μ : Mem} {σ : L2.St} {H : Hp} {u w : U} {x y : V} {Q : VK} {kus : List (Key × U)} (hm : RepM X.K H ρ μ) (ru : RepV X.K H ρ u x) (rw' : RepV X.K H ρ w y) (hd : dctU μ u = some kus) (h : Post X W σ relV ρ H (ixU u w μ) Q) :
    ∃ a v, x = .ref a ∧ DGet H a y (some v) ∧ Q v H := by
  unfold ixU at h
  rw [hd] at h
  simp only at h
  cases ek : keyU w with
  | none => rw [ek] at h; exact h.elim
  | some k =>
    rw [ek] at h
    simp only at h
    cases ev : valU kus k with
    | none => rw [ev] at h; exact h.elim
    | some z =>
      rw [ev] at h
      cases ru with
      | ref hr =>
        rename_i i a
        have e1 : μ[i]? = some (.dct kus) := by
          unfold dctU at hd
          simp only at hd
          split at hd
          · cases hd; assumption
          · cases hd
        obtain ⟨kvs, q1, r1⟩ := dct_of hm hr e1
        obtain ⟨v, q2, r2⟩ := r1.val.1 z ev
        refine ⟨a, v, rfl, ?_, h.ok (Stp.refl hm) r2⟩
        rw [keyU_ok rw' ek, ← q2]
        exact DGet.k q1
      | _ => simp [dctU] at hd
theorem ce_sub {a b : Expr} {ma mb : FE} {pos : Pos} (G : Good X W (k + 40)) (ha : CE X W a ma) (hb : CE X W b mb) (hp : PlainIx b := by exact fun _ _ => rfl) (hn : NoSl b := by exact fun _ _ => rfl) : CE X W (.Subscript a b pos) (fOp ixU ma mb) := by
  intro ρ μ s σ H Q hs hm h
  by_cases hd : ∃ u μ1 w μ2 kus, ma s μ = .ok u μ1 ∧ mb s μ1 = .ok w μ2 ∧ dctU μ2 u = some kus
  · obtain ⟨u0, μ10, w0, μ20, kus, e1, e2, e3⟩ := hd
    refine ⟨_, pe_dget G.hu pe_w pe_w hn, ?_⟩
    unfold fOp at h
    rw [e1] at h
    refine ha ρ μ s σ H _ hs hm ?_
    rw [e1]
    intro x H1 ρ1 t1 r1
    have h1 : Post X W σ relV ρ H ((mb s μ10).bind fun w μ2 => ixU u0 w μ2) Q := h
    refine hb ρ1 μ10 s σ H1 _ (t1.s hs) t1.mem ?_
    rw [e2] at h1 ⊢
    intro y H2 ρ2 t2 r2
    have h2 : Post X W σ relV ρ H (ixU u0 w0 μ20) Q := h1
    refine dget_ok (W := W) (σ := σ) t2.mem (t2.v r1) r2 e3 ?_
    generalize ixU u0 w0 μ20 = z at h2
    cases z with
    | ok c m2 => exact fun v2 H3 ρ3 t3 q3 => h2 v2 H3 ρ3 ((t1.trans t2).trans t3) q3
    | ex c m2 => exact fun cls H3 ρ3 t3 e => h2 cls H3 ρ3 ((t1.trans t2).trans t3) e
    | bad => exact h2
  · refine ⟨_, pe_ix ix_w pe_w pe_w hp, ?_⟩
    have hd' : ∀ u μ1 w μ2, ma s μ = .ok u μ1 → mb s μ1 = .ok w μ2 → dctU μ2 u = none := fun u μ1 w μ2 e1 e2 => by
      cases e : dctU μ2 u with
      | none => rfl
      | some kus => exact absurd ⟨u, μ1, w, μ2, kus, e1, e2, e⟩ hd
    unfold fOp at h
    refine ha ρ μ s σ H _ hs hm ?_
    cases e1 : ma s μ with
    | ex c m => rw [e1] at h; exact h
    | bad => rw [e1] at h; exact h
    | ok u0 μ10 =>
      rw [e1] at h
      intro x H1 ρ1 t1 r1
      have h1 : Post X W σ relV ρ H ((mb s μ10).bind fun w μ2 => ixU u0 w μ2) Q := h
      refine hb ρ1 μ10 s σ H1 _ (t1.s hs) t1.mem ?_
      cases e2 : mb s μ10 with
      | ex c m => rw [e2] at h1; exact fun cls H3 ρ3 t3 e => h1 cls H3 ρ3 (t1.trans t3) e
      | bad => rw [e2] at h1; exact h1
      | ok w0 μ20 =>
        rw [e2] at h1
        intro y H2 ρ2 t2 r2
        have h2 : Post X W σ relV ρ H (ixU u0 w0 μ20) Q := h1
        refine ix_ok (W := W) (σ := σ) t2.mem (t2.v r1) r2 (hd' u0 μ10 w0 μ20 e1 e2) ?_
        generalize ixU u0 w0 μ20 = z at h2
        cases z with
        | ok c m2 => exact fun v2 H3 ρ3 t3 q3 => h2 v2 H3 ρ3 ((t1.trans t2).trans t3) q3
        | ex c m2 => exact fun cls H3 ρ3 t3 e => h2 cls H3 ρ3 ((t1.trans t2).trans t3) e
        | bad => exact h2

/-! ### slices -/
abbrev FO := Slots → Mem → Res (Option Int)
def WO (X : Cx) (e : Option Expr) : TO := fun σ H Q => ∃ t, PO X e t ∧ t σ H Q
theorem po_w {e : Option Expr} : PO X e (WO X e) := ⟨fun pins s σ H Q I ⟨_, h, q⟩ => h.run pins s σ H Q I q⟩
def CO (X : Cx) (W : WX) (e : Option Expr) (m : FO) : Prop := ∀ ρ μ s σ H Q, RepS X.K H ρ s σ → RepM X.K H ρ μ → Post X W σ relO ρ H (m s μ) Q → WO X e σ H Q
def oNone : FO := fun _ μ => .ok none μ
def oSome (a : FE) : FO := fun s μ => (a s μ).bind fun u μ1 => match u with
  | .int i => .ok (some i) μ1
  | _ => .bad
theorem co_none : CO X W none oNone := fun ρ μ s σ H Q hs hm h => ⟨_, po_none, h.ok (Stp.refl hm) rfl⟩
theorem co_some {e : Expr} {me : FE} (he : CE X W e me) : CO X W (some e) (oSome me) := by
  intro ρ μ s σ H Q hs hm h
  refine ⟨_, po_some pe_w, ?_⟩
  refine he ρ μ s σ H _ hs hm (h.bind fun u μ1 x H1 ρ1 t1 r1 h1 => ?_)
  split at h1
  · cases r1
    exact ⟨_, rfl, h1.ok (Stp.refl t1.mem) rfl⟩
  · exact h1.elim
def SlW (X : Cx) : V → Option Int → Option Int → Hp → VK → Prop := fun x lo hi H Q => ∃ r, SlR X r ∧ r x lo hi H Q
theorem sl_w : SlR X (SlW X) := fun pins s σ H x v vl vu lo hi sl Q I rx hs pl pu ⟨_, h, q⟩ => h pins s σ H x v vl vu lo hi sl Q I rx hs pl pu q
def cutU {α : Type} (xs : List α) (lo hi : Option Int) : List α := (xs.drop (HT.sIx xs.length 0 lo)).take (HT.sIx xs.length xs.length hi - HT.sIx xs.length 0 lo)
theorem RepVs.cut {K : PySem.W.Frag} {H : Hp} {ρ : List Addr} {us : List U} {vs : List V} (r : RepVs K H ρ us vs) (lo hi : Option Int) : RepVs K H ρ (cutU us lo hi) (cutV vs lo hi) := by
  unfold cutU cutV
  rw [r.length]
  exact (r.drop _).take _
def slU (u : U) (lo hi : Option Int) (μ : Mem) : Res U := match u with
  | .str z => if z.length ≤ lim then .ok (.str (cutS z lo hi)) μ else .bad
  | .tup us => .ok (.tup (cutU us lo hi)) μ
  | u => match lstU μ u with
    | some us => .ok (.ref μ.length) (μ ++ [.lst (cutU us lo hi)])
    | none => .bad
def fSl (a : FE) (lo hi : FO) : FE := fun s μ => (a s μ).bind fun u μ1 => (lo s μ1).bind fun l μ2 => (hi s μ2).bind fun h μ3 => slU u l h μ3
theorem strOk_cut {z : Str} (h : PyData.strOk z = true) (lo hi : Option Int) : PyData.strOk (cutS z lo hi) = true := by
  unfold PyData.strOk at *
  rw [Array.all_eq_true'] at *
  intro x hx
  apply h x
  have h1 : x ∈ (z.cps.toList.drop (HT.sIx z.length 0 lo)).take (HT.sIx z.length z.length hi - HT.sIx z.length 0 lo) := by simpa [cutS] using hx
  exact Array.mem_toList_iff.mp (List.mem_of_mem_drop (List.mem_of_mem_take h1))
theorem cut_whole {α : Type} {xs : List α} {lo hi : Option Int} (h : HT.sIx xs.length 0 lo = 0 ∧ HT.sIx xs.length xs.length hi = xs.length) : cutU xs lo hi = xs := by
  unfold cutU
  rw [h.1, h.2, List.drop_zero, Nat.sub_zero, List.take_length]
theorem ce_slice {e : Expr} {lo hi : Option Expr} {me : FE} {ml mh : FO} {p2 pos : Pos} (he : CE X W e me) (hl : CO X W lo ml) (hh : CO X W hi mh) : CE X W (.Subscript e (.Slice lo hi none p2) pos) (fSl me ml mh) := by
  intro ρ μ s σ H Q hs hm h
  refine ⟨_, pe_slice sl_w pe_w po_w po_w, ?_⟩
  refine he ρ μ s σ H _ hs hm (h.bind fun u μ1 x H1 ρ1 t1 r1 h1 => ?_)
  refine hl ρ1 μ1 s σ H1 _ (t1.s hs) t1.mem (h1.bind fun a μ2 a' H2 ρ2 t2 r2 h2 => ?_)
  refine hh ρ2 μ2 s σ H2 _ (t2.s (t1.s hs)) t2.mem (h2.bind fun b μ3 b' H3 ρ3 t3 r3 h3 => ?_)
  cases r2
  cases r3
  have r4 := t3.v (t2.v r1)
  unfold slU at h3
  split at h3
  · cases r4 with
    | str hz =>
      split at h3
      · exact ⟨_, sl_str, _, rfl, lim_le (by assumption), h3.ok (Stp.refl t3.mem) (.str (strOk_cut hz _ _))⟩
      · exact h3.elim
  · cases r4 with
    | tup hs4 hr4 =>
      refine ⟨_, sl_tupA, _, _, rfl, hs4, fun c => ?_, fun c p np => h3.ok (Stp.temp t3.mem np) (newT np (hr4.cut _ _))⟩
      rw [← hr4.length] at c
      rw [cut_whole c] at h3
      exact h3.ok (Stp.refl t3.mem) (.tup hs4 hr4)
  · split at h3
    · rename_i us e1
      obtain ⟨p, vs, rfl, q1, r5⟩ := lstU_ok t3.mem r4 e1
      exact ⟨_, sl_list, _, _, rfl, q1, fun p np => h3.ok (newL t3.mem np (r5.cut _ _)) (refN t3.mem)⟩
    · exact h3.elim

/-! ### in -/
def inU (u w : U) (μ : Mem) : Option Bool := match w with
  | .str z => match u with
    | .str x => some (!(Builtin.Str.occurrences z x 0 z.length 1).isEmpty)
    | _ => none
  | w => match dctU μ w with
    | some kus => match keyU u with
      | some k => some (valU kus k).isSome
      | none => none
    | none => match seqU μ w with
      | some us => match datU μ u, toDs (refD μ 6) us with
        | some d, some ds => if d.depth ≤ 700 then some (ds.any fun y => PyData.eqv y d) else none
        | _, _ => none
      | none => none
def uIn (u w : U) (μ : Mem) : Res U := resB (inU u w μ) μ
def uNin (u w : U) (μ : Mem) : Res U := resB ((inU u w μ).map not) μ
def rInL (K : PySem.W.Frag) (neg : Bool) : R2 := fun x y H Q => ∃ d p xs ds, Dp K H x d ∧ y = .ref p ∧ (SqL K H p xs ∨ SqT K H p xs) ∧ DpAll K H xs ds ∧ d.canLay0 = true ∧ PyData.canLayAll0 ds = true ∧ d.depth ≤ 700 ∧ Q (.bl (if neg then !ds.any fun z => PyData.eqv z d else ds.any fun z => PyData.eqv z d)) H
theorem op_inL (hu : X.A.units + 800 < cLine) : OpR X (compareOp .In) (rInL X.K false) := by
  intro pins s σ H x y v u Q I rx ry h
  obtain ⟨d, p, xs, ds, hd, rfl, hq, he, sd, se, hl, q⟩ := h
  obtain ⟨as, r1⟩ := Dp.reads I d x v hd rx
  have hroom : X.A.units + 1 + min (PyData.depthAll ds) d.depth < cLine := by
    have h2 : min (PyData.depthAll ds) d.depth ≤ d.depth := Nat.min_le_right _ _
    omega
  rcases hq with hq | hq
  · obtain ⟨bs, r2⟩ := Dp.reads I (.list ds) (.ref p) u (.lst hq he) ry
    exact SeqAt.in_list_reads r2 r1 se sd hroom ⟨.bl _, H, I, rfl, q⟩
  · obtain ⟨bs, r2⟩ := Dp.reads I (.tuple ds) (.ref p) u (.tup hq he) ry
    exact SeqAt.in_tuple_reads r2 r1 se sd hroom ⟨.bl _, H, I, rfl, q⟩
theorem op_ninL (hu : X.A.units + 800 < cLine) : OpR X (compareOp .NotIn) (rInL X.K true) := by
  intro pins s σ H x y v u Q I rx ry h
  obtain ⟨d, p, xs, ds, hd, rfl, hq, he, sd, se, hl, q⟩ := h
  obtain ⟨as, r1⟩ := Dp.reads I d x v hd rx
  have hroom : X.A.units + 1 + min (PyData.depthAll ds) d.depth < cLine := by
    have h2 : min (PyData.depthAll ds) d.depth ≤ d.depth := Nat.min_le_right _ _
    omega
  rcases hq with hq | hq
  · obtain ⟨bs, r2⟩ := Dp.reads I (.list ds) (.ref p) u (.lst hq he) ry
    exact SeqAt.notIn_list_reads r2 r1 se sd hroom ⟨.bl _, H, I, rfl, q⟩
  · obtain ⟨bs, r2⟩ := Dp.reads I (.tuple ds) (.ref p) u (.tup hq he) ry
    exact SeqAt.notIn_tuple_reads r2 r1 se sd hroom ⟨.bl _, H, I, rfl, q⟩
/-- in a dict, by values -/
theorem op_inDc (hu : X.A.units + 1 < cLine) : OpR X (compareOp .In) (fun x y H Q => ∃ a o, y = .ref a ∧ DGet H a x o ∧ Q (.bl o.isSome) H) := by
  intro pins s σ H x y v u Q I rx ry h
  obtain ⟨a, o, rfl, g, q⟩ := h
  cases ry
  exact d_in hu I g rx fun s3 I3 => ⟨.bl o.isSome, H, I3, rfl, q⟩
theorem op_ninDc (hu : X.A.units + 1 < cLine) : OpR X (compareOp .NotIn) (fun x y H Q => ∃ a o, y = .ref a ∧ DGet H a x o ∧ Q (.bl (!o.isSome)) H) := by
  intro pins s σ H x y v u Q I rx ry h
  obtain ⟨a, o, rfl, g, q⟩ := h
  cases ry
  exact d_notIn hu I g rx fun s3 I3 => ⟨.bl (!o.isSome), H, I3, rfl, q⟩
theorem dct_at {K : PySem.W.Frag} {ρ : List Addr} {μ : Mem} {H : Hp} {u : U} {x : V} {kus : List (Key × U)} (hm : RepM K H ρ μ) (ru : RepV K H ρ u x) (hd : dctU μ u = some kus) : ∃ a kvs, x = .ref a ∧ H a = some (.dK kvs) ∧ RepKV K H ρ kus kvs := by
  cases ru with
  | ref hr =>
    rename_i i a
    have e1 : μ[i]? = some (.dct kus) := by
      unfold dctU at hd
      simp only at hd
      split at hd
      · cases hd; assumption
      · cases hd
    obtain ⟨kvs, q1, r1⟩ := dct_of hm hr e1
    exact ⟨a, kvs, rfl, q1, r1⟩
  | _ => simp [dctU] at hd
def InV (K : PySem.W.Frag) (H : Hp) (x y : V) (b : Bool) : Prop :=
  (∃ d p xs ds, Dp K H x d ∧ y = .ref p ∧ (SqL K H p xs ∨ SqT K H p xs) ∧ DpAll K H xs ds ∧ d.canLay0 = true ∧ PyData.canLayAll0 ds = true ∧ d.depth ≤ 700 ∧ b = ds.any fun z => PyData.eqv z d) ∨
  (∃ a o, y = .ref a ∧ DGet H a x o ∧ b = o.isSome) ∨ ∃ i j, x = .str i ∧ y = .str j ∧ b = !(Builtin.Str.occurrences j i 0 j.length 1).isEmpty
theorem in_ok {K : PySem.W.Frag} {H : Hp} {ρ : List Addr} {μ : Mem} {u w : U} {x y : V} {b : Bool} (hm : RepM K H ρ μ) (ru : RepV K H ρ u x) (rw' : RepV K H ρ w y) (e : inU u w μ = some b) : InV K H x y b := by
  have main : ∀ w' : U, w' = w → (match dctU μ w' with
    | some kus => match keyU u with
      | some k => some (valU kus k).isSome
      | none => none
    | none => match seqU μ w' with
      | some us => match datU μ u, toDs (refD μ 6) us with
        | some d, some ds => if d.depth ≤ 700 then some (ds.any fun y => PyData.eqv y d) else none
        | _, _ => none
      | none => none) = some b → InV K H x y b := by
    intro w' ew h
    subst ew
    cases hd : dctU μ w' with
    | some kus =>
      rw [hd] at h
      simp only at h
      obtain ⟨a, kvs, rfl, q1, r1⟩ := dct_at hm rw' hd
      cases ek : keyU u with
      | none => rw [ek] at h; cases h
      | some k =>
        rw [ek] at h
        cases h
        refine .inr (.inl ⟨a, valV kvs k, rfl, ?_, ?_⟩)
        · rw [keyU_ok ru ek]; exact DGet.k q1
        · cases ev : valU kus k with
          | none => rw [r1.val.2 ev]; rfl
          | some z => obtain ⟨v, q2, _⟩ := r1.val.1 z ev; rw [q2]; rfl
    | none =>
      rw [hd] at h
      simp only at h
      cases es : seqU μ w' with
      | none => rw [es] at h; cases h
      | some us =>
        rw [es] at h
        simp only at h
        obtain ⟨a, vs, rfl, q, r⟩ := seqU_ok hm rw' es
        cases e1 : datU μ u with
        | none => rw [e1] at h; cases h
        | some d =>
          cases e2 : toDs (refD μ 6) us with
          | none => rw [e1, e2] at h; cases h
          | some ds =>
            rw [e1, e2] at h
            simp only at h
            obtain ⟨a1, a2⟩ := datU_ok hm ru e1
            obtain ⟨b1, b2⟩ := toDs_ok (refD_ok hm 6) us vs ds r e2
            split at h
            · cases h
              exact .inl ⟨d, a, vs, ds, a1, rfl, q, b1, a2, b2, by assumption, rfl⟩
            · cases h
  cases w with
  | str z =>
    cases rw'
    cases u with
    | str s =>
      cases ru
      simp only [inU, Option.some.injEq] at e
      exact .inr (.inr ⟨s, z, rfl, rfl, e.symm⟩)
    | _ => simp [inU] at e
  | non => exact main _ rfl e
  | bl b => exact main _ rfl e
  | int b => exact main _ rfl e
  | tup b => exact main _ rfl e
  | ref b => exact main _ rfl e
  | frl b => exact main _ rfl e
theorem os_in (G : Good X W (k + 40)) : OpS X W (compareOp .In) uIn := by
  intro ρ μ σ H u w x y Q hm ru rw' h
  unfold uIn at h
  cases e : inU u w μ with
  | none => rw [e] at h; exact h.elim
  | some b =>
    rw [e] at h
    have q := h.ok (Stp.refl hm) (RepV.bl (b := b))
    rcases in_ok hm ru rw' e with ⟨d, p, xs, ds, a1, a2, a3, a4, a5, a6, a7, rfl⟩ | ⟨a, o, a1, a2, rfl⟩ | ⟨i, j, a1, a2, rfl⟩
    · exact ⟨_, op_inL G.un, d, p, xs, ds, a1, a2, a3, a4, a5, a6, a7, q⟩
    · exact ⟨_, op_inDc G.hu, a, o, a1, a2, q⟩
    · exact ⟨_, op_in_str, i, j, a1, a2, q⟩
theorem os_nin (G : Good X W (k + 40)) : OpS X W (compareOp .NotIn) uNin := by
  intro ρ μ σ H u w x y Q hm ru rw' h
  unfold uNin at h
  cases e : inU u w μ with
  | none => rw [e] at h; exact h.elim
  | some b =>
    rw [e] at h
    have q := h.ok (Stp.refl hm) (RepV.bl (b := !b))
    rcases in_ok hm ru rw' e with ⟨d, p, xs, ds, a1, a2, a3, a4, a5, a6, a7, rfl⟩ | ⟨a, o, a1, a2, rfl⟩ | ⟨i, j, a1, a2, rfl⟩
    · exact ⟨_, op_ninL G.un, d, p, xs, ds, a1, a2, a3, a4, a5, a6, a7, q⟩
    · exact ⟨_, op_ninDc G.hu, a, o, a1, a2, q⟩
    · exact ⟨_, op_notin_str, i, j, a1, a2, q⟩

/-! ### isinstance of a built-in class -/
def tyU (μ : Mem) : U → Option String
  | .non => some "NoneType"
  | .bl _ => some "bool"
  | .int _ => some "int"
  | .str _ => some "str"
  | .tup _ => some "tuple"
  | .ref i => match μ[i]? with
    | some (.lst _) => some "list"
    | some (.dct _) => some "dict"
    | none => none
  | .frl _ => some "list"
theorem tyU_ok {K : PySem.W.Frag} {H : Hp} {ρ : List Addr} {μ : Mem} (hm : RepM K H ρ μ) {u : U} {v : V} {t : String} (r : RepV K H ρ u v) (e : tyU μ u = some t) : TyX K H v (.type t) := by
  cases r with
  | non => cases e; exact .base .non
  | bl => cases e; exact .base (.bl _)
  | int => cases e; exact .base (.int _)
  | str _ => cases e; exact .base (.str _)
  | tup hs _ =>
    cases e
    rcases hs with (h | ⟨o, h⟩) | ⟨o, its, n, h, c, _⟩
    · exact .base (.tup h)
    · exact .fTuple h
    · exact .kTuple h c
  | ref hr =>
    obtain ⟨c, hc, rc⟩ := hm.at hr
    simp only [tyU, hc] at e
    cases c with
    | lst us => obtain ⟨vs, q, _⟩ := rc; cases e; exact .base (.lst q)
    | dct us => obtain ⟨vs, q, _⟩ := rc; cases e; exact .base (.dK q)
  | frl hs _ =>
    cases e
    rcases hs with ⟨o, h⟩ | ⟨o, its, n, h, c, _⟩
    · exact .base (.frz h)
    · exact .kList h c
def isTy (T : String) (t : String) : Bool := t == T || (T == "int" && t == "bool")
def fIsi (T : String) (a : FE) : FE := fun s μ => (a s μ).bind fun u μ1 => match tyU μ1 u with
  | some t => .ok (.bl (isTy T t)) μ1
  | none => .bad
theorem kitK {K : PySem.W.Frag} {T : String} (hT : ∀ t ∈ ["NoneType", "bool", "int", "str", "tuple", "list", "dict"], kitB t T = some (isTy T t)) {μ : Mem} {u : U} {t : String} (e : tyU μ u = some t) : PySem.W.kitOne K (.type t) (.type T) = some (isTy T t) := by
  apply kit_ty
  apply hT
  cases u with
  | ref i =>
    simp only [tyU] at e
    split at e <;> first | (cases e; simp) | cases e
  | _ => cases e; simp
theorem ce_isi {T : String} {x : Str} {a : Expr} {ma : FE} {p p2 pos : Pos} (hT : ∀ t ∈ ["NoneType", "bool", "int", "str", "tuple", "list", "dict"], kitB t T = some (isTy T t)) (ha : CE X W a ma)
    (hT2 : PE X (.Name x p2) (tC (.ty T)))
    (hp : ∀ {r : List V → Hp → VK → Prop} {t : TA}, CallR X (.builtin "isinstance") r → PA X [a, .Name x p2] t → PE X (.Call (.Name "isinstance" p) [a, .Name x p2] [] pos) (tCB r t))
    (hs1 : starEach [a, .Name x p2] X.env = (false, eval a X.env) :: starEach [.Name x p2] X.env := by rfl) (hs2 : starEach [.Name x p2] X.env = (false, eval (.Name x p2) X.env) :: starEach [] X.env := by rfl) :
    CE X W (.Call (.Name "isinstance" p) [a, .Name x p2] [] pos) (fIsi T ma) := by
  intro ρ μ s σ H Q hs hm h
  refine ⟨_, hp call_isi (pa_cons pe_w (pa_cons hT2 pa_nil hs2) hs1), ?_⟩
  refine ha ρ μ s σ H _ hs hm (h.bind fun u μ1 v H1 ρ1 t1 r1 h1 => ?_)
  cases e : tyU μ1 u with
  | none => rw [e] at h1; exact h1.elim
  | some t =>
    rw [e] at h1
    exact ⟨v, .ty T, .type t, .type T, isTy T t, rfl, .ty T, tyU_ok t1.mem r1 e, kitK hT e, h1.ok (Stp.refl t1.mem) .bl⟩

/-! ### methods of lists -/
def MtW (X : Cx) (id : String) : V → List V → Hp → VK → Prop := fun x vs H Q => ∃ r, MtR X id r ∧ r x vs H Q
theorem mt_w {id : String} : MtR X id (MtW X id) := fun pins s σ H x xs v us Q I rx rxs ⟨_, h, q⟩ => h pins s σ H x xs v us Q I rx rxs q
def fMt (g : U → List U → Mem → Res U) (o : FE) (a : FA) : FE := fun s μ => (o s μ).bind fun u μ1 => (a s μ1).bind fun us μ2 => g u us μ2
/-- the receiver is known to be a list ahead of the arguments -/
def fMtL (g : U → List U → Mem → Res U) (o : FE) (a : FA) : FE := fun s μ => (o s μ).bind fun u μ1 => match lstU μ1 u with
  | some _ => (a s μ1).bind fun us μ2 => g u us μ2
  | none => .bad
def MtS (X : Cx) (W : WX) (id : String) (g : U → List U → Mem → Res U) : Prop := ∀ ρ μ σ H u us x vs Q, RepM X.K H ρ μ → RepV X.K H ρ u x → RepVs X.K H ρ us vs → Post X W σ relV ρ H (g u us μ) Q → MtW X id x vs H Q
theorem ce_mtL {id : String} {name : Str} {o e : Expr} {es : List Expr} {mo : FE} {ma : FA} {g : U → List U → Mem → Res U} {apos cpos : Pos} (hg : MtS X W id g) (ho : CE X W o mo) (ha : CA X W (e :: es) ma)
    (hp : ∀ {r : V → List V → Hp → VK → Prop} {to : TE} {t : TA}, MtR X id r → PE X o to → PA X (e :: es) t → PE X (.Call (.Attribute o name apos) (e :: es) [] cpos) (tBM X.K "list" r to t)) : CE X W (.Call (.Attribute o name apos) (e :: es) [] cpos) (fMtL g mo ma) := by
  intro ρ μ s σ H Q hs hm h
  refine ⟨_, hp mt_w pe_w pa_w, ?_⟩
  refine ho ρ μ s σ H _ hs hm (h.bind fun u μ1 x H1 ρ1 t1 r1 h1 => ?_)
  split at h1
  · rename_i us e
    obtain ⟨a, vs, rfl, q, _⟩ := lstU_ok t1.mem r1 e
    refine ⟨.inl ⟨rfl, vs, q⟩, ?_⟩
    exact ha ρ1 μ1 s σ H1 _ (t1.s hs) t1.mem (h1.bind fun us μ2 vs H2 ρ2 t2 r2 h2 => hg ρ2 μ2 σ H2 u us _ vs Q t2.mem (t2.v r1) r2 h2)
  · exact h1.elim
theorem ce_mtL0 {id : String} {name : Str} {o : Expr} {mo : FE} {g : U → List U → Mem → Res U} {apos cpos : Pos} (hg : MtS X W id g) (ho : CE X W o mo)
    (hp : ∀ {r : V → List V → Hp → VK → Prop} {to : TE}, MtR X id r → PE X o to → PE X (.Call (.Attribute o name apos) [] [] cpos) (tBM0 X.K "list" r to)) : CE X W (.Call (.Attribute o name apos) [] [] cpos) (fMtL g mo aNil) := by
  intro ρ μ s σ H Q hs hm h
  refine ⟨_, hp mt_w pe_w, ?_⟩
  refine ho ρ μ s σ H _ hs hm (h.bind fun u μ1 x H1 ρ1 t1 r1 h1 => ?_)
  split at h1
  · rename_i us e
    obtain ⟨a, vs, rfl, q, _⟩ := lstU_ok t1.mem r1 e
    exact ⟨.inl ⟨rfl, vs, q⟩, hg ρ1 μ1 σ H1 u [] _ [] Q t1.mem r1 .nil h1⟩
  · exact h1.elim
def gAppend (u : U) (us : List U) (μ : Mem) : Res U := match u, us with
  | .ref i, [w] => match μ[i]? with
    | some (.lst xs) => if xs.length < lim then .ok .non (μ.set i (.lst (xs ++ [w]))) else .bad
    | _ => .bad
  | _, _ => .bad
theorem gs_append : MtS X W "list.append" gAppend := by
  intro ρ μ σ H u us x vs Q hm ru rus h
  unfold gAppend at h
  split at h
  · split at h
    · rename_i e
      split at h
      · cases ru with
        | ref hr =>
          cases rus with
          | cons r1 r2 =>
            cases r2
            obtain ⟨ws, q, rr⟩ := lst_of hm hr e
            exact ⟨_, mt_append, _, ws, _, rfl, rfl, q, by rw [← rr.length]; exact lim_lt (by assumption), h.ok (putL hm hr e (rr.append (.one r1))) .non⟩
      · exact h.elim
    · exact h.elim
  · exact h.elim
def gExtend (u : U) (us : List U) (μ : Mem) : Res U := match u, us with
  | .ref i, [.ref j] => match μ[i]?, μ[j]? with
    | some (.lst xs), some (.lst ys) => if xs.length + ys.length ≤ lim then .ok .non (μ.set i (.lst (xs ++ ys))) else .bad
    | _, _ => .bad
  | _, _ => .bad
theorem gs_extend : MtS X W "list.extend" gExtend := by
  intro ρ μ σ H u us x vs Q hm ru rus h
  unfold gExtend at h
  split at h
  · split at h
    · rename_i e e2
      split at h
      · cases ru with
        | ref hr =>
          cases rus with
          | cons r1 r2 =>
            cases r2
            cases r1 with
            | ref hr2 =>
              obtain ⟨ws, q, rr⟩ := lst_of hm hr e
              obtain ⟨zs, q2, rr2⟩ := lst_of hm hr2 e2
              exact ⟨_, mt_extend, _, _, ws, zs, rfl, rfl, q, q2, by rw [← rr.length, ← rr2.length]; exact lim_le (by assumption), h.ok (putL hm hr e (rr.append rr2)) .non⟩
      · exact h.elim
    · exact h.elim
  · exact h.elim
theorem RepVs.dropLast {K : PySem.W.Frag} {H : Hp} {ρ : List Addr} {us : List U} {vs : List V} (r : RepVs K H ρ us vs) : RepVs K H ρ us.dropLast vs.dropLast := by
  rw [List.dropLast_eq_take, List.dropLast_eq_take, r.length]
  exact r.take _
def gPop (u : U) (us : List U) (μ : Mem) : Res U := match u, us with
  | .ref i, [] => match μ[i]? with
    | some (.lst xs) => match xs[xs.length - 1]? with
      | some w => .ok w (μ.set i (.lst xs.dropLast))
      | none => .bad
    | _ => .bad
  | _, _ => .bad
theorem gs_pop : MtS X W "list.pop" gPop := by
  intro ρ μ σ H u us x vs Q hm ru rus h
  unfold gPop at h
  split at h
  · split at h
    · rename_i xs e
      split at h
      · rename_i w e2
        cases ru with
        | ref hr =>
          cases rus
          obtain ⟨ws, q, rr⟩ := lst_of hm hr e
          obtain ⟨z, q2, r2⟩ := rr.get e2
          have t := putL hm hr e rr.dropLast
          exact ⟨_, mt_pop, _, ws, z, rfl, rfl, q, by rw [← rr.length]; exact q2, h.ok t (t.v r2)⟩
      · exact h.elim
    · exact h.elim
  · exact h.elim
theorem RepVs.eraseIdx {K : PySem.W.Frag} {H : Hp} {ρ : List Addr} : ∀ {us : List U} {vs : List V} (n : Nat), RepVs K H ρ us vs → RepVs K H ρ (us.eraseIdx n) (vs.eraseIdx n)
  | _, _, _, .nil => .nil
  | _, _, 0, .cons _ r => r
  | _, _, n + 1, .cons h r => .cons h (RepVs.eraseIdx n r)
def gPopAt (u : U) (us : List U) (μ : Mem) : Res U := match u, us with
  | .ref i, [.int n] => match μ[i]? with
    | some (.lst xs) => if -(2 ^ 63) ≤ n ∧ n < 2 ^ 63 then match seqIndex? n xs.length with
      | some j => match xs[j]? with
        | some w => .ok w (μ.set i (.lst (xs.eraseIdx j)))
        | none => .bad
      | none => .bad
      else .bad
    | _ => .bad
  | _, _ => .bad
theorem gs_popAt : MtS X W "list.pop" gPopAt := by
  intro ρ μ σ H u us x vs Q hm ru rus h
  unfold gPopAt at h
  split at h
  · split at h
    · rename_i xs e
      split at h
      · rename_i hz
        split at h
        · rename_i j ej
          split at h
          · rename_i w e2
            cases ru with
            | ref hr =>
              cases rus with
              | cons r1 r0 =>
                cases r0
                cases r1
                obtain ⟨ws, q, rr⟩ := lst_of hm hr e
                obtain ⟨z, q2, r2⟩ := rr.get e2
                have t := putL hm hr e (rr.eraseIdx j)
                exact ⟨_, mt_popAt, _, ws, _, j, z, rfl, rfl, q, hz.1, hz.2, by rw [← rr.length]; exact ej, q2, h.ok t (t.v r2)⟩
          · exact h.elim
        · exact h.elim
      · exact h.elim
    · exact h.elim
  · exact h.elim
end
end Dg
/-! Dg5: statements, loops, comprehensions, calls of defs, a def by its body. -/
namespace Dg
open PySem PySem.Spec PyProof.Rows L2 RZ

/-! ### what is wanted behind a statement -/
def PostS (X : Cx) (W : WX) (ρ : List Addr) (H : Hp) (o : Out) (D : Ends) : Prop := match o with
  | .nx s' μ' => ∀ σ' H' ρ', Stp X.K ρ H ρ' H' μ' → RepS X.K H' ρ' s' σ' → D.nx σ' H'
  | .rt u μ' => ∀ v H' ρ', Stp X.K ρ H ρ' H' μ' → RepV X.K H' ρ' u v → D.rt v H'
  | .bk s' μ' => ∀ σ' H' ρ', Stp X.K ρ H ρ' H' μ' → RepS X.K H' ρ' s' σ' → D.bk σ' H'
  | .ct s' μ' => ∀ σ' H' ρ', Stp X.K ρ H ρ' H' μ' → RepS X.K H' ρ' s' σ' → D.ct σ' H'
  | .ex c s' μ' => ∀ cls σ' H' ρ', Stp X.K ρ H ρ' H' μ' → RepS X.K H' ρ' s' σ' → X.mg c = some cls → W cls none σ' H'
  | .bad => False
def ofR {α : Type} (r : Res α) (s : Slots) (k : α → Mem → Out) : Out := match r with
  | .ok a μ => k a μ
  | .ex c μ => .ex c s μ
  | .bad => .bad
theorem PostS.from {X : Cx} {W : WX} {ρ ρ1 : List Addr} {H H1 : Hp} {μ1 : Mem} {o : Out} {D : Ends} (t : Stp X.K ρ H ρ1 H1 μ1) (h : PostS X W ρ H o D) : PostS X W ρ1 H1 o D := by
  cases o with
  | nx s m => exact fun σ' H' ρ' t' r => h σ' H' ρ' (t.trans t') r
  | rt u m => exact fun σ' H' ρ' t' r => h σ' H' ρ' (t.trans t') r
  | bk s m => exact fun σ' H' ρ' t' r => h σ' H' ρ' (t.trans t') r
  | ct s m => exact fun σ' H' ρ' t' r => h σ' H' ρ' (t.trans t') r
  | ex c s m => exact fun cls σ' H' ρ' t' r e => h cls σ' H' ρ' (t.trans t') r e
  | bad => exact h
theorem PostS.bind {α β : Type} {X : Cx} {W : WX} {σ : L2.St} {rel : RelT α β} {ρ : List Addr} {H : Hp} {r : Res α} {s : Slots} {k : α → Mem → Out} {D : Ends} {Q1 : β → Hp → Prop} (hs : RepS X.K H ρ s σ)
    (h : PostS X W ρ H (ofR r s k) D) (hk : ∀ a μ1 x H1 ρ1, Stp X.K ρ H ρ1 H1 μ1 → rel X.K H1 ρ1 a x → PostS X W ρ1 H1 (k a μ1) D → Q1 x H1) : Post X W σ rel ρ H r Q1 := by
  cases r with
  | ok a m =>
    intro v H' ρ' t q
    exact hk a m v H' ρ' t q (PostS.from t h)
  | ex c m => exact fun cls H' ρ' t e => h cls σ H' ρ' t (t.s hs) e
  | bad => exact h
/-- the same out, other ends behind -/
theorem PostS.ends {X : Cx} {W : WX} {ρ : List Addr} {H : Hp} {o : Out} {D D' : Ends} (h : PostS X W ρ H o D) (n : ∀ s m, o = .nx s m → PostS X W ρ H o D') (r : D'.rt = D.rt) (b : ∀ s m, o = .bk s m → PostS X W ρ H o D') (c : ∀ s m, o = .ct s m → PostS X W ρ H o D') : PostS X W ρ H o D' := by
  cases o with
  | nx s m => exact n s m rfl
  | rt u m => exact fun v H' ρ' t' q => by rw [r]; exact h v H' ρ' t' q
  | bk s m => exact b s m rfl
  | ct s m => exact c s m rfl
  | ex c s m => exact h
  | bad => exact h

def WS (X : Cx) (st : Stmt) : TS := fun D σ H => ∃ t, PS X st t ∧ t D σ H
theorem ps_w {X : Cx} {st : Stmt} : PS X st (WS X st) := ⟨fun pins s σ H D I ⟨_, h, q⟩ => h.run pins s σ H D I q⟩
def WSs (X : Cx) (st : List Stmt) : TS := fun D σ H => ∃ t, PSs X st t ∧ t D σ H
theorem pss_w {X : Cx} {st : List Stmt} : PSs X st (WSs X st) := ⟨fun pins s σ H D I ⟨_, h, q⟩ => h.run pins s σ H D I q⟩
def CS (X : Cx) (W : WX) (st : Stmt) (m : FS) : Prop := ∀ ρ μ s σ H D, RepS X.K H ρ s σ → RepM X.K H ρ μ → PostS X W ρ H (m s μ) D → WS X st D σ H
def CSs (X : Cx) (W : WX) (st : List Stmt) (m : FS) : Prop := ∀ ρ μ s σ H D, RepS X.K H ρ s σ → RepM X.K H ρ μ → PostS X W ρ H (m s μ) D → WSs X st D σ H

section
variable {X : Cx} {W : WX} {k : Nat}
def sNext : FS := fun s μ => .nx s μ
def sSeq (a b : FS) : FS := fun s μ => match a s μ with
  | .nx s1 μ1 => b s1 μ1
  | o => o
theorem css_nil : CSs X W [] sNext := fun ρ μ s σ H D hs hm h => ⟨_, pss_nil, h σ H ρ (Stp.refl hm) hs⟩
theorem css_cons {st : Stmt} {rest : List Stmt} {a b : FS} (ha : CS X W st a) (hb : CSs X W rest b) : CSs X W (st :: rest) (sSeq a b) := by
  intro ρ μ s σ H D hs hm h
  refine ⟨_, pss_cons ps_w pss_w, ?_⟩
  refine ha ρ μ s σ H _ hs hm ?_
  unfold sSeq at h
  cases e : a s μ with
  | nx s1 μ1 =>
    rw [e] at h
    intro σ' H' ρ' t r
    exact hb ρ' μ1 s1 σ' H' D r t.mem (PostS.from t h)
  | rt u m => rw [e] at h; exact h
  | bk u m => rw [e] at h; exact h
  | ct u m => rw [e] at h; exact h
  | ex c u m => rw [e] at h; exact h
  | bad => rw [e] at h; exact h
theorem css_one {st : Stmt} {a : FS} (ha : CS X W st a) : CSs X W [st] a := fun ρ μ s σ H D hs hm h => ⟨_, pss_one ps_w, ha ρ μ s σ H D hs hm h⟩
theorem cs_pass {pos : Pos} : CS X W (.Pass pos) sNext := fun ρ μ s σ H D hs hm h => ⟨_, ps_pass, h σ H ρ (Stp.refl hm) hs⟩
def sBrk : FS := fun s μ => .bk s μ
def sCnt : FS := fun s μ => .ct s μ
theorem cs_brk {pos : Pos} : CS X W (.Break pos) sBrk := fun ρ μ s σ H D hs hm h => ⟨_, ps_break, h σ H ρ (Stp.refl hm) hs⟩
theorem cs_cnt {pos : Pos} : CS X W (.Continue pos) sCnt := fun ρ μ s σ H D hs hm h => ⟨_, ps_continue, h σ H ρ (Stp.refl hm) hs⟩
def sExpr (a : FE) : FS := fun s μ => ofR (a s μ) s fun _ μ1 => .nx s μ1
theorem cs_expr {e : Expr} {me : FE} {pos : Pos} (he : CE X W e me) (hs0 : swapsWith e none pos.line X.env = pure false := by rfl) : CS X W (.Expr e pos) (sExpr me) := by
  intro ρ μ s σ H D hs hm h
  refine ⟨_, ps_expr pe_w hs0, ?_⟩
  exact he ρ μ s σ H _ hs hm (PostS.bind hs h fun u μ1 x H1 ρ1 t1 r1 h1 => h1 σ H1 ρ1 (Stp.refl t1.mem) (t1.s hs))
def sRet (a : FE) : FS := fun s μ => ofR (a s μ) s fun u μ1 => .rt u μ1
theorem cs_ret {e : Expr} {me : FE} {pos : Pos} (he : CE X W e me) : CS X W (.Return (some e) pos) (sRet me) := by
  intro ρ μ s σ H D hs hm h
  refine ⟨_, ps_ret pe_w, ?_⟩
  exact he ρ μ s σ H _ hs hm (PostS.bind hs h fun u μ1 x H1 ρ1 t1 r1 h1 => h1 x H1 ρ1 (Stp.refl t1.mem) r1)
def sRetN : FS := fun _ μ => .rt .non μ
theorem cs_retN {pos : Pos} : CS X W (.Return none pos) sRetN := fun ρ μ s σ H D hs hm h => ⟨_, ps_retN, h _ H ρ (Stp.refl hm) .non⟩
def sIf (t : FT) (a b : FS) : FS := fun s μ => ofR (t s μ) s fun c μ1 => match c with
  | true => a s μ1
  | false => b s μ1
theorem cs_if {c : Expr} {p q : List Stmt} {tc : FT} {a b : FS} {pos : Pos} (hc : CT X W c tc) (ha : CSs X W p a) (hb : CSs X W q b) : CS X W (.If c p q pos) (sIf tc a b) := by
  intro ρ μ s σ H D hs hm h
  refine ⟨_, ps_if pt_w pss_w pss_w, ?_⟩
  refine hc ρ μ s σ H _ hs hm (PostS.bind hs h fun b μ1 x H1 ρ1 t1 r1 h1 => ?_)
  cases r1
  cases b with
  | true => exact iteT (ha ρ1 μ1 s σ H1 D (t1.s hs) t1.mem h1)
  | false => exact iteF (hb ρ1 μ1 s σ H1 D (t1.s hs) t1.mem h1)

/-! ### targets -/
inductive Tgt where
  | one (i : Nat)
  | tup (is : List Nat)
def setAll : List Nat → List U → Slots → Slots
  | i :: is, u :: us, s => setAll is us (s.set i (some u))
  | _, _, s => s
def setT (g : Tgt) (u : U) (s : Slots) : Option Slots := match g, u with
  | .one i, u => some (s.set i (some u))
  | .tup is, .tup us => if us.length = is.length then some (setAll is us s) else none
  | _, _ => none
def WG (X : Cx) (tg : Expr) : TG := fun v σ H Q => ∃ t, PG X tg t ∧ t v σ H Q
theorem pg_w {tg : Expr} : PG X tg (WG X tg) := ⟨fun pins s σ H v u Q I r ⟨_, h, q⟩ => h.run pins s σ H v u Q I r q⟩
def inT (g : Tgt) (vs : List Nat) : Prop := match g with
  | .one i => i ∈ vs
  | .tup is => ∀ i ∈ is, i ∈ vs
/-- what is stored lies as the mirror's slots; only the slots of the target change -/
def CG (X : Cx) (tg : Expr) (g : Tgt) : Prop := ∀ ρ s σ H u v s' (Q : L2.St → Hp → Prop), RepS X.K H ρ s σ → RepV X.K H ρ u v → setT g u s = some s' →
  (∀ σ', RepS X.K H ρ s' σ' → (∀ vs : List Nat, inT g vs → wipe σ' vs = wipe σ vs) → Q σ' H) → WG X tg v σ H Q
theorem wipe_set {σ : L2.St} {i : Nat} {x : Option V} : ∀ {vs : List Nat}, i ∈ vs → wipe (σ.set i x) vs = wipe σ vs
  | v :: vs, h => by
    show (wipe (σ.set i x) vs).set v none = (wipe σ vs).set v none
    by_cases e : v = i
    · subst e
      by_cases hv : v ∈ vs
      · rw [wipe_set hv]
      · have key : ∀ (ws : List Nat), v ∉ ws → wipe (σ.set v x) ws = (wipe σ ws).set v x := by
          intro ws
          induction ws with
          | nil => intro _; rfl
          | cons w ws ih =>
            intro hw
            simp only [List.mem_cons, not_or] at hw
            show (wipe (σ.set v x) ws).set w none = ((wipe σ ws).set w none).set v x
            rw [ih hw.2]
            exact List.set_comm _ _ hw.1
        rw [key vs hv, List.set_set]
    · have hv : i ∈ vs := by
        rcases List.mem_cons.mp h with q | q
        · exact absurd q.symm e
        · exact q
      rw [wipe_set hv]
theorem wipe_wipe {σ : L2.St} : ∀ {vs ws : List Nat}, (∀ i ∈ ws, i ∈ vs) → wipe (wipe σ ws) vs = wipe σ vs
  | vs, [], _ => rfl
  | vs, w :: ws, h => by
    show wipe ((wipe σ ws).set w none) vs = wipe σ vs
    rw [wipe_set (h w (by simp)), wipe_wipe (ws := ws) fun i hi => h i (by simp [hi])]
theorem cg_one {i : Nat} {x : Str} {pos : Pos} (hN : X.N.Nodup) (hi : X.N[i]? = some x) (hx : Loc X.env.scope x) (hf : X.fn x = true ∨ X.env.scope.names.lookup x = some .local := by first | exact .inl rfl | exact .inr rfl | assumption) : CG X (.Name x pos) (.one i) := by
  intro ρ s σ H u v s' Q hs r e h
  refine ⟨_, pg_name hN hi hx hf, ?_⟩
  cases e
  exact h _ (hs.set r) fun vs hv => wipe_set hv
/-- several names -/
def WGs (X : Cx) (ts : List Expr) : TGs := fun vs σ H Q => ∃ t, PGs X ts t ∧ t vs σ H Q
theorem pgs_w {ts : List Expr} : PGs X ts (WGs X ts) := ⟨fun pins s σ H vs us Q I r ⟨_, h, q⟩ => h.run pins s σ H vs us Q I r q⟩
def CGs (X : Cx) (ts : List Expr) (is : List Nat) : Prop := ∀ ρ s σ H us vs (Q : L2.St → Hp → Prop), RepS X.K H ρ s σ → RepVs X.K H ρ us vs → us.length = is.length →
  (∀ σ', RepS X.K H ρ (setAll is us s) σ' → (∀ ws : List Nat, (∀ i ∈ is, i ∈ ws) → wipe σ' ws = wipe σ ws) → Q σ' H) → WGs X ts vs σ H Q
theorem cgs_nil : CGs X [] [] := by
  intro ρ s σ H us vs Q hs r hl h
  refine ⟨_, pgs_nil, ?_⟩
  cases r with
  | nil => exact ⟨rfl, h σ hs fun _ _ => rfl⟩
  | cons _ _ => simp at hl
theorem cgs_cons {e : Expr} {es : List Expr} {i : Nat} {is : List Nat} (h1 : CG X e (.one i)) (h2 : CGs X es is) (hs0 : (assignEach (e :: es) X.env).map (·.2) = assign e X.env :: (assignEach es X.env).map (·.2) := by rfl) : CGs X (e :: es) (i :: is) := by
  intro ρ s σ H us vs Q hs r hl h
  refine ⟨_, pgs_cons pg_w pgs_w hs0, ?_⟩
  cases r with
  | nil => simp at hl
  | cons r1 r2 =>
    refine ⟨_, _, rfl, ?_⟩
    refine h1 ρ s σ H _ _ _ _ hs r1 rfl fun σ' hs' hw => ?_
    refine h2 ρ _ σ' H _ _ Q hs' r2 (by simpa using hl) fun σ2 hs2 hw2 => ?_
    exact h σ2 hs2 fun ws hws => (hw2 ws fun j hj => hws j (by simp [hj])).trans (hw ws (hws i (by simp)))
theorem cg_tup {es : List Expr} {is : List Nat} {j : Nat} {pos : Pos} (hc : X.calm = true) (h : CGs X es is) (hn : (assignEach es X.env).length = is.length := by rfl) (hst : (assignEach es X.env).findIdx? (·.1) = none := by rfl) : CG X (.Tuple es j pos) (.tup is) := by
  intro ρ s σ H u v s' Q hs r e q
  refine ⟨_, pg_tup hc pgs_w hn hst, ?_⟩
  cases r with
  | tup hs1 hr1 =>
    simp only [setT] at e
    split at e
    · rename_i hl
      cases e
      exact ⟨_, _, rfl, hs1, by rw [← hr1.length]; exact hl, h ρ s σ H _ _ Q hs hr1 hl fun σ' hs' hw => q σ' hs' hw⟩
    · cases e
  | _ => simp [setT] at e
/-- x = e; a, b = e -/
def sAsg (g : Tgt) (a : FE) : FS := fun s μ => ofR (a s μ) s fun u μ1 => match setT g u s with
  | some s1 => .nx s1 μ1
  | none => .bad
theorem cs_asg {tg e : Expr} {g : Tgt} {me : FE} {pos : Pos} (he : CE X W e me) (hg : CG X tg g) (hp : ∀ {te : TE} {gt : TG}, PE X e te → PG X tg gt → PS X (.Assign [tg] e pos) (tAsg te gt)) : CS X W (.Assign [tg] e pos) (sAsg g me) := by
  intro ρ μ s σ H D hs hm h
  refine ⟨_, hp pe_w pg_w, ?_⟩
  refine he ρ μ s σ H _ hs hm (PostS.bind hs h fun u μ1 x H1 ρ1 t1 r1 h1 => ?_)
  cases es : setT g u s with
  | none => rw [es] at h1; exact h1.elim
  | some s1 =>
    rw [es] at h1
    exact hg ρ1 s σ H1 u x s1 _ (t1.s hs) r1 es fun σ' hs' _ => h1 σ' H1 ρ1 (Stp.refl t1.mem) hs'
theorem cs_set {i : Nat} {x : Str} {e : Expr} {me : FE} {pos pos' : Pos} (hN : X.N.Nodup) (hi : X.N[i]? = some x) (hx : Loc X.env.scope x) (he : CE X W e me) (hs0 : swapsWith e (some (.Name x pos')) pos.line X.env = pure false := by rfl)
    (hf : X.fn x = true ∨ X.env.scope.names.lookup x = some .local := by first | exact .inl rfl | exact .inr rfl | assumption) : CS X W (.Assign [.Name x pos'] e pos) (sAsg (.one i) me) := by
  intro ρ μ s σ H D hs hm h
  refine ⟨_, ps_set hN hi hx pe_w hs0 hf, ?_⟩
  exact he ρ μ s σ H _ hs hm (PostS.bind hs h fun u μ1 x H1 ρ1 t1 r1 h1 => h1 _ H1 ρ1 (Stp.refl t1.mem) ((t1.s hs).set r1))
/-- a, b = e1, e2 -/
def sPar (i j : Nat) (a b : FE) : FS := fun s μ => ofR (a s μ) s fun u μ1 => ofR (b s μ1) s fun w μ2 => .nx ((s.set i (some u)).set j (some w)) μ2

/-! ### o[i] = e, d[k] = e -/
def stU (o i u : U) (μ : Mem) : Option Mem := match o with
  | .ref r => match μ[r]? with
    | some (.lst xs) => match i with
      | .int n => match ixN xs.length n with
        | some j => some (μ.set r (.lst (xs.set j u)))
        | none => none
      | _ => none
    | some (.dct kus) => match keyU i with
      | some k => if kus.length < lim then some (μ.set r (.dct (putU kus k u))) else none
      | none => none
    | _ => none
  | _ => none
def sStore (o i a : FE) : FS := fun s μ => ofR (a s μ) s fun u μ1 => ofR (o s μ1) s fun x μ2 => ofR (i s μ2) s fun y μ3 => match stU x y u μ3 with
  | some μ4 => .nx s μ4
  | none => .bad
theorem cs_store {o i e : Expr} {mo mi me : FE} {pos pos' : Pos} (G : Good X W (k + 40)) (ho : CE X W o mo) (hi : CE X W i mi) (he : CE X W e me)
    (h1 : ∀ {to ti te : TE}, PE X o to → PE X i ti → PE X e te → PS X (.Assign [.Subscript o i pos'] e pos) (tAsg te (gSub to ti rSetL)))
    (h2 : ∀ {to ti te : TE}, PE X o to → PE X i ti → PE X e te → PS X (.Assign [.Subscript o i pos'] e pos) (sDPut to ti te)) : CS X W (.Assign [.Subscript o i pos'] e pos) (sStore mo mi me) := by
  intro ρ μ s σ H D hs hm h
  by_cases hd : ∃ u μ1 x μ2 y μ3 kus, me s μ = .ok u μ1 ∧ mo s μ1 = .ok x μ2 ∧ mi s μ2 = .ok y μ3 ∧ dctU μ3 x = some kus
  · obtain ⟨u, μ1, x, μ2, y, μ3, kus, e1, e2, e3, e4⟩ := hd
    refine ⟨_, h2 pe_w pe_w pe_w, ?_⟩
    unfold sStore at h
    rw [e1] at h
    refine he ρ μ s σ H _ hs hm ?_
    rw [e1]
    intro uv H1 ρ1 t1 r1
    refine ho ρ1 μ1 s σ H1 _ (t1.s hs) t1.mem ?_
    have g1 : PostS X W ρ H (ofR (mo s μ1) s fun x μ2 => ofR (mi s μ2) s fun y μ3 => match stU x y u μ3 with
      | some μ4 => .nx s μ4
      | none => .bad) D := h
    rw [e2] at g1 ⊢
    intro xv H2 ρ2 t2 r2
    refine hi ρ2 μ2 s σ H2 _ (t2.s (t1.s hs)) t2.mem ?_
    have g2 : PostS X W ρ H (ofR (mi s μ2) s fun y μ3 => match stU x y u μ3 with
      | some μ4 => .nx s μ4
      | none => .bad) D := g1
    rw [e3] at g2 ⊢
    intro yv H3 ρ3 t3 r3
    have g3 : PostS X W ρ H (match stU x y u μ3 with
      | some μ4 => .nx s μ4
      | none => .bad) D := g2
    have g4 := PostS.from ((t1.trans t2).trans t3) g3
    cases es : stU x y u μ3 with
    | none => rw [es] at g4; exact g4.elim
    | some μ4 =>
      rw [es] at g4
      have r2' := t3.v r2
      obtain ⟨a, kvs, rfl, q1, rk⟩ := dct_at t3.mem r2' e4
      cases r2' with
      | ref hr =>
        rename_i r
        have em : μ3[r]? = some (.dct kus) := by
          unfold dctU at e4
          simp only at e4
          split at e4
          · cases e4; assumption
          · cases e4
        simp only [stU, em] at es
        cases ek : keyU y with
        | none => rw [ek] at es; cases es
        | some k =>
          rw [ek] at es
          simp only at es
          split at es
          · rename_i hz
            cases es
            have ru := (t3.v (t2.v r1))
            refine ⟨a, _, rfl, ?_, g4 σ _ ρ3 (putD t3.mem hr em (rk.put ru)) ?_⟩
            · rw [keyU_ok r3 ek]
              exact DPut.k q1 (by rw [rk.length]; exact lim_lt hz)
            · exact (putD t3.mem hr em (rk.put ru)).s (t3.s (t2.s (t1.s hs)))
          · cases es
      | tup _ _ => simp [dctU] at e4
      | frl _ _ => simp [dctU] at e4
  · refine ⟨_, h1 pe_w pe_w pe_w, ?_⟩
    unfold sStore at h
    refine he ρ μ s σ H _ hs hm ?_
    cases e1 : me s μ with
    | ex c m => rw [e1] at h; exact fun cls H' ρ' t e => h cls σ H' ρ' t (t.s hs) e
    | bad => rw [e1] at h; exact h
    | ok u μ1 =>
      rw [e1] at h
      intro uv H1 ρ1 t1 r1
      refine ho ρ1 μ1 s σ H1 _ (t1.s hs) t1.mem ?_
      have g1 : PostS X W ρ1 H1 (ofR (mo s μ1) s fun x μ2 => ofR (mi s μ2) s fun y μ3 => match stU x y u μ3 with
        | some μ4 => .nx s μ4
        | none => .bad) D := PostS.from t1 h
      cases e2 : mo s μ1 with
      | ex c m => rw [e2] at g1; exact fun cls H' ρ' t e => g1 cls σ H' ρ' t (t.s (t1.s hs)) e
      | bad => rw [e2] at g1; exact g1
      | ok x μ2 =>
        rw [e2] at g1
        intro xv H2 ρ2 t2 r2
        refine hi ρ2 μ2 s σ H2 _ (t2.s (t1.s hs)) t2.mem ?_
        have g2 : PostS X W ρ2 H2 (ofR (mi s μ2) s fun y μ3 => match stU x y u μ3 with
          | some μ4 => .nx s μ4
          | none => .bad) D := PostS.from t2 g1
        cases e3 : mi s μ2 with
        | ex c m => rw [e3] at g2; exact fun cls H' ρ' t e => g2 cls σ H' ρ' t (t.s (t2.s (t1.s hs))) e
        | bad => rw [e3] at g2; exact g2
        | ok y μ3 =>
          rw [e3] at g2
          intro yv H3 ρ3 t3 r3
          have g4 : PostS X W ρ3 H3 (match stU x y u μ3 with
            | some μ4 => .nx s μ4
            | none => .bad) D := PostS.from t3 g2
          cases es : stU x y u μ3 with
          | none => rw [es] at g4; exact g4.elim
          | some μ4 =>
            rw [es] at g4
            have r2' := t3.v r2
            unfold stU at es
            split at es
            · rename_i r
              split at es
              · rename_i xs em
                split at es
                · rename_i n
                  split at es
                  · rename_i j ej
                    cases es
                    cases r2' with
                    | ref hr =>
                      cases r3
                      obtain ⟨ws, q, rr⟩ := lst_of t3.mem hr em
                      have t4 := putL t3.mem hr em (rr.set (t3.v (t2.v r1)) j)
                      exact ⟨_, ws, n, j, rfl, rfl, q, by rw [← rr.length]; exact ej, g4 σ _ ρ3 t4 (t4.s (t3.s (t2.s (t1.s hs))))⟩
                  · cases es
                · cases es
              · rename_i kus em
                exact absurd ⟨u, μ1, .ref r, μ2, y, μ3, kus, e1, e2, e3, by simp only [dctU, em]⟩ hd
              · cases es
            · cases es

/-! ### x += e -/
def sAug (i : Nat) (f : Int → Int → Int) (a : FE) : FS := fun s μ => match s[i]? with
  | some (some (.int x)) => ofR (a s μ) s fun u μ1 => match u with
    | .int y => .nx (s.set i (some (.int (f x y)))) μ1
    | _ => .bad
  | _ => .bad
theorem cs_aug {i : Nat} {x : Str} {e : Expr} {me : FE} {op : Operator} {f : Int → Int → Int} {pos pos' : Pos} (hN : X.N.Nodup) (hi : X.N[i]? = some x) (hx : Loc X.env.scope x) (he : CE X W e me) (ho : PIp X op (ipI f))
    (hf : X.fn x = true ∨ X.env.scope.names.lookup x = some .local := by first | exact .inl rfl | exact .inr rfl | assumption)
    (hp : ∀ {te : TE}, PE X e te → PS X (.AugAssign (.Name x pos') op e pos) (L2.tAug i te (ipI f))) : CS X W (.AugAssign (.Name x pos') op e pos) (sAug i f me) := by
  intro ρ μ s σ H D hs hm h
  refine ⟨_, hp pe_w, ?_⟩
  unfold sAug at h
  split at h
  · rename_i z e1
    obtain ⟨v, q, r⟩ := hs.get i _ e1
    cases r
    refine ⟨_, q, ?_⟩
    refine he ρ μ s σ H _ hs hm (PostS.bind hs h fun u μ1 x H1 ρ1 t1 r1 h1 => ?_)
    split at h1
    · cases r1
      exact ⟨_, _, rfl, rfl, h1 _ H1 ρ1 (Stp.refl t1.mem) ((t1.s hs).set .int)⟩
    · exact h1.elim
  · exact h.elim

/-! ### while -/
def sWhile (t : FT) (b : FS) : Nat → FS
  | 0 => fun _ _ => .bad
  | n + 1 => fun s μ => ofR (t s μ) s fun c μ1 => match c with
    | false => .nx s μ1
    | true => match b s μ1 with
      | .nx s2 μ2 => sWhile t b n s2 μ2
      | .ct s2 μ2 => sWhile t b n s2 μ2
      | .bk s2 μ2 => .nx s2 μ2
      | o => o
theorem cs_while {c : Expr} {body : List Stmt} {tc : FT} {b : FS} {pos : Pos} (n : Nat) (G : Good X W k) (hc : CT X W c tc) (hb : CSs X W body b) : CS X W (.While c body [] pos) (sWhile tc b n) := by
  intro ρ μ s σ H D hs hm h
  refine ⟨_, ps_while G.po pt_w pss_w, ?_⟩
  refine ⟨fun m σ' H' => ∃ ρ' s' μ', RepM X.K H' ρ' μ' ∧ RepS X.K H' ρ' s' σ' ∧ PostS X W ρ' H' (sWhile tc b m s' μ') D, ⟨n, ρ, s, μ, hm, hs, h⟩, ?_⟩
  intro m σ' H' ⟨ρ', s', μ', hm', hs', h'⟩
  cases m with
  | zero => exact h'.elim
  | succ m =>
    refine hc ρ' μ' s' σ' H' _ hs' hm' (PostS.bind hs' h' fun b0 μ1 x H1 ρ1 t1 r1 h1 => ?_)
    cases r1
    cases b0 with
    | false => exact iteF (h1 σ' H1 ρ1 (Stp.refl t1.mem) (t1.s hs'))
    | true =>
      refine iteT ⟨fun σ2 H2 => ∃ ρ2 s2 μ2, RepM X.K H2 ρ2 μ2 ∧ RepS X.K H2 ρ2 s2 σ2 ∧ PostS X W ρ2 H2 (sWhile tc b m s2 μ2) D, fun σ2 H2 q => ⟨m, Nat.lt_succ_self m, q⟩, ?_⟩
      refine hb ρ1 μ1 s' σ' H1 _ (t1.s hs') t1.mem ?_
      cases e : b s' μ1 with
      | nx s2 μ2 =>
        simp only [e] at h1
        exact fun σ2 H2 ρ2 t r => ⟨ρ2, s2, μ2, t.mem, r, PostS.from t h1⟩
      | ct s2 μ2 =>
        simp only [e] at h1
        exact fun σ2 H2 ρ2 t r => ⟨ρ2, s2, μ2, t.mem, r, PostS.from t h1⟩
      | bk s2 μ2 => simp only [e] at h1; exact h1
      | rt u m2 => simp only [e] at h1; exact h1
      | ex c2 u m2 => simp only [e] at h1; exact h1
      | bad => simp only [e] at h1; exact h1.elim

/-! ### what is walked -/
inductive IterU where
  | seq (us : List U)
  | rng (lo c : Int) (n : Nat)
  | live (r : Nat)
  | zipL (a b : Nat)
def listAt (μ : Mem) (r : Nat) : Option (List U) := match μ[r]? with
  | some (.lst us) => some us
  | _ => none
def itemAt (it : IterU) (i : Nat) (μ : Mem) : Option (Option U) := match it with
  | .seq us => some us[i]?
  | .rng lo c n => some (if i < n then some (.int (lo + (i : Int) * c)) else none)
  | .live r => (listAt μ r).map fun us => us[i]?
  | .zipL a b => match listAt μ a, listAt μ b with
    | some us, some ws => some (match us[i]?, ws[i]? with
      | some u, some w => some (.tup [u, w])
      | _, _ => none)
    | _, _ => none
def ItOk (K : PySem.W.Frag) (ρ : List Addr) (H : Hp) (it : IterU) (J : It) : Prop := ∀ i ρ' H' μ', Ext ρ ρ' → TX H H' → RepM K H' ρ' μ' → match itemAt it i μ' with
  | none => True
  | some none => J.stop i H'
  | some (some u) => J.go i H' ∧ ∀ x H'', J.yld i H' x H'' → Stp K ρ' H' ρ' H'' μ' ∧ RepV K H'' ρ' u x
def relI : RelT IterU It := fun K H ρ it J => ItOk K ρ H it J
abbrev FI := Slots → Mem → Res IterU
def WI (X : Cx) (tg iter : Expr) : TI := fun σ H R => ∃ wi, PI X tg iter wi ∧ wi σ H R
theorem pi_w {tg iter : Expr} : PI X tg iter (WI X tg iter) := ⟨fun pins s σ H R I ⟨_, h, q⟩ => h.run pins s σ H R I q⟩
def CI (X : Cx) (W : WX) (tg iter : Expr) (m : FI) : Prop := ∀ ρ μ s σ H R, RepS X.K H ρ s σ → RepM X.K H ρ μ → Post X W σ relI ρ H (m s μ) R → WI X tg iter σ H R
theorem listAt_ok {K : PySem.W.Frag} {H : Hp} {ρ : List Addr} {μ : Mem} (hm : RepM K H ρ μ) {r : Nat} {a : Addr} {us : List U} (hr : ρ[r]? = some a) (e : listAt μ r = some us) : ∃ vs, SqL K H a vs ∧ RepVs K H ρ us vs := by
  obtain ⟨c, hc, rc⟩ := hm.at hr
  simp only [listAt, hc] at e
  cases c with
  | lst us => obtain ⟨vs, q, r⟩ := rc; cases e; exact ⟨vs, .inl (.inl q), r⟩
  | dct us => cases e
theorem it_live {K : PySem.W.Frag} {H : Hp} {ρ : List Addr} {r : Nat} {a : Addr} (hr : ρ[r]? = some a) : ItOk K ρ H (.live r) (Itl K a) := by
  intro i ρ' H' μ' ex tx hm
  simp only [itemAt]
  cases e : listAt μ' r with
  | none => trivial
  | some us =>
    obtain ⟨vs, q, rr⟩ := listAt_ok hm (ex.get hr) e
    simp only [Option.map_some]
    cases eu : us[i]? with
    | none =>
      refine ⟨vs, q, ?_⟩
      rw [← rr.length]
      exact List.getElem?_eq_none_iff.mp eu
    | some u =>
      obtain ⟨v, q2, r2⟩ := rr.get eu
      refine ⟨⟨vs, v, q, q2⟩, fun x H'' y => ?_⟩
      obtain ⟨rfl, hx⟩ := y
      have := hx vs q
      rw [q2] at this
      cases this
      exact ⟨Stp.refl hm, r2⟩
theorem it_frl {K : PySem.W.Frag} {H : Hp} {ρ : List Addr} {a : Addr} {us : List U} {vs : List V} (hs : FrL K H a vs) (hr : RepVs K H ρ us vs) : ItOk K ρ H (.seq us) (Itl K a) := by
  intro i ρ' H' μ' ex tx hm
  simp only [itemAt]
  have hs' := (tx.frl hs).sq
  have hr' := hr.mono tx ex
  cases eu : us[i]? with
  | none =>
    refine ⟨vs, hs', ?_⟩
    rw [← hr'.length]
    exact List.getElem?_eq_none_iff.mp eu
  | some u =>
    obtain ⟨v, q2, r2⟩ := hr'.get eu
    refine ⟨⟨vs, v, hs', q2⟩, fun x H'' y => ?_⟩
    obtain ⟨rfl, hx⟩ := y
    have := hx vs hs'
    rw [q2] at this
    cases this
    exact ⟨Stp.refl hm, r2⟩
theorem it_tup {K : PySem.W.Frag} {H : Hp} {ρ : List Addr} {a : Addr} {us : List U} {vs : List V} (hs : SqT K H a vs) (hr : RepVs K H ρ us vs) : ItOk K ρ H (.seq us) (Itt K a) := by
  intro i ρ' H' μ' ex tx hm
  simp only [itemAt]
  have hs' := tx.seq hs
  have hr' := hr.mono tx ex
  cases eu : us[i]? with
  | none =>
    refine ⟨vs, hs', ?_⟩
    rw [← hr'.length]
    exact List.getElem?_eq_none_iff.mp eu
  | some u =>
    obtain ⟨v, q2, r2⟩ := hr'.get eu
    refine ⟨⟨vs, v, hs', q2⟩, fun x H'' y => ?_⟩
    obtain ⟨rfl, hx⟩ := y
    have := hx vs hs'
    rw [q2] at this
    cases this
    exact ⟨Stp.refl hm, r2⟩
theorem it_rng {K : PySem.W.Frag} {H : Hp} {ρ : List Addr} {lo : Int} {n : Nat} : ItOk K ρ H (.rng lo 1 n) (Itr lo n) := by
  intro i ρ' H' μ' ex tx hm
  simp only [itemAt]
  by_cases hi : i < n
  · simp only [hi, if_true]
    refine ⟨hi, fun x H'' y => ?_⟩
    obtain ⟨rfl, rfl⟩ := y
    rw [Int.mul_one]
    exact ⟨Stp.refl hm, .int⟩
  · simp only [hi, if_false]
    show n ≤ i
    omega
theorem it_rngC {K : PySem.W.Frag} {H : Hp} {ρ : List Addr} {lo c : Int} {n : Nat} : ItOk K ρ H (.rng lo c n) (Itc lo c n) := by
  intro i ρ' H' μ' ex tx hm
  simp only [itemAt]
  by_cases hi : i < n
  · simp only [hi, if_true]
    refine ⟨hi, fun x H'' y => ?_⟩
    obtain ⟨rfl, rfl⟩ := y
    exact ⟨Stp.refl hm, .int⟩
  · simp only [hi, if_false]
    show n ≤ i
    omega
/-- a list, a tuple, a text: by value -/
def iAny (K : PySem.W.Frag) (tl : TE) : TI := fun σ H R => tl σ H fun x H1 => (∃ a, x = .ref a ∧ (∃ xs, SqL K H1 a xs) ∧ R (Itl K a) H1) ∨ (∃ a, x = .ref a ∧ (∃ xs, SqT K H1 a xs) ∧ R (Itt K a) H1) ∨ ∃ z, x = .str z ∧ R (Its z) H1
theorem pi_any {tg l : Expr} {tl : TE} (hl : PE X l tl) : PI X tg l (iAny X.K tl) := by
  refine ⟨fun pins s σ H R I h => ?_⟩
  refine thn (hl.run pins s σ H _ I h) fun v s1 ⟨x, H1, I1, r1, q1⟩ => ?_
  rcases q1 with ⟨a, e, ⟨xs, hq⟩, q⟩ | ⟨a, e, ⟨xs, hq⟩, q⟩ | ⟨x, e, q⟩
  · subst e
    cases r1
    obtain ⟨its, rv, p, hz⟩ := I1.list hq
    refine wpAny_pyIter_list p.isList ?_
    refine ⟨s1.heap.objs.size, [s1.heap.objs.size], _, _, H1, rfl, I1.kept (t' := s1.toks) fun b o e => Heap.get?_push_of_some _ e, turn_list a _, ⟨_, Heap.get?_push_size _ rfl, rfl, rfl⟩, fun b hb => ?_, q⟩
    have e : b = s1.heap.objs.size := by simpa using hb
    subst e
    exact I1.fpOk (Nat.le_refl _) (I1.hok.fresh (Nat.le_refl _))
  · subst e
    cases r1
    obtain ⟨its, rv, p, hz⟩ := I1.tuple hq
    refine wpAny_pyIter_tuple (show s1.heap.IsTuple a its.toArray from p) ?_
    refine ⟨s1.heap.objs.size, [s1.heap.objs.size], _, _, H1, rfl, I1.kept (t' := s1.toks) fun b o e => Heap.get?_push_of_some _ e, turn_tuple a _, ⟨_, Heap.get?_push_size _ rfl, rfl, rfl⟩, fun b hb => ?_, q⟩
    have e : b = s1.heap.objs.size := by simpa using hb
    subst e
    exact I1.fpOk (Nat.le_refl _) (I1.hok.fresh (Nat.le_refl _))
  · subst e
    obtain ⟨t, rfl⟩ := r1
    cases ha : x.cps.all (· < 128)
    · exact wpAny_pyIter_wide ha (pi_one (tk := s1.toks) I1 _ (turn_str _ x t "str_iterator" (.inr rfl)) ⟨_, Heap.get?_push_size _ rfl, rfl, rfl⟩ q)
    · exact wpAny_pyIter_ascii ha (pi_one (tk := s1.toks) I1 _ (turn_str _ x t "str_ascii_iterator" (.inl rfl)) ⟨_, Heap.get?_push_size _ rfl, rfl, rfl⟩ q)
def signsU (z : Str) : List U := z.cps.toList.map fun c => .str ⟨#[c]⟩
theorem it_str {K : PySem.W.Frag} {H : Hp} {ρ : List Addr} {z : Str} (hz : PyData.strOk z = true) : ItOk K ρ H (.seq (signsU z)) (Its z) := by
  intro i ρ' H' μ' ex tx hm
  simp only [itemAt, signsU, List.getElem?_map]
  cases eu : z.cps.toList[i]? with
  | none =>
    show z.cps.size ≤ i
    have := List.getElem?_eq_none_iff.mp eu
    simpa using this
  | some c =>
    have hi : i < z.cps.size := by
      have := (List.getElem?_eq_some_iff.mp eu).1
      simpa using this
    refine ⟨hi, fun x H'' y => ?_⟩
    obtain ⟨rfl, c', e1, rfl⟩ := y
    have e2 : z.cps[i]? = some c := by
      rw [← Array.getElem?_toList]; exact eu
    rw [e1] at e2
    cases e2
    refine ⟨Stp.refl hm, .str ?_⟩
    have hc : c ∈ z.cps := Array.mem_toList_iff.mp (List.mem_of_getElem? eu)
    unfold PyData.strOk at *
    rw [Array.all_eq_true'] at *
    intro x hx
    have : x = c := by simpa using hx
    subst this
    exact hz x hc
def iSeq (a : FE) : FI := fun s μ => (a s μ).bind fun u μ1 => match u with
  | .tup us => .ok (.seq us) μ1
  | .frl us => .ok (.seq us) μ1
  | .str z => .ok (.seq (signsU z)) μ1
  | .ref r => match listAt μ1 r with
    | some _ => .ok (.live r) μ1
    | none => .bad
  | _ => .bad
theorem ci_seq {tg e : Expr} {me : FE} (he : CE X W e me) : CI X W tg e (iSeq me) := by
  intro ρ μ s σ H R hs hm h
  unfold iSeq at h
  refine ⟨_, pi_any pe_w, ?_⟩
  refine he ρ μ s σ H _ hs hm (h.bind fun u μ1 x H1 ρ1 t1 r1 h1 => ?_)
  cases r1 with
  | tup hs1 hr1 => exact .inr (.inl ⟨_, rfl, ⟨_, hs1⟩, h1.ok (Stp.refl t1.mem) (it_tup hs1 hr1)⟩)
  | str hz => exact .inr (.inr ⟨_, rfl, h1.ok (Stp.refl t1.mem) (it_str hz)⟩)
  | frl hs1 hr1 => exact .inl ⟨_, rfl, ⟨_, hs1.sq⟩, h1.ok (Stp.refl t1.mem) (it_frl hs1 hr1)⟩
  | ref hr =>
    rename_i r a
    simp only at h1
    cases e : listAt μ1 r with
    | none => rw [e] at h1; exact h1.elim
    | some us =>
      rw [e] at h1
      obtain ⟨vs, q, _⟩ := listAt_ok t1.mem hr e
      exact .inl ⟨a, rfl, ⟨vs, q⟩, h1.ok (Stp.refl t1.mem) (it_live hr)⟩
  | _ => exact h1.elim
def okR (i : Int) : Bool := decide (-(2 ^ 62) ≤ i ∧ i < 2 ^ 62)
def iRg1 (a : FE) : FI := fun s μ => (a s μ).bind fun u μ1 => match u with
  | .int n => if okR n then .ok (.rng 0 1 n.toNat) μ1 else .bad
  | _ => .bad
theorem ci_rg1 {tg a : Expr} {ma : FE} {p pos : Pos} (hg : Gl X "range") (hm0 : X.mg "range" = none) (ha : CE X W a ma) (hs1 : starEach [a] X.env = (false, eval a X.env) :: starEach [] X.env := by rfl) (hs2 : starEach [a] X.env = [(false, eval a X.env)] := by rfl) : CI X W tg (.Call (.Name "range" p) [a] [] pos) (iRg1 ma) := by
  intro ρ μ s σ H R hs hm h
  refine ⟨_, pi_range1 hg hm0 (pa_cons pe_w pa_nil hs1) hs2, ?_⟩
  refine ha ρ μ s σ H _ hs hm (h.bind fun u μ1 x H1 ρ1 t1 r1 h1 => ?_)
  split at h1
  · cases r1
    split at h1
    · rename_i hz
      have hz' := of_decide_eq_true hz
      exact ⟨_, rfl, hz'.1, hz'.2, h1.ok (Stp.refl t1.mem) it_rng⟩
    · exact h1.elim
  · exact h1.elim
def iRg2 (a b : FE) : FI := fun s μ => (a s μ).bind fun u μ1 => (b s μ1).bind fun w μ2 => match u, w with
  | .int i, .int j => if okR i && okR j then .ok (.rng i 1 (j - i).toNat) μ2 else .bad
  | _, _ => .bad
theorem ci_rg2 {tg a b : Expr} {ma mb : FE} {p pos : Pos} (hg : Gl X "range") (hm0 : X.mg "range" = none) (ha : CE X W a ma) (hb : CE X W b mb)
    (hp : ∀ {ta : TA}, PA X [a, b] ta → PI X tg (.Call (.Name "range" p) [a, b] [] pos) (iRng2 ta)) (hs1 : starEach [a, b] X.env = (false, eval a X.env) :: starEach [b] X.env := by rfl) (hs2 : starEach [b] X.env = (false, eval b X.env) :: starEach [] X.env := by rfl) :
    CI X W tg (.Call (.Name "range" p) [a, b] [] pos) (iRg2 ma mb) := by
  intro ρ μ s σ H R hs hm h
  refine ⟨_, hp (pa_cons pe_w (pa_cons pe_w pa_nil hs2) hs1), ?_⟩
  refine ha ρ μ s σ H _ hs hm (h.bind fun u μ1 x H1 ρ1 t1 r1 h1 => ?_)
  refine hb ρ1 μ1 s σ H1 _ (t1.s hs) t1.mem (h1.bind fun w μ2 y H2 ρ2 t2 r2 h2 => ?_)
  split at h2
  · cases r1; cases r2
    split at h2
    · rename_i hz
      obtain ⟨h3, h4⟩ := Bool.and_eq_true_iff.mp hz
      have h3' := of_decide_eq_true h3
      have h4' := of_decide_eq_true h4
      exact ⟨_, _, rfl, ⟨h3'.1, h3'.2, h4'.1, h4'.2⟩, h2.ok (Stp.refl t2.mem) it_rng⟩
    · exact h2.elim
  · exact h2.elim
/-- reversed(range(n)) -/
def iRev1 (a : FE) : FI := fun s μ => (a s μ).bind fun u μ1 => match u with
  | .int n => if okR n then .ok (.rng (n.toNat - 1) (-1) n.toNat) μ1 else .bad
  | _ => .bad
theorem ci_rev1 {tg a : Expr} {ma : FE} {p pos p2 pos2 : Pos} (hg : Gl X "reversed") (hm0 : X.mg "reversed" = none) (hg2 : Gl X "range") (hm2 : X.mg "range" = none) (ha : CE X W a ma)
    (hp : ∀ {ta : TE}, PE X a ta → PI X tg (.Call (.Name "reversed" p) [.Call (.Name "range" p2) [a] [] pos2] [] pos) (iRevR (tRg1 ta))) : CI X W tg (.Call (.Name "reversed" p) [.Call (.Name "range" p2) [a] [] pos2] [] pos) (iRev1 ma) := by
  intro ρ μ s σ H R hs hm h
  refine ⟨_, hp pe_w, ?_⟩
  refine ha ρ μ s σ H _ hs hm (h.bind fun u μ1 x H1 ρ1 t1 r1 h1 => ?_)
  split at h1
  · cases r1
    rename_i n
    split at h1
    · rename_i hz
      have hz' := of_decide_eq_true hz
      refine ⟨_, rfl, by decide, by decide, hz'.1, hz'.2, ?_⟩
      have e1 : (n - 0).toNat = n.toNat := by rw [Int.sub_zero]
      have e2 : (0 : Int) + (((n - 0).toNat : Nat) : Int) - 1 = (n.toNat : Int) - 1 := by rw [e1]; omega
      rw [e1, Int.zero_add]
      exact h1.ok (Stp.refl t1.mem) it_rngC
    · exact h1.elim
  · exact h1.elim
theorem it_zipT {K : PySem.W.Frag} {H : Hp} {ρ : List Addr} {a b : Addr} {us ws : List U} {vs xs : List V} (hs : SqT K H a vs) (hr : RepVs K H ρ us vs) (hs2 : SqT K H b xs) (hr2 : RepVs K H ρ ws xs) : ItOk K ρ H (.seq (List.zipWith (fun u w => .tup [u, w]) us ws)) (ItzT K a b) := by
  intro i ρ' H' μ' ex tx hm
  simp only [itemAt]
  have hs' := tx.seq hs
  have hr' := hr.mono tx ex
  have hs2' := tx.seq hs2
  have hr2' := hr2.mono tx ex
  rw [List.getElem?_zipWith]
  cases eu : us[i]? with
  | none =>
    refine ⟨vs, xs, hs', hs2', .inl ?_⟩
    rw [← hr'.length]
    exact List.getElem?_eq_none_iff.mp eu
  | some u =>
    cases ew : ws[i]? with
    | none =>
      refine ⟨vs, xs, hs', hs2', .inr ?_⟩
      rw [← hr2'.length]
      exact List.getElem?_eq_none_iff.mp ew
    | some w =>
      obtain ⟨v, q2, r2⟩ := hr'.get eu
      obtain ⟨v2, q3, r3⟩ := hr2'.get ew
      refine ⟨⟨vs, xs, v, v2, hs', hs2', q2, q3⟩, fun x H'' y => ?_⟩
      obtain ⟨T, x1, y1, rfl, nT, rfl, f1, f2⟩ := y
      have e1 := f1 vs hs'
      rw [q2] at e1
      cases e1
      have e2 := f2 xs hs2'
      rw [q3] at e2
      cases e2
      exact ⟨Stp.temp hm nT, newT nT (.cons r2 (.one r3))⟩
theorem it_zipL {K : PySem.W.Frag} {H : Hp} {ρ : List Addr} {a b : Addr} {r1 r2 : Nat} (h1 : ρ[r1]? = some a) (h2 : ρ[r2]? = some b) : ItOk K ρ H (.zipL r1 r2) (Itz K a b) := by
  intro i ρ' H' μ' ex tx hm
  simp only [itemAt]
  cases e1 : listAt μ' r1 with
  | none => trivial
  | some us =>
    cases e2 : listAt μ' r2 with
    | none => trivial
    | some ws =>
      obtain ⟨vs, q1, rr1⟩ := listAt_ok hm (ex.get h1) e1
      obtain ⟨xs, q2, rr2⟩ := listAt_ok hm (ex.get h2) e2
      simp only
      cases eu : us[i]? with
      | none =>
        refine ⟨vs, xs, q1, q2, .inl ?_⟩
        rw [← rr1.length]
        exact List.getElem?_eq_none_iff.mp eu
      | some u =>
        cases ew : ws[i]? with
        | none =>
          refine ⟨vs, xs, q1, q2, .inr ?_⟩
          rw [← rr2.length]
          exact List.getElem?_eq_none_iff.mp ew
        | some w =>
          obtain ⟨v, q3, r3⟩ := rr1.get eu
          obtain ⟨v2, q4, r4⟩ := rr2.get ew
          refine ⟨⟨vs, xs, v, v2, q1, q2, q3, q4⟩, fun x H'' y => ?_⟩
          obtain ⟨T, x1, y1, rfl, nT, rfl, f1, f2⟩ := y
          have g1 := f1 vs q1
          rw [q3] at g1
          cases g1
          have g2 := f2 xs q2
          rw [q4] at g2
          cases g2
          exact ⟨Stp.temp hm nT, newT nT (.cons r3 (.one r4))⟩
/-- zip of two tuples, of two lists -/
def iZip (a b : FE) : FI := fun s μ => (a s μ).bind fun u μ1 => (b s μ1).bind fun w μ2 => match u, w with
  | .tup us, .tup ws => .ok (.seq (List.zipWith (fun u w => .tup [u, w]) us ws)) μ2
  | .ref r1, .ref r2 => match listAt μ2 r1, listAt μ2 r2 with
    | some _, some _ => .ok (.zipL r1 r2) μ2
    | _, _ => .bad
  | _, _ => .bad
theorem ci_zip {tg a b : Expr} {ma mb : FE} {p pos : Pos} (ha : CE X W a ma) (hb : CE X W b mb)
    (hp : ∀ {ta : TA}, PA X [a, b] ta → PI X tg (.Call (.Name "zip" p) [a, b] [] pos) (iZipA X.K ta)) (hs1 : starEach [a, b] X.env = (false, eval a X.env) :: starEach [b] X.env := by rfl) (hs2 : starEach [b] X.env = (false, eval b X.env) :: starEach [] X.env := by rfl) :
    CI X W tg (.Call (.Name "zip" p) [a, b] [] pos) (iZip ma mb) := by
  intro ρ μ s σ H R hs hm h
  refine ⟨_, hp (pa_cons pe_w (pa_cons pe_w pa_nil hs2) hs1), ?_⟩
  refine ha ρ μ s σ H _ hs hm (h.bind fun u μ1 x H1 ρ1 t1 r1 h1 => ?_)
  refine hb ρ1 μ1 s σ H1 _ (t1.s hs) t1.mem (h1.bind fun w μ2 y H2 ρ2 t2 r2 h2 => ?_)
  have r1' := t2.v r1
  split at h2
  · cases r1' with
    | tup a1 a2 => cases r2 with
      | tup b1 b2 => exact ⟨_, _, _, _, rfl, .inr ⟨a1, b1, h2.ok (Stp.refl t2.mem) (it_zipT a1 a2 b1 b2)⟩⟩
  · cases r1' with
    | ref a1 => cases r2 with
      | ref b1 =>
        split at h2
        · rename_i e1 e2
          obtain ⟨vs, q1, _⟩ := listAt_ok t2.mem a1 e1
          obtain ⟨xs, q2, _⟩ := listAt_ok t2.mem b1 e2
          exact ⟨_, _, _, _, rfl, .inl ⟨q1, q2, h2.ok (Stp.refl t2.mem) (it_zipL a1 b1)⟩⟩
        · exact h2.elim
  · exact h2.elim

/-! ### for -/
def fuelF : Nat := 1000000
def sForGo (g : Tgt) (b : FS) : Nat → IterU → Nat → FS
  | 0, _, _ => fun _ _ => .bad
  | f + 1, it, i => fun s μ => match itemAt it i μ with
    | none => .bad
    | some none => .nx s μ
    | some (some u) => match setT g u s with
      | none => .bad
      | some s1 => match b s1 μ with
        | .nx s2 μ2 => sForGo g b f it (i + 1) s2 μ2
        | .ct s2 μ2 => sForGo g b f it (i + 1) s2 μ2
        | .bk s2 μ2 => .nx s2 μ2
        | o => o
def sFor (it : FI) (g : Tgt) (b : FS) : FS := fun s μ => ofR (it s μ) s fun j μ1 => sForGo g b fuelF j 0 s μ1
theorem cs_for {tg iter : Expr} {body : List Stmt} {mi : FI} {g : Tgt} {b : FS} {pos : Pos} (G : Good X W k) (hi : CI X W tg iter mi) (hg : CG X tg g) (hb : CSs X W body b)
    (hs0 : ∀ x, foldedSetIterable iter X.env x = pure x := by intro _; rfl) : CS X W (.For tg iter body [] pos) (sFor mi g b) := by
  intro ρ μ s σ H D hs hm h
  refine ⟨_, ps_for G.po G.calm pi_w pg_w pss_w hs0, ?_⟩
  refine hi ρ μ s σ H _ hs hm (PostS.bind hs h fun j μ1 J H1 ρ1 t1 r1 h1 => ?_)
  have hJ : ItOk X.K ρ1 H1 j J := r1
  refine ⟨fun i m σ' H' => ∃ ρ' s' μ', Stp X.K ρ1 H1 ρ' H' μ' ∧ RepS X.K H' ρ' s' σ' ∧ PostS X W ρ' H' (sForGo g b m j i s' μ') D, ⟨fuelF, ρ1, s, μ1, Stp.refl t1.mem, t1.s hs, h1⟩, ?_⟩
  intro i m σ' H' ⟨ρ', s', μ', t', hs', h'⟩
  cases m with
  | zero => exact h'.elim
  | succ m =>
    have q := hJ i ρ' H' μ' t'.ext t'.tx t'.mem
    unfold sForGo at h'
    cases e : itemAt j i μ' with
    | none => rw [e] at h'; exact h'.elim
    | some o =>
      rw [e] at h' q
      cases o with
      | none => exact .inl ⟨q, h' σ' H' ρ' (Stp.refl t'.mem) hs'⟩
      | some u =>
        refine .inr ⟨q.1, fun σ2 H2 => ∃ ρ2 s2 μ2, Stp X.K ρ1 H1 ρ2 H2 μ2 ∧ RepS X.K H2 ρ2 s2 σ2 ∧ PostS X W ρ2 H2 (sForGo g b m j (i + 1) s2 μ2) D, fun σ2 H2 z => ⟨m, Nat.lt_succ_self m, z⟩, fun x H'' y => ?_⟩
        obtain ⟨t2, ru⟩ := q.2 x H'' y
        simp only at h'
        cases es : setT g u s' with
        | none => rw [es] at h'; exact h'.elim
        | some s1 =>
          rw [es] at h'
          simp only at h'
          refine hg ρ' s' σ' H'' u x s1 _ (t2.s hs') ru es fun σ3 hs3 _ => ?_
          refine hb ρ' μ' s1 σ3 H'' _ hs3 t2.mem ?_
          cases eb : b s1 μ' with
          | nx s2 μ2 =>
            rw [eb] at h'
            exact fun σ4 H4 ρ4 t r => ⟨ρ4, s2, μ2, (t'.trans t2).trans t, r, PostS.from (t2.trans t) h'⟩
          | ct s2 μ2 =>
            rw [eb] at h'
            exact fun σ4 H4 ρ4 t r => ⟨ρ4, s2, μ2, (t'.trans t2).trans t, r, PostS.from (t2.trans t) h'⟩
          | bk s2 μ2 => rw [eb] at h'; exact PostS.from t2 h'
          | rt u m2 => rw [eb] at h'; exact PostS.from t2 h'
          | ex c2 u m2 => rw [eb] at h'; exact PostS.from t2 h'
          | bad => rw [eb] at h'; exact h'.elim

/-! ### [e for x in xs if t] -/
def wipeU (s : Slots) : List Nat → Slots
  | [] => s
  | v :: vs => (wipeU s vs).set v none
def lcGo (j : IterU) (own : List Nat) (g : Tgt) (t : FT) (e : FE) (s : Slots) (D : Nat) : Nat → Nat → Mem → Res U
  | 0, _, _ => .bad
  | f + 1, i, μ => match itemAt j i μ with
    | none => .bad
    | some none => .ok (.ref D) μ
    | some (some u) => match setT g u (wipeU s own) with
      | none => .bad
      | some s1 => match t s1 μ with
        | .ok true μ3 => match e s1 μ3 with
          | .ok v μ4 => match μ4[D]? with
            | some (.lst acc) => if acc.length < lim then lcGo j own g t e s D f (i + 1) (μ4.set D (.lst (acc ++ [v]))) else .bad
            | _ => .bad
          | _ => .bad
        | .ok false μ3 => lcGo j own g t e s D f (i + 1) μ3
        | _ => .bad
def fLc (it : FI) (own : List Nat) (g : Tgt) (t : FT) (e : FE) : FE := fun s μ => (it s μ).bind fun j μ1 => lcGo j own g t e s μ1.length fuelF 0 (μ1 ++ [.lst []])
def tAll : FT := fun _ μ => .ok true μ
theorem RepS.wipe {K : PySem.W.Frag} {H : Hp} {ρ : List Addr} {s : Slots} {σ : L2.St} (h : RepS K H ρ s σ) : ∀ vs : List Nat, RepS K H ρ (wipeU s vs) (L2.wipe σ vs)
  | [] => h
  | v :: vs => by
    have ih := RepS.wipe h vs
    refine ⟨by simp [wipeU, L2.wipe, ih.len], fun i u e => ?_⟩
    by_cases hv : v = i
    · subst hv
      have : v < (wipeU s vs).length := by
        have := (List.getElem?_eq_some_iff.mp e).1
        simpa [wipeU] using this
      simp only [wipeU] at e
      rw [List.getElem?_set_self this] at e
      cases e
    · simp only [wipeU] at e
      rw [List.getElem?_set_ne hv] at e
      obtain ⟨x, q, r⟩ := ih.get i u e
      refine ⟨x, ?_, r⟩
      show ((L2.wipe σ vs).set v none)[i]? = _
      rw [List.getElem?_set_ne hv]
      exact q
abbrev W0 : WX := fun _ _ _ _ => False
/-- an element of a comprehension, in all the frames that it may have -/
def WEb (X : Cx) (scope : Scope) (e : Expr) : TE := fun σ H Q => ∀ (s : Shared) (H0 : Hp) (C : Addr) (cl : List (Str × Addr)) (fp : List Addr), WE (X.blk s H0 scope (compEnvC scope cl C X.env) fp) e σ H Q
theorem pe_wb {scope : Scope} {e : Expr} (s : Shared) (H0 : Hp) (C : Addr) (cl : List (Str × Addr)) (fp : List Addr) : PE (X.blk s H0 scope (compEnvC scope cl C X.env) fp) e (WEb X scope e) :=
  ⟨fun pins s1 σ H Q I q => pe_w.run pins s1 σ H Q I (q s H0 C cl fp)⟩
def WGb (X : Cx) (scope : Scope) (e : Expr) : TG := fun v σ H Q => ∀ (s : Shared) (H0 : Hp) (C : Addr) (cl : List (Str × Addr)) (fp : List Addr), WG (X.blk s H0 scope (compEnvC scope cl C X.env) fp) e v σ H Q
theorem pg_wb {scope : Scope} {e : Expr} (s : Shared) (H0 : Hp) (C : Addr) (cl : List (Str × Addr)) (fp : List Addr) : PG (X.blk s H0 scope (compEnvC scope cl C X.env) fp) e (WGb X scope e) :=
  ⟨fun pins s1 σ H v u Q I r q => pg_w.run pins s1 σ H v u Q I r (q s H0 C cl fp)⟩
def WTs (X : Cx) (ifs : List Expr) : TT := fun σ H Q => ∃ t, PTs X ifs t ∧ t σ H Q
theorem pts_w {ifs : List Expr} : PTs X ifs (WTs X ifs) := ⟨fun pins s σ H Q I ⟨_, h, q⟩ => h.run pins s σ H Q I q⟩
def CTs (X : Cx) (W : WX) (ifs : List Expr) (m : FT) : Prop := ∀ ρ μ s σ H Q, RepS X.K H ρ s σ → RepM X.K H ρ μ → Post X W σ relB ρ H (m s μ) Q → WTs X ifs σ H Q
theorem cts_nil : CTs X W [] tAll := fun ρ μ s σ H Q hs hm h => ⟨_, pts_nil, h.ok (Stp.refl hm) rfl⟩
theorem cts_one {c : Expr} {t : FT} (h : CT X W c t) : CTs X W [c] t := fun ρ μ s σ H Q hs hm p => ⟨_, pts_one pt_w, h ρ μ s σ H Q hs hm p⟩
def WTb (X : Cx) (scope : Scope) (ifs : List Expr) : TT := fun σ H Q => ∀ (s : Shared) (H0 : Hp) (C : Addr) (cl : List (Str × Addr)) (fp : List Addr), WTs (X.blk s H0 scope (compEnvC scope cl C X.env) fp) ifs σ H Q
theorem pts_wb {scope : Scope} {ifs : List Expr} (s : Shared) (H0 : Hp) (C : Addr) (cl : List (Str × Addr)) (fp : List Addr) : PTs (X.blk s H0 scope (compEnvC scope cl C X.env) fp) ifs (WTb X scope ifs) :=
  ⟨fun pins s1 σ H Q I q => pts_w.run pins s1 σ H Q I (q s H0 C cl fp)⟩
def subT (g : Tgt) (own : List Nat) : Bool := match g with
  | .one i => decide (i ∈ own)
  | .tup is => is.all fun i => decide (i ∈ own)
theorem subT_ok {g : Tgt} {own : List Nat} (h : subT g own = true) : inT g own := by
  cases g with
  | one i =>
    have h' : decide (i ∈ own) = true := h
    have h2 : i ∈ own := of_decide_eq_true h'
    exact h2
  | tup is =>
    have h' : (is.all fun i => decide (i ∈ own)) = true := h
    have h2 : ∀ i ∈ is, i ∈ own := fun i hi => of_decide_eq_true (List.all_eq_true.mp h' i hi)
    exact h2
/-- what a comprehension's reading asks is shown by the mirror's -/
theorem lc_reads {tg iter : Expr} {ifs : List Expr} {elt : Expr} {scope : Scope} {own : List Nat} {mi : FI} {g : Tgt} {t : FT} {e : FE} (hi : CI X W tg iter mi)
    (hg : ∀ s H0 C cl fp, CG (X.blk s H0 scope (compEnvC scope cl C X.env) fp) tg g) (ht : ∀ s H0 C cl fp, CTs (X.blk s H0 scope (compEnvC scope cl C X.env) fp) W0 ifs t)
    (he : ∀ s H0 C cl fp, CE (X.blk s H0 scope (compEnvC scope cl C X.env) fp) W0 elt e) (hsub : subT g own = true)
    {ρ : List Addr} {μ : Mem} {s : Slots} {σ : L2.St} {H : Hp} {Q : VK} (hs : RepS X.K H ρ s σ) (hm : RepM X.K H ρ μ) (h : Post X W σ relV ρ H (fLc mi own g t e s μ) Q) :
    tLc (WI X tg iter) (WGb X scope tg) (WTb X scope ifs) (WEb X scope elt) own σ H Q := by
  refine hi ρ μ s σ H _ hs hm (h.bind fun j μ1 J H1 ρ1 t1 r1 h1 => ?_)
  intro D hD
  have hJ : ItOk X.K ρ1 H1 j J := r1
  have tD := newL t1.mem hD (RepVs.nil (K := X.K) (H := H1) (ρ := ρ1))
  refine ⟨fun i m H' => ∃ ρ' μ', Stp X.K (ρ1 ++ [D]) (upd H1 D (.lst [])) ρ' H' μ' ∧ Post X W σ relV ρ' H' (lcGo j own g t e s μ1.length m i μ') Q, ⟨fuelF, ρ1 ++ [D], μ1 ++ [.lst []], Stp.refl tD.mem, ?_⟩, ?_⟩
  · revert h1
    generalize lcGo j own g t e s μ1.length fuelF 0 (μ1 ++ [.lst []]) = z
    intro h1
    cases z with
    | ok c m2 => exact fun v2 H3 ρ3 t3 q3 => h1 v2 H3 ρ3 (tD.trans t3) q3
    | ex c m2 => exact fun cls H3 ρ3 t3 e => h1 cls H3 ρ3 (tD.trans t3) e
    | bad => exact h1
  intro i m H' ⟨ρ', μ', t', h'⟩
  have hDr : ρ'[μ1.length]? = some D := t'.ext.get (by rw [← t1.mem.len, List.getElem?_append_right (Nat.le_refl _)]; simp)
  cases m with
  | zero => exact h'.elim
  | succ m =>
    have q := hJ i ρ' H' μ' (tD.ext.trans t'.ext) (tD.tx.trans t'.tx) t'.mem
    unfold lcGo at h'
    cases e0 : itemAt j i μ' with
    | none => rw [e0] at h'; exact h'.elim
    | some o =>
      rw [e0] at h' q
      cases o with
      | none => exact .inl ⟨q, h'.ok (Stp.refl t'.mem) (.ref hDr)⟩
      | some u =>
        refine .inr ⟨q.1, fun H2 => ∃ ρ2 μ2, Stp X.K (ρ1 ++ [D]) (upd H1 D (.lst [])) ρ2 H2 μ2 ∧ Post X W σ relV ρ2 H2 (lcGo j own g t e s μ1.length m (i + 1) μ2) Q, fun H2 z => ⟨m, Nat.lt_succ_self m, z⟩, fun x H'' y => ?_⟩
        obtain ⟨t2, ru⟩ := q.2 x H'' y
        simp only at h'
        have hsw : RepS X.K H'' ρ' (wipeU s own) (wipe σ own) := (t2.s (t'.s (tD.s (t1.s hs)))).wipe own
        cases es : setT g u (wipeU s own) with
        | none => rw [es] at h'; exact h'.elim
        | some s1 =>
          rw [es] at h'
          simp only at h'
          intro s0 H0 C cl fp
          refine hg s0 H0 C cl fp ρ' (wipeU s own) (wipe σ own) H'' u x s1 _ hsw ru es fun σ3 hs3 hw => ⟨?_, ?_⟩
          · have := hw own (subT_ok hsub)
            rw [this]
            exact wipe_wipe fun i hi => hi
          · intro s0' H0' C' cl' fp'
            refine ht s0' H0' C' cl' fp' ρ' μ' s1 σ3 H'' _ hs3 t2.mem ?_
            cases et : t s1 μ' with
            | ex c m2 => rw [et] at h'; exact h'.elim
            | bad => rw [et] at h'; exact h'.elim
            | ok b μ3 =>
              rw [et] at h'
              intro b' H4 ρ4 t4 r4
              cases r4
              cases b with
              | false =>
                refine iteF ⟨ρ4, μ3, (t'.trans t2).trans t4, ?_⟩
                simp only at h'
                revert h'
                generalize lcGo j own g t e s μ1.length m (i + 1) μ3 = z
                intro h'
                cases z with
                | ok c m2 => exact fun v2 H3 ρ3 t3 q3 => h' v2 H3 ρ3 ((t2.trans t4).trans t3) q3
                | ex c m2 => exact fun cls H3 ρ3 t3 e => h' cls H3 ρ3 ((t2.trans t4).trans t3) e
                | bad => exact h'
              | true =>
                refine iteT ?_
                intro s0' H0' C' cl' fp'
                refine he s0' H0' C' cl' fp' ρ4 μ3 s1 σ3 H4 _ (t4.s hs3) t4.mem ?_
                simp only at h'
                cases ee : e s1 μ3 with
                | ex c m2 => rw [ee] at h'; exact h'.elim
                | bad => rw [ee] at h'; exact h'.elim
                | ok v μ4 =>
                  rw [ee] at h'
                  simp only at h'
                  intro w H5 ρ5 t5 r5
                  split at h'
                  · rename_i acc em
                    split at h'
                    · rename_i hz
                      have hD5 : ρ5[μ1.length]? = some D := t5.ext.get (t4.ext.get (t2.ext.get hDr))
                      obtain ⟨ws, q5, rr⟩ := lst_of t5.mem hD5 em
                      have t6 := putL t5.mem hD5 em (rr.append (.one r5))
                      refine ⟨ws, q5, by rw [← rr.length]; exact lim_lt hz, ρ5, _, (((t'.trans t2).trans t4).trans t5).trans t6, ?_⟩
                      revert h'
                      generalize lcGo j own g t e s μ1.length m (i + 1) (μ4.set μ1.length (.lst (acc ++ [v]))) = z
                      intro h'
                      cases z with
                      | ok c m2 => exact fun v2 H3 ρ3 t3 q3 => h' v2 H3 ρ3 ((((t2.trans t4).trans t5).trans t6).trans t3) q3
                      | ex c m2 => exact fun cls H3 ρ3 t3 e => h' cls H3 ρ3 ((((t2.trans t4).trans t5).trans t6).trans t3) e
                      | bad => exact h'
                    · exact h'.elim
                  · exact h'.elim
theorem ce_lc {tg iter : Expr} {ifs : List Expr} {elt : Expr} {scope : Scope} {own : List (Str × Nat)} {pos : Pos} {mi : FI} {g : Tgt} {t : FT} {e : FE} (G : Good X W k) (hN : X.N.Nodup) (ok : BlkOk X.N X.env.scope scope own) (hi : CI X W tg iter mi)
    (hg : ∀ s H0 C cl fp, CG (X.blk s H0 scope (compEnvC scope cl C X.env) fp) tg g) (ht : ∀ s H0 C cl fp, CTs (X.blk s H0 scope (compEnvC scope cl C X.env) fp) W0 ifs t)
    (he : ∀ s H0 C cl fp, CE (X.blk s H0 scope (compEnvC scope cl C X.env) fp) W0 elt e) (hsub : subT g (own.map (·.2)) = true) (hs0 : ∀ x, foldedSetIterable iter X.env x = pure x := by intro _; rfl) :
    CE X W (.ListComp elt [⟨tg, iter, ifs, 0⟩] scope pos) (fLc mi (own.map (·.2)) g t e) :=
  fun ρ μ s σ H Q hs hm h => ⟨_, pe_lc G.calm hN pi_w ok pg_wb pts_wb pe_wb hs0, lc_reads hi hg ht he hsub hs hm h⟩
theorem cs_setLc {i : Nat} {y : Str} {py : Pos} {tg iter : Expr} {ifs : List Expr} {elt : Expr} {scope : Scope} {own : List (Str × Nat)} {pos spos : Pos} {mi : FI} {g : Tgt} {t : FT} {e : FE} (G : Good X W k) (hN : X.N.Nodup) (hy : X.N[i]? = some y) (hyl : X.env.scope.names.lookup y = some .local)
    (hsw : swapsWith (.ListComp elt [⟨tg, iter, ifs, 0⟩] scope pos) (some (.Name y py)) spos.line X.env = pure true) (ok : BlkOk X.N X.env.scope scope own) (hi : CI X W tg iter mi)
    (hg : ∀ s H0 C cl fp, CG (X.blk s H0 scope (compEnvC scope cl C X.env) fp) tg g) (ht : ∀ s H0 C cl fp, CTs (X.blk s H0 scope (compEnvC scope cl C X.env) fp) W0 ifs t)
    (he : ∀ s H0 C cl fp, CE (X.blk s H0 scope (compEnvC scope cl C X.env) fp) W0 elt e) (hsub : subT g (own.map (·.2)) = true)
    (hp : ∀ {wi : TI} {gg : TG} {tt : TT} {te : TE}, PI X tg iter wi → (∀ (s : Shared) (H : Hp) (C : Addr) (cl : List (Str × Addr)) (fp : List Addr), PG (X.blk s H scope (compEnvC scope cl C X.env) fp) tg gg) → (∀ (s : Shared) (H : Hp) (C : Addr) (cl : List (Str × Addr)) (fp : List Addr), PTs (X.blk s H scope (compEnvC scope cl C X.env) fp) ifs tt) →
      (∀ (s : Shared) (H : Hp) (C : Addr) (cl : List (Str × Addr)) (fp : List Addr), PE (X.blk s H scope (compEnvC scope cl C X.env) fp) elt te) → PS X (.Assign [.Name y py] (.ListComp elt [⟨tg, iter, ifs, 0⟩] scope pos) spos) (tAsg (tLc wi gg tt te (own.map (·.2))) (gName i))) :
    CS X W (.Assign [.Name y py] (.ListComp elt [⟨tg, iter, ifs, 0⟩] scope pos) spos) (sAsg (.one i) (fLc mi (own.map (·.2)) g t e)) := by
  intro ρ μ s σ H D hs hm h
  refine ⟨_, hp pi_w pg_wb pts_wb pe_wb, ?_⟩
  refine lc_reads (W := W) hi hg ht he hsub hs hm ?_
  exact PostS.bind hs h fun u μ1 x H1 ρ1 t1 r1 h1 => h1 _ H1 ρ1 (Stp.refl t1.mem) ((t1.s hs).set r1)

/-! ### a def -/
def spF (K : PySem.W.Frag) (mg : Str → Option Value) (n : Nat) (g : List U → Mem → Res U) : Sp := fun vs H Q E => vs.length = n ∧ ∃ ρ μ us, RepVs K H ρ us vs ∧ RepM K H ρ μ ∧ match g us μ with
  | .ok u μ' => ∀ v H' ρ', Stp K ρ H ρ' H' μ' → RepV K H' ρ' u v → Q v H'
  | .ex c μ' => ∀ cls H' ρ', Stp K ρ H ρ' H' μ' → mg c = some cls → E cls none H'
  | .bad => False
def fDef (n : Nat) (g : List U → Mem → Res U) (a : FA) : FE := fun s μ => (a s μ).bind fun us μ1 => if us.length = n then g us μ1 else .bad
theorem ce_def {f : Addr} {fd : FuncData} {ps : List Str} {g : List U → Mem → Res U} {x : Str} {e : Expr} {es : List Expr} {ma : FA} {p pos : Pos} {j : Nat} (G : Good X W j) (hj : k ≤ j) (F : FnOk X.prog X.w X.K X.mg X.base (L2.CX X.prog X.w) k f fd ps (spF X.K X.mg ps.length g))
    (ha : CA X W (e :: es) ma) (hp : ∀ {E : L2.St → XK} {t : TA}, (∀ σ, PassesAt (L2.CX X.prog X.w) X σ (E σ)) → PA X (e :: es) t → PE X (.Call (.Name x p) (e :: es) [] pos) (tCallS (spF X.K X.mg ps.length g) E t)) :
    CE X W (.Call (.Name x p) (e :: es) [] pos) (fDef ps.length g ma) := by
  intro ρ μ s σ H Q hs hm h
  refine ⟨_, hp (fun σ => passAt G.tk σ) pa_w, ?_⟩
  refine ha ρ μ s σ H _ hs hm (h.bind fun us μ1 vs H1 ρ1 t1 r1 h1 => ?_)
  split at h1
  · rename_i hl
    refine ⟨by rw [← RepVs.length r1]; exact hl, ρ1, μ1, us, r1, t1.mem, ?_⟩
    generalize g us μ1 = z at h1
    cases z with
    | ok u m => exact fun v H' ρ' t r => h1 v H' ρ' t r
    | ex c m => exact fun cls H' ρ' t e => h1 cls H' ρ' t e
    | bad => exact h1
  · exact h1.elim
def runDef (n : Nat) (body : FS) (us : List U) (μ : Mem) : Res U := match body (us.map some ++ List.replicate (n - us.length) none) μ with
  | .nx _ μ' => .ok .non μ'
  | .rt u μ' => .ok u μ'
  | .ex c _ μ' => .ex c μ'
  | _ => .bad
theorem RepS.start {K : PySem.W.Frag} {H : Hp} {ρ : List Addr} {us : List U} {vs : List V} {N : List Str} (r : RepVs K H ρ us vs) : RepS K H ρ (us.map some ++ List.replicate (N.length - us.length) none) (start N vs) := by
  refine ⟨by unfold L2.start; simp [r.length], fun i u e => ?_⟩
  by_cases hi : i < us.length
  · rw [List.getElem?_append_left (by simpa using hi), List.getElem?_map] at e
    cases eu : us[i]? with
    | none => rw [eu] at e; cases e
    | some w =>
      rw [eu] at e
      cases e
      obtain ⟨v, q, rr⟩ := r.get eu
      refine ⟨v, ?_, rr⟩
      unfold L2.start
      rw [List.getElem?_append_left (by rw [List.length_map, ← r.length]; exact hi), List.getElem?_map, q]
      rfl
  · rw [List.getElem?_append_right (by simpa using Nat.le_of_not_lt hi)] at e
    have := List.mem_of_getElem? e
    simp at this
theorem def_ok {P : Program} {w : World} {K : PySem.W.Frag} {mg : Str → Option Value} {base : Heap} {x qual : Str} {st : Stmt} {f : Addr} {fd : FuncData} {N ps : List Str} {k : Nat} {body : FS} (F : Fun K x qual st f fd) (S : FnScope N ps (defScope st))
    (hb : ∀ (cdv : Value) (A : Around) (outer : List Env) (s : Shared) (H : Hp) (E : XK), Good (cxOf (L2.CX P w) P w K mg base N qual (defScope st) f cdv A outer s H E) (fun cls d _ H => E cls d H) k →
      CSs (cxOf (L2.CX P w) P w K mg base N qual (defScope st) f cdv A outer s H E) (fun cls d _ H => E cls d H) (defBody st) body) :
    FnOk P w K mg base (L2.CX P w) (k + 1) f fd ps (spF K mg ps.length (runDef N.length body)) := by
  refine F.okX S (fun vs H Q E h => h.1) (fun cdv A outer s H vs Q E hr h => ?_)
  obtain ⟨hl, ρ, μ, us, r, hm, hq⟩ := h
  have G : Good (cxOf (L2.CX P w) P w K mg base N qual (defScope st) f cdv A outer s H E) (fun cls d _ H => E cls d H) k := ⟨rfl, hr, takes_of rfl rfl rfl rfl, passes_of rfl⟩
  refine hb cdv A outer s H E G ρ μ _ _ H _ (RepS.start r) hm ?_
  unfold runDef at hq
  cases e : body (us.map some ++ List.replicate (N.length - us.length) none) μ with
  | nx s' m => rw [e] at hq; exact fun σ' H' ρ' t _ => hq _ H' ρ' t .non
  | rt u m => rw [e] at hq; exact fun v H' ρ' t r => hq v H' ρ' t r
  | bk s' m => rw [e] at hq; exact hq.elim
  | ct s' m => rw [e] at hq; exact hq.elim
  | ex c s' m => rw [e] at hq; exact fun cls σ' H' ρ' t _ eq => hq cls H' ρ' t eq
  | bad => rw [e] at hq; exact hq.elim
end
end Dg
/-! Dg6: further rules: extend by a tuple, dict copies and displays, reversed copies, constants of the module, the end. -/
namespace Dg
open PySem PySem.Spec PyProof.Rows L2 RZ

/-! ### xs.extend(ys), ys a list or a tuple -/
theorem mt_extendA {X : Cx} : MtR X "list.extend" (fun x vs H Q => ∃ l b xs zs, x = .ref l ∧ vs = [.ref b] ∧ H l = some (.lst xs) ∧ (SqL X.K H b zs ∨ SqT X.K H b zs) ∧ xs.length + zs.length ≤ sizeLine ∧ Q .non (upd H l (.lst (xs ++ zs)))) := by
  intro pins s σ H x vs v us Q I rx rv h
  obtain ⟨l, b, xs, zs, rfl, rfl, hH, hB, hz, q⟩ := h
  cases rx
  obtain ⟨u, rfl, ru⟩ := rv.one
  cases ru
  obtain ⟨z, its, n, r, hl, e⟩ := I.lstM hH
  have main : ∀ (T : String) (hT : T = "list" ∨ T = "tuple") (its2 : List Value) (o : Obj) (n2 : Nat), Vals zs its2 → s.heap.get? b = some o → o.cls = .type T → o.data = .seq its2.toArray n2 →
      wpAny (model X.prog X.w) X.A (call (.builtin "list.extend") [.ref l, .ref b]) (EP X pins σ Q) X.xe s := by
    intro T hT its2 o n2 r2 ho hc hd
    have hsz : its.toArray.size + its2.toArray.size ≤ sizeLine := by
      rw [List.size_toArray, List.size_toArray, ← r.length, ← r2.length]; exact hz
    have hlong : (!its.toArray.isEmpty && Builtin.List.listTooLong (its.toArray.size + its2.toArray.size)) = false := by
      rw [notLongL hsz, Bool.and_false]
    refine call_meets (S := fun _ R s' => s' = s ∧ R (.ok (.ret Value.none)) { s with heap := s.heap.update l (Obj.mapSeq fun x => x ++ its2.toArray) }) F.slot_list_extend ⟨_, e, rfl⟩ F.entry_list_extend (F.args_list_extend_2 _ _) ?_ ⟨rfl, ?_⟩
    · intro prog w A R s' hs
      obtain ⟨rfl, hR⟩ := hs
      show wpAny _ A.in1 (Builtin.List.listExtendWith (.ref l) (.ref b) .none) _ _ _
      unfold Builtin.List.listExtendWith
      refine wpAny_bind (wpAny_typeOf ⟨o, ho, hc⟩ ?_)
      have h1 : (Builtin.List.listSameRef (.ref l) (.ref b) || Value.type T == Value.type "list" || Value.type T == Value.type "tuple") = true := by
        rcases hT with rfl | rfl <;> simp
      simp only [h1, if_true]
      refine wpAny_bind ?_
      unfold Builtin.List.listItems
      refine wpAny_bind (wpAny_seqItems ho hd (wpAny_pure ?_))
      refine wpAny_bind ?_
      refine wpAny_bind (wpAny_seqItems e rfl (wpAny_pure ?_))
      rw [hlong]
      simp only [Bool.false_eq_true, if_false]
      refine wpAny_bind (wpAny_updateSeq e rfl ?_)
      exact wpAny_pure hR
    · refine ⟨.non, _, I.lset (its' := its ++ its2) (t' := s.toks) hH e (by simp) (r.append r2) ?_, rfl, q⟩
      rw [List.length_append]; exact hz
  rcases hB with hB | hB
  · obtain ⟨its2, r2, pl, hz2⟩ := I.list hB
    obtain ⟨o, ho, hc, n2, hd⟩ := pl.isList
    exact main "list" (.inl rfl) its2 o n2 r2 ho hc hd
  · obtain ⟨its2, r2, pl, hz2⟩ := I.tuple hB
    obtain ⟨o, ho, hc, n2, hd⟩ := pl
    exact main "tuple" (.inr rfl) its2 o n2 r2 ho hc hd
section
variable {X : Cx} {W : WX} {k : Nat}
def gExt (u : U) (us : List U) (μ : Mem) : Res U := match u, us with
  | .ref i, [w] => match μ[i]?, seqU μ w with
    | some (.lst xs), some ys => if xs.length + ys.length ≤ lim then .ok .non (μ.set i (.lst (xs ++ ys))) else .bad
    | _, _ => .bad
  | _, _ => .bad
theorem gs_ext : MtS X W "list.extend" gExt := by
  intro ρ μ σ H u us x vs Q hm ru rus h
  unfold gExt at h
  split at h
  · split at h
    · rename_i e e2
      split at h
      · cases ru with
        | ref hr =>
          cases rus with
          | cons r1 r2 =>
            cases r2
            obtain ⟨ws, q, rr⟩ := lst_of hm hr e
            obtain ⟨b, zs, rfl, q2, rr2⟩ := seqU_ok hm r1 e2
            exact ⟨_, mt_extendA, _, b, ws, zs, rfl, rfl, q, q2, by rw [← rr.length, ← rr2.length]; exact lim_le (by assumption), h.ok (putL hm hr e (rr.append rr2)) .non⟩
      · exact h.elim
    · exact h.elim
  · exact h.elim

/-! ### xs[::-1] -/
def fRevL (a : FE) : FE := fun s μ => (a s μ).bind fun u μ1 => match lstU μ1 u with
  | some us => .ok (.ref μ1.length) (μ1 ++ [.lst us.reverse])
  | none => .bad
theorem ce_revL {e : Expr} {me : FE} {j : Nat} {p1 p2 p3 pos : Pos} (he : CE X W e me) : CE X W (.Subscript e (.Slice none none (some (.UnaryOp .USub (.Constant (.int 1) j p1) p2)) p3) pos) (fRevL me) := by
  intro ρ μ s σ H Q hs hm h
  refine ⟨_, pe_revL pe_w, ?_⟩
  refine he ρ μ s σ H _ hs hm (h.bind fun u μ1 x H1 ρ1 t1 r1 h1 => ?_)
  split at h1
  · rename_i us e1
    obtain ⟨a, vs, rfl, q1, r2⟩ := lstU_ok t1.mem r1 e1
    exact ⟨_, _, rfl, q1, fun p np => h1.ok (newL t1.mem np r2.reverse) (refN t1.mem)⟩
  · exact h1.elim

/-! ### dict(d), {}, {k: v, ..} -/
def bDict (us : List U) (μ : Mem) : Res U := match us with
  | [u] => match dctU μ u with
    | some kus => .ok (.ref μ.length) (μ ++ [.dct kus])
    | none => .bad
  | _ => .bad
theorem cs_dict : CallS X W (.type "dict") bDict := by
  intro ρ μ σ H us vs Q hm r h
  unfold bDict at h
  split at h
  · cases r with
    | cons ru r0 =>
      cases r0
      split at h
      · rename_i kus e
        obtain ⟨a, kvs, rfl, q1, r1⟩ := dct_at hm ru e
        exact ⟨_, call_dictD, a, kvs, rfl, .inl q1, fun p np => h.ok (newD hm np r1) (refN hm)⟩
      · exact h.elim
  · exact h.elim
def fD0 : FE := fun _ μ => .ok (.ref μ.length) (μ ++ [.dct []])
theorem ce_d0 {pos : Pos} : CE X W (.Dict [] [] pos) fD0 := fun ρ μ s σ H Q hs hm h => ⟨_, pe_dnewK, fun p np => h.ok (newD hm np RepKV.nil) (refN hm)⟩

/-! ### constants of the module -/
def GlobC (K : PySem.W.Frag) (mg : Str → Option Value) (x : Str) (u : U) : Prop := ∃ z v, mg x = some z ∧ RelV v z ∧ ∀ H ρ, RepV K H ρ u v
theorem ce_globC {x : Str} {u : U} {pos : Pos} (hg : Gl X x) (h : GlobC X.K X.mg x u) (hd : (x == ("__debug__" : Str)) = false := by decide) : CE X W (.Name x pos) (fC u) := by
  obtain ⟨z, v, h1, h2, h3⟩ := h
  exact ce_glob hg h1 h2 h3 hd
/-- a dict of the module with text keys, asked by a key that is there -/
def KTab (K : PySem.W.Frag) (mg : Str → Option Value) (w : World) (x : Str) (tab : List (Str × U)) : Prop := ∃ a, mg x = some (.ref a) ∧ ∀ z u, tab.lookup z = some u → ∃ v, KDct K w a z v ∧ ∀ H ρ, RepV K H ρ u v
def fKGet (tab : List (Str × U)) (i : FE) : FE := fun s μ => (i s μ).bind fun u μ1 => match u with
  | .str z => opt (tab.lookup z) μ1
  | _ => .bad
theorem ce_kget {x : Str} {tab : List (Str × U)} {i : Expr} {mi : FE} {p pos : Pos} (hg : Gl X x) (h : KTab X.K X.mg X.w x tab) (hi : CE X W i mi) (hp : PlainIx i := by exact fun _ _ => rfl) (hd : (x == ("__debug__" : Str)) = false := by decide) :
    CE X W (.Subscript (.Name x p) i pos) (fKGet tab mi) := by
  intro ρ μ s σ H Q hs hm q
  obtain ⟨a, h1, h2⟩ := h
  refine ⟨_, pe_ix ix_kdict (pe_glob hg h1 (v := .ref a) rfl hd) pe_w hp, ?_⟩
  refine hi ρ μ s σ H _ hs hm (q.bind fun u μ1 y H1 ρ1 t1 r1 h3 => ?_)
  split at h3
  · rename_i z
    cases r1
    cases e : tab.lookup z with
    | none => rw [e] at h3; exact h3.elim
    | some w =>
      rw [e] at h3
      obtain ⟨v, h4, h5⟩ := h2 z w e
      exact ⟨a, z, v, rfl, rfl, h4, h3.ok (Stp.refl t1.mem) (h5 _ _)⟩
  · exact h3.elim

/-! ### a def without arguments -/
theorem pe_call0S {f : Addr} {fd : FuncData} {ps : List Str} {sp : Sp} {CX : CXT} {E : L2.St → XK} {x : Str} {p pos : Pos} (F : FnOk X.prog X.w X.K X.mg X.base CX k f fd ps sp) (hr : Room k X.A) (hg : Gl X x) (hm : X.mg x = some (.ref f)) (hk : PySem.W.keepIn X.K (.ref f) = true) (hb : Binds X.K fd ps []) (hx : ∀ σ, PassesAt CX X σ (E σ))
    (hdb : (x == ("__debug__" : Str)) = false := by decide) : PE X (.Call (.Name x p) [] [] pos) (fun σ H Q => sp [] H Q (E σ)) := by
  refine ⟨fun pins s σ H Q I h => ?_⟩
  refine wpAny_Call_Name_kw (ld_glob I hg hm ?_ hdb)
  exact PySem.W.callWith_K0 I.kIn hk (run_fnS (us := []) F hr hb (hx σ) I .nil h)
theorem ce_def0 {f : Addr} {fd : FuncData} {ps : List Str} {g : List U → Mem → Res U} {x : Str} {p pos : Pos} {j : Nat} (G : Good X W j) (F : FnOk X.prog X.w X.K X.mg X.base (L2.CX X.prog X.w) k f fd ps (spF X.K X.mg ps.length g))
    (hp : ∀ {E : L2.St → XK}, (∀ σ, PassesAt (L2.CX X.prog X.w) X σ (E σ)) → PE X (.Call (.Name x p) [] [] pos) (fun σ H Q => spF X.K X.mg ps.length g [] H Q (E σ))) :
    CE X W (.Call (.Name x p) [] [] pos) (fDef ps.length g aNil) := by
  intro ρ μ s σ H Q hs hm h
  refine ⟨_, hp (fun σ => passAt G.tk σ), ?_⟩
  have h1 : Post X W σ relV ρ H (if ([] : List U).length = ps.length then g [] μ else .bad) Q := h
  split at h1
  · rename_i hl
    refine ⟨hl, ρ, μ, [], .nil, hm, ?_⟩
    generalize g [] μ = z at h1
    cases z with
    | ok u m => exact fun v H' ρ' t r => h1 v H' ρ' t r
    | ex c m => exact fun cls H' ρ' t e => h1 cls H' ρ' t e
    | bad => exact h1
  · exact h1.elim

/-! ### a comprehension's frame -/
theorem Good.blk {s : Shared} {H : Hp} {scope : Scope} {cenv : Env} {fp : List Addr} (G : Good X W k) : Good (X.blk s H scope cenv fp) W0 k := ⟨G.calm, ⟨G.room.hd, G.room.dp, G.room.un⟩, takes0, PassesOwn.never⟩
end

/-! ### a def that is never well asked -/
theorem fn_bad {P : Program} {w : World} {K : PySem.W.Frag} {mg : Str → Option Value} {base : Heap} {CX : CXT} {k : Nat} {f : Addr} {fd : FuncData} {ps : List Str} : FnOk P w K mg base CX k f fd ps (spF K mg ps.length fun _ _ => .bad) := by
  have no : ∀ vs H Q E, ¬ spF K mg ps.length (fun _ _ => .bad) vs H Q E := fun vs H Q E ⟨_, _, _, _, _, _, h⟩ => h
  exact ⟨fun vs H Q E h => h.1, fun A outer s H args us vs Q E _ _ _ _ h => absurd h (no vs H Q E)⟩

/-! ### the end of a law -/
theorem end_of {K : PySem.W.Frag} {mg : Str → Option Value} {g : List U → Mem → Res U} {H : Hp} {a : Addr} {ns : List Int} (h : ∃ μ, g [.frl (ns.map U.int)] [] = .ok (.bl true) μ) (ho : Only H) (hS : SqL K H a (ns.map V.int)) :
    spF K mg 1 g [.ref a] H (fun v _ => v = .bl true) fun _ _ _ => False := by
  obtain ⟨μ, e⟩ := h
  have fr : FrL K H a (ns.map V.int) := by
    rcases hS with (h | ⟨o, h⟩) | h
    · rcases ho a with q | ⟨o, xs, q⟩ <;> (rw [h] at q; cases q)
    · exact .inl ⟨o, h⟩
    · exact .inr h
  refine ⟨rfl, [], [], [.frl (ns.map U.int)], .one (.frl fr (RepVs.ofInts ns)), ⟨rfl, List.nodup_nil, fun i c e => by simp at e⟩, ?_⟩
  rw [e]
  intro v H' ρ' _ r
  cases r
  rfl

/-! ### built-ins by name -/
theorem bt_len : bootBuiltins "len" = some (.builtin "len") := by decide +kernel
theorem bt_abs : bootBuiltins "abs" = some (.builtin "abs") := by decide +kernel
theorem bt_max : bootBuiltins "max" = some (.builtin "max") := by decide +kernel
theorem bt_min : bootBuiltins "min" = some (.builtin "min") := by decide +kernel
theorem bt_sum : bootBuiltins "sum" = some (.builtin "sum") := by decide +kernel
theorem bt_all : bootBuiltins "all" = some (.builtin "all") := by decide +kernel
theorem bt_any : bootBuiltins "any" = some (.builtin "any") := by decide +kernel
theorem bt_sorted : bootBuiltins "sorted" = some (.builtin "sorted") := by decide +kernel
theorem bt_isinstance : bootBuiltins "isinstance" = some (.builtin "isinstance") := by decide +kernel
theorem bt_int : bootBuiltins "int" = some (.type "int") := by decide +kernel
theorem bt_bool : bootBuiltins "bool" = some (.type "bool") := by decide +kernel
theorem bt_str : bootBuiltins "str" = some (.type "str") := by decide +kernel
theorem bt_list : bootBuiltins "list" = some (.type "list") := by decide +kernel
theorem bt_tuple : bootBuiltins "tuple" = some (.type "tuple") := by decide +kernel
theorem bt_dict : bootBuiltins "dict" = some (.type "dict") := by decide +kernel
theorem kt_int : ∀ t ∈ ["NoneType", "bool", "int", "str", "tuple", "list", "dict"], kitB t "int" = some (isTy "int" t) := by decide +kernel
theorem kt_bool : ∀ t ∈ ["NoneType", "bool", "int", "str", "tuple", "list", "dict"], kitB t "bool" = some (isTy "bool" t) := by decide +kernel
theorem kt_str : ∀ t ∈ ["NoneType", "bool", "int", "str", "tuple", "list", "dict"], kitB t "str" = some (isTy "str" t) := by decide +kernel
theorem kt_list : ∀ t ∈ ["NoneType", "bool", "int", "str", "tuple", "list", "dict"], kitB t "list" = some (isTy "list" t) := by decide +kernel
theorem kt_tuple : ∀ t ∈ ["NoneType", "bool", "int", "str", "tuple", "list", "dict"], kitB t "tuple" = some (isTy "tuple" t) := by decide +kernel
theorem kt_dict : ∀ t ∈ ["NoneType", "bool", "int", "str", "tuple", "list", "dict"], kitB t "dict" = some (isTy "dict" t) := by decide +kernel
end Dg
/-! Dg7: the head's facts for the mirror: constants by value, tables, defs. -/
namespace Dg
open PySem PySem.Spec PyProof.Rows L2 RZ

/-! ### a value of the written part is one of the mirror's -/
def repB (K : PySem.W.Frag) : Nat → Value → U → Bool
  | 0, _, _ => false
  | n + 1, v, u => match u with
    | .non => (match v with
      | .none => true
      | _ => false)
    | .bl b => (match v with
      | .bool c => decide (c = b)
      | _ => false)
    | .int i => (match v with
      | .int j _ => decide (j = i)
      | _ => false)
    | .str x => (match v with
      | .str y _ => decide (y = x) && PyData.strOk x
      | _ => false)
    | .tup us => (match v with
      | .ref a => (match K.lookup a with
        | some ⟨.type c, _, .seq its _, _⟩ => decide (c = "tuple") && (Nat.ble its.size 1000 && (decide (its.toList.length = us.length) && (its.toList.zip us).all fun p => repB K n p.1 p.2))
        | _ => false)
      | _ => false)
    | _ => false
def Reps (K : PySem.W.Frag) (v : Value) (u : U) : Prop := ∃ x, RelV x v ∧ ∀ H ρ, RepV K H ρ u x
theorem reps_all {K : PySem.W.Frag} {n : Nat} (ih : ∀ v u, repB K n v u = true → Reps K v u) : ∀ (its : List Value) (us : List U), its.length = us.length → ((its.zip us).all fun p => repB K n p.1 p.2) = true → ∃ vs, Vals vs its ∧ ∀ H ρ, RepVs K H ρ us vs
  | [], [], _, _ => ⟨[], .nil, fun _ _ => .nil⟩
  | [], _ :: _, h, _ => by simp at h
  | _ :: _, [], h, _ => by simp at h
  | v :: its, u :: us, h, q => by
    simp only [List.zip_cons_cons, List.all_cons, Bool.and_eq_true] at q
    obtain ⟨x, r1, r2⟩ := ih v u q.1
    obtain ⟨vs, s1, s2⟩ := reps_all ih its us (by simpa using h) q.2
    exact ⟨x :: vs, .cons r1 s1, fun H ρ => .cons (r2 H ρ) (s2 H ρ)⟩
theorem repB_ok {K : PySem.W.Frag} : ∀ (n : Nat) (v : Value) (u : U), repB K n v u = true → Reps K v u
  | 0, _, _, h => by simp [repB] at h
  | n + 1, v, u, h => by
    cases u with
    | non => cases v <;> first | exact ⟨.non, rfl, fun _ _ => .non⟩ | (simp [repB] at h)
    | bl b => cases v <;> first | (simp [repB] at h; subst h; exact ⟨.bl _, rfl, fun _ _ => .bl⟩) | (simp [repB] at h)
    | int i => cases v <;> first | (simp [repB] at h; subst h; exact ⟨.int _, ⟨_, rfl⟩, fun _ _ => .int⟩) | (simp [repB] at h)
    | str x => cases v <;> first | (simp [repB] at h; obtain ⟨h1, h2⟩ := h; subst h1; exact ⟨.str _, ⟨_, rfl⟩, fun _ _ => .str h2⟩) | (simp [repB] at h)
    | tup us =>
      cases v with
      | ref a =>
        simp only [repB] at h
        split at h
        · rename_i o c od its m sl e
          simp only [Bool.and_eq_true, decide_eq_true_eq] at h
          obtain ⟨h1, h2, h3, h4⟩ := h
          subst h1
          obtain ⟨vs, s1, s2⟩ := reps_all (fun v u q => repB_ok n v u q) its.toList us h3 h4
          refine ⟨.ref a, rfl, fun H ρ => .tup (.inr ⟨_, its, m, e, rfl, rfl, ?_, s1⟩) (s2 H ρ)⟩
          exact Nat.le_trans (Nat.le_of_ble_eq_true h2) (by decide)
        · cases h
      | _ => simp [repB] at h
    | ref i => simp [repB] at h
    | frl us => simp [repB] at h

/-! ### the facts -/
inductive FaU where
  | con (x : Str) (u : U)
  | tab (x : Str) (kvs : List (Str × U))
def FaU.ok (K : PySem.W.Frag) : FaU → Bool
  | .con x u => (match PySem.W.nsIn K mainGlobals x with
    | some (some v) => repB K 12 v u
    | _ => false)
  | .tab x kvs => kvs.all fun q => (match PySem.W.nsIn K (He.ga K x) q.1 with
    | some (some v) => repB K 12 v q.2
    | _ => false)
abbrev AlU : Type := He.AlT × Bool
def obsU (fa : List He.Fa) (fn : List He.DefD) (ts : List He.Tab) (fu : List FaU) (K : PySem.W.Frag) : AlU := (He.obsT fa fn ts K, fu.all fun f => f.ok K)
def valU' (fn : List He.DefD) (ts : List He.Tab) (w : World) : AlU := (He.valT fn ts w, true)
def SaysU (fa : List He.Fa) (fn : List He.DefD) (ts : List He.Tab) (fu : List FaU) (w : World) (K : PySem.W.Frag) : Prop := obsU fa fn ts fu K = valU' fn ts w
def obsUG (n : Nat) (fa : List He.Fa) (fn : List He.DefD) (ts : List He.Tab) (fu : List FaU) (g : Addr → Option Obj) : AlU := obsU fa fn ts fu (He.frG g (He.asD g n))
def hookU (n : Nat) (fa : List He.Fa) (fn : List He.DefD) (ts : List He.Tab) (fu : List FaU) : PySem.W.Hook where
  α := AlU
  obs := fun s => obsUG n fa fn ts fu s.heap.get?
  val := fun w => valU' fn ts w
  says := fun w h => ∃ K : PySem.W.Frag, K.In h ∧ SaysU fa fn ts fu w K
  of := fun _ _ e => ⟨_, He.frG_in, e⟩
  keeps := fun _ _ _ ⟨K, hK, c⟩ k => ⟨K, PySem.W.Frag.In.keeps hK k, c⟩
theorem obsUG_eq {n : Nat} {fa : List He.Fa} {fn : List He.DefD} {ts : List He.Tab} {fu : List FaU} {g : Addr → Option Obj} {s : Shared} (h : ∀ a, g a = s.heap.get? a) : obsUG n fa fn ts fu g = (hookU n fa fn ts fu).obs s := by
  have e : g = s.heap.get? := funext h
  rw [e] <;> rfl
section
variable {fa : List He.Fa} {fn : List He.DefD} {ts : List He.Tab} {fu : List FaU} {w : World} {K : PySem.W.Frag} {h : Heap} {mg : Str → Option Value}
theorem SaysU.t (c : SaysU fa fn ts fu w K) : He.SaysT fa fn ts w K := congrArg (fun z : AlU => z.1) c
theorem SaysU.f (c : SaysU fa fn ts fu w K) (i : Nat) {f : FaU} (hf : fu[i]? = some f := by rfl) : f.ok K = true := by
  have e : (fu.all fun f => f.ok K) = true := congrArg (fun z : AlU => z.2) c
  exact List.all_eq_true.mp e f (List.mem_of_getElem? hf)
theorem con_ok (X : K.In h) (G : h.Ns mainGlobals mg) {x : Str} {u : U} (c : (FaU.con x u).ok K = true) : GlobC K mg x u := by
  simp only [FaU.ok] at c
  cases e : PySem.W.nsIn K mainGlobals x with
  | none => rw [e] at c; cases c
  | some r =>
    rw [e] at c
    cases r with
    | none => cases c
    | some v =>
      obtain ⟨y, r1, r2⟩ := repB_ok 12 v u c
      exact ⟨v, y, PySem.W.mg_of X G e, r1, r2⟩
theorem tab_ok (X : K.In h) (G : h.Ns mainGlobals mg) {x : Str} {kvs : List (Str × U)} {es : Array DictEntry} {n : Nat} (c : (FaU.tab x kvs).ok K = true) (g : (He.Fa.glo x).ok K = true) (D : KDict K w (He.ga K x) es n) : KTab K mg w x kvs := by
  refine ⟨He.ga K x, He.glo_ok X G g, fun z u hz => ?_⟩
  have hm : (z, u) ∈ kvs := by
    clear c
    induction kvs with
    | nil => cases hz
    | cons p r ih =>
      rw [List.lookup_cons] at hz
      split at hz
      · rename_i e
        cases hz
        have e2 := beq_iff_eq.mp e
        subst e2
        exact List.mem_cons_self
      · exact List.mem_cons_of_mem _ (ih hz)
  simp only [FaU.ok] at c
  have q := List.all_eq_true.mp c (z, u) hm
  simp only at q
  cases e : PySem.W.nsIn K (He.ga K x) z with
  | none => rw [e] at q; cases q
  | some r =>
    rw [e] at q
    cases r with
    | none => cases q
    | some v =>
      obtain ⟨y, r1, r2⟩ := repB_ok 12 v u q
      exact ⟨y, ⟨es, n, v, D.at_, D.lit, e, r1⟩, r2⟩
end

/-! ### a def by its body, from such facts -/
abbrev FnP (K : PySem.W.Frag) (x : Str) (st : Stmt) (f : Addr) (fd : FuncData) : Prop := FunD K x x (defArgs st) (defBody st) (defScope st) [] [] f fd
theorem defD_ok {P : Program} {w : World} {K : PySem.W.Frag} {mg : Str → Option Value} {base : Heap} {x : Str} {st : Stmt} {f : Addr} {fd : FuncData} {N ps : List Str} {k : Nat} {body : FS} (F : FnP K x st f fd) (S : FnScope N ps (defScope st))
    (hb : ∀ (cdv : Value) (A : Around) (outer : List Env) (s : Shared) (H : Hp) (E : XK), Good (cxOf (L2.CX P w) P w K mg base N x (defScope st) f cdv A outer s H E) (fun cls d _ H => E cls d H) k →
      CSs (cxOf (L2.CX P w) P w K mg base N x (defScope st) f cdv A outer s H E) (fun cls d _ H => E cls d H) (defBody st) body) :
    FnOk P w K mg base (L2.CX P w) (k + 1) f fd ps (spF K mg ps.length (runDef N.length body)) := by
  refine F.ok S (fun vs H Q E h => h.1) (fun cdv A outer s H vs Q E hr h => ?_)
  obtain ⟨hl, ρ, μ, us, r, hm, hq⟩ := h
  have G : Good (cxOf (L2.CX P w) P w K mg base N x (defScope st) f cdv A outer s H E) (fun cls d _ H => E cls d H) k := ⟨rfl, hr, takes_of rfl rfl rfl rfl, passes_of rfl⟩
  refine hb cdv A outer s H E G ρ μ _ _ H _ (RepS.start r) hm ?_
  unfold runDef at hq
  cases e : body (us.map some ++ List.replicate (N.length - us.length) none) μ with
  | nx s' m => rw [e] at hq; exact fun σ' H' ρ' t _ => hq _ H' ρ' t .non
  | rt u m => rw [e] at hq; exact fun v H' ρ' t r => hq v H' ρ' t r
  | bk s' m => rw [e] at hq; exact hq.elim
  | ct s' m => rw [e] at hq; exact hq.elim
  | ex c s' m => rw [e] at hq; exact fun cls σ' H' ρ' t _ eq => hq cls H' ρ' t eq
  | bad => rw [e] at hq; exact hq.elim
/-- the end over a head by facts, what a def lets out told by the world -/
theorem walk_dg {l : PySem.W.OpenLaw} {n k : Nat} {q : Program} {loose : List Str} {XP : (Str → Option Value) → Heap → Prop} {YP : World → Heap → Prop} {d : DefRec} {CX : World → CXT} {x : Str}
    (hn : l.most = some n) (hl : n ≤ sizeLine) (hdf : d.params.defaults = []) (hr : Room k callerA) (hCX : ∀ (w : World) (H : Hp) (s : Shared) (e : Value) (s' : Shared), CX w [] H s (fun _ _ _ => False) e s' → False)
    (F : ∀ (w : World) (mg : Str → Option Value) (fa : Addr) (h : Heap), YP w h → h.Ns mainGlobals mg → mg d.name = some (.ref fa) → ∃ (K : PySem.W.Frag) (fd : FuncData) (sp : Sp), K.In h ∧
      (∀ (s : Shared) (u : Value), BindsTo s fd ⟨[u], []⟩ [(x, u)]) ∧ (∀ (H : Hp) (a : Addr) (ns : List Int), ns.length ≤ n → Only H → SqL K H a (ns.map V.int) → sp [.ref a] H (fun v _ => v = .bl true) fun _ _ _ => False) ∧
      ∀ base : Heap, K.In base → base.Ns mainGlobals mg → FnOk l.prog w K mg base (CX w) k fa fd [x] sp) :
    PySem.W.WalkO q loose XP YP l.row.toRowW d [] (fun f vs => PySem.call f vs) := by
  refine Att.attach_call hn hdf fun w s0 s1 mg mb fa o pm cd doc a vs ns G Y ho hd hcd hmg hob hi hle hg => ?_
  obtain ⟨K, fd, sp, KX, hb, hsp, hF⟩ := F w mg fa _ Y G.T.g hmg
  refine law_call KX G.T.g G.T.b G.T.builtins G.T.nolimit hg hob hi (Nat.le_trans hle hl) hr hF hb ?_ ?_
  · exact fun H hO hS => hsp H a ns hle hO hS
  · exact fun H e s' => hCX w H s1 e s'
theorem cx_none {P : Program} {w : World} (H : Hp) (s : Shared) (e : Value) (s' : Shared) (h : L2.CX P w [] H s (fun _ _ _ => False) e s') : False := by
  obtain ⟨_, _, _, _, _, _, _, _, _, _, _, _, z⟩ := h
  exact z.elim
end Dg
/-! Dg8: reckoning with mirrors: what is wanted behind an expression, a statement. -/
namespace Dg
open PySem PySem.Spec PyProof.Rows L2 RZ

def wpE {α : Type} (r : Res α) (Q : α → Mem → Prop) (E : Str → Mem → Prop) : Prop := match r with
  | .ok a μ => Q a μ
  | .ex c μ => E c μ
  | .bad => False
structure Dn where
  nx : Slots → Mem → Prop
  rt : U → Mem → Prop
  bk : Slots → Mem → Prop
  ct : Slots → Mem → Prop
  ex : Str → Slots → Mem → Prop
def wpS (o : Out) (D : Dn) : Prop := match o with
  | .nx s μ => D.nx s μ
  | .rt u μ => D.rt u μ
  | .bk s μ => D.bk s μ
  | .ct s μ => D.ct s μ
  | .ex c s μ => D.ex c s μ
  | .bad => False
section
variable {α β : Type} {s : Slots} {μ : Mem} {E : Str → Mem → Prop} {D : Dn}
theorem wpE.mono {r : Res α} {Q Q' : α → Mem → Prop} (h : wpE r Q E) (k : ∀ a μ', Q a μ' → Q' a μ') : wpE r Q' E := by
  cases r with
  | ok a m => exact k a m h
  | ex c m => exact h
  | bad => exact h
theorem wpE.get {r : Res α} {Q : α → Mem → Prop} (h : wpE r Q fun _ _ => False) : ∃ a μ', r = .ok a μ' ∧ Q a μ' := by
  cases r with
  | ok a m => exact ⟨a, m, rfl, h⟩
  | ex c m => exact h.elim
  | bad => exact h.elim
theorem wpE.of {r : Res α} {Q : α → Mem → Prop} {a : α} {μ' : Mem} (e : r = .ok a μ') (q : Q a μ') : wpE r Q E := by
  rw [e]; exact q
theorem wpS.mono {o : Out} {D D' : Dn} (h : wpS o D) (n : ∀ s μ, D.nx s μ → D'.nx s μ) (r : ∀ u μ, D.rt u μ → D'.rt u μ) (b : ∀ s μ, D.bk s μ → D'.bk s μ) (c : ∀ s μ, D.ct s μ → D'.ct s μ) (e : ∀ x s μ, D.ex x s μ → D'.ex x s μ) : wpS o D' := by
  cases o with
  | nx s m => exact n s m h
  | rt u m => exact r u m h
  | bk s m => exact b s m h
  | ct s m => exact c s m h
  | ex x s m => exact e x s m h
  | bad => exact h
theorem w_bind {r : Res α} {k : α → Mem → Res β} {Q : β → Mem → Prop} : wpE (r.bind k) Q E = wpE r (fun a μ => wpE (k a μ) Q E) E := by cases r <;> rfl
theorem w_var {i : Nat} {Q : U → Mem → Prop} : wpE (fVar i s μ) Q E = ∃ u, s[i]? = some (some u) ∧ Q u μ := by
  unfold fVar
  split
  · rename_i u e
    apply propext
    exact ⟨fun q => ⟨u, e, q⟩, fun ⟨w, e2, q⟩ => by rw [e] at e2; cases e2; exact q⟩
  · rename_i h
    apply propext
    exact ⟨fun q => q.elim, fun ⟨w, e2, q⟩ => absurd e2 (h w)⟩
theorem w_c {u : U} {Q : U → Mem → Prop} : wpE (fC u s μ) Q E = Q u μ := rfl
theorem w_op {f : U → U → Mem → Res U} {a b : FE} {Q : U → Mem → Prop} : wpE (fOp f a b s μ) Q E = wpE (a s μ) (fun u μ1 => wpE (b s μ1) (fun w μ2 => wpE (f u w μ2) Q E) E) E := by
  unfold fOp; rw [w_bind]; congr 1; funext u μ1; rw [w_bind]
theorem w_res {α : Type} {o : Option α} {Q : α → Mem → Prop} : wpE (opt o μ) Q E = ∃ a, o = some a ∧ Q a μ := by
  cases o with
  | none => apply propext; exact ⟨fun h => h.elim, fun ⟨a, e, _⟩ => nomatch e⟩
  | some a => apply propext; exact ⟨fun h => ⟨a, rfl, h⟩, fun ⟨b, e, h⟩ => by cases e; exact h⟩
theorem w_resB {o : Option Bool} {Q : U → Mem → Prop} : wpE (Dg.resB o μ) Q E = ∃ b, o = some b ∧ Q (.bl b) μ := by
  cases o with
  | none => apply propext; exact ⟨fun h => h.elim, fun ⟨a, e, _⟩ => nomatch e⟩
  | some a => apply propext; exact ⟨fun h => ⟨a, rfl, h⟩, fun ⟨b, e, h⟩ => by cases e; exact h⟩
theorem w_eq {u w : U} {Q : U → Mem → Prop} : wpE (uEq u w μ) Q E = ∃ b, eqU u w μ = some b ∧ Q (.bl b) μ := w_resB
theorem w_ne {u w : U} {Q : U → Mem → Prop} : wpE (uNe u w μ) Q E = ∃ b, eqU u w μ = some b ∧ Q (.bl (!b)) μ := by
  unfold uNe; rw [w_resB]
  apply propext
  constructor
  · rintro ⟨b, e, q⟩
    cases h : eqU u w μ with
    | none => rw [h] at e; cases e
    | some c => rw [h] at e; cases e; exact ⟨c, rfl, q⟩
  · rintro ⟨b, e, q⟩
    exact ⟨!b, by rw [e]; rfl, q⟩
theorem w_in {u w : U} {Q : U → Mem → Prop} : wpE (uIn u w μ) Q E = ∃ b, inU u w μ = some b ∧ Q (.bl b) μ := w_resB
theorem w_nin {u w : U} {Q : U → Mem → Prop} : wpE (uNin u w μ) Q E = ∃ b, inU u w μ = some b ∧ Q (.bl (!b)) μ := by
  unfold uNin; rw [w_resB]
  apply propext
  constructor
  · rintro ⟨b, e, q⟩
    cases h : inU u w μ with
    | none => rw [h] at e; cases e
    | some c => rw [h] at e; cases e; exact ⟨c, rfl, q⟩
  · rintro ⟨b, e, q⟩
    exact ⟨!b, by rw [e]; rfl, q⟩
theorem eq_str {a b : Str} : eqU (.str a) (.str b) μ = some (decide (a = b)) := by
  have : eqU (.str a) (.str b) μ = some (PyData.eqv (.str a) (.str b)) := rfl
  rw [this]
  congr 1
theorem eq_int {a b : Int} : eqU (.int a) (.int b) μ = some (decide (a = b)) := by
  have : eqU (.int a) (.int b) μ = some (PyData.eqv (.int a) (.int b)) := rfl
  rw [this]
  congr 1
theorem w_addI {i j : Int} {Q : U → Mem → Prop} : wpE (uAdd (.int i) (.int j) μ) Q E = Q (.int (i + j)) μ := rfl
theorem w_subI {i j : Int} {Q : U → Mem → Prop} : wpE (uSub (.int i) (.int j) μ) Q E = Q (.int (i - j)) μ := rfl
theorem w_mulI {i j : Int} {Q : U → Mem → Prop} : wpE (uMul (.int i) (.int j) μ) Q E = ((big64 i || big64 j) = true ∧ Q (.int (i * j)) μ) := by
  show wpE (if (big64 i || big64 j) = true then _ else _) Q E = _
  split
  · rename_i h; simp [h, wpE]
  · rename_i h; simp [h, wpE]
theorem w_modI {i j : Int} {Q : U → Mem → Prop} : wpE (uMod (.int i) (.int j) μ) Q E = (j ≠ 0 ∧ Q (.int (i.fmod j)) μ) := by
  show wpE (if j ≠ 0 then _ else _) Q E = _
  split
  · rename_i h; simp [h, wpE]
  · rename_i h; simp [h, wpE]
theorem w_fdivI {i j : Int} {Q : U → Mem → Prop} : wpE (uFdiv (.int i) (.int j) μ) Q E = ((j ≠ 0 ∧ j.natAbs < 1073741824) ∧ Q (.int (i.fdiv j)) μ) := by
  show wpE (if j ≠ 0 ∧ j.natAbs < 1073741824 then _ else _) Q E = _
  split
  · rename_i h; simp [h, wpE]
  · rename_i h; simp only [h, wpE]; simp
theorem w_ltI {i j : Int} {Q : U → Mem → Prop} : wpE (uLt (.int i) (.int j) μ) Q E = Q (.bl (decide (i < j))) μ := rfl
theorem w_leI {i j : Int} {Q : U → Mem → Prop} : wpE (uLe (.int i) (.int j) μ) Q E = Q (.bl (decide (i ≤ j))) μ := rfl
theorem w_gtI {i j : Int} {Q : U → Mem → Prop} : wpE (uGt (.int i) (.int j) μ) Q E = Q (.bl (decide (j < i))) μ := rfl
theorem w_geI {i j : Int} {Q : U → Mem → Prop} : wpE (uGe (.int i) (.int j) μ) Q E = Q (.bl (decide (j ≤ i))) μ := rfl
/-! items -/
theorem w_ixT {us : List U} {i : Int} {Q : U → Mem → Prop} : wpE (ixU (.tup us) (.int i) μ) Q E = ∃ a, atI us i = some a ∧ Q a μ := w_res
theorem ix_L {r : Nat} {us : List U} {i : Int} (h : μ[r]? = some (.lst us)) : ixU (.ref r) (.int i) μ = opt (atI us i) μ := by
  unfold ixU dctU seqU
  simp only [h]
theorem w_ixL {r : Nat} {us : List U} {i : Int} {Q : U → Mem → Prop} (h : μ[r]? = some (.lst us)) : wpE (ixU (.ref r) (.int i) μ) Q E = ∃ a, atI us i = some a ∧ Q a μ := by rw [ix_L h, w_res]
theorem w_ixD {r : Nat} {kvs : List (Key × U)} {x : Str} {Q : U → Mem → Prop} (h : μ[r]? = some (.dct kvs)) : wpE (ixU (.ref r) (.str x) μ) Q E = ∃ a, valU kvs (.inr x) = some a ∧ Q a μ := by
  have : ixU (.ref r) (.str x) μ = opt (valU kvs (.inr x)) μ := by
    unfold ixU dctU
    simp only [h, keyU]
  rw [this, w_res]
/-! calls -/
theorem w_call {g : List U → Mem → Res U} {a : FA} {Q : U → Mem → Prop} : wpE (fCall g a s μ) Q E = wpE (a s μ) (fun us μ1 => wpE (g us μ1) Q E) E := w_bind
theorem w_def {n : Nat} {g : List U → Mem → Res U} {a : FA} {Q : U → Mem → Prop} : wpE (fDef n g a s μ) Q E = wpE (a s μ) (fun us μ1 => us.length = n ∧ wpE (g us μ1) Q E) E := by
  unfold fDef; rw [w_bind]; congr 1; funext us μ1
  split
  · rename_i h; simp [h]
  · rename_i h; simp [h, wpE]
theorem w_anil {Q : List U → Mem → Prop} : wpE (aNil s μ) Q E = Q [] μ := rfl
theorem w_acons {a : FE} {r : FA} {Q : List U → Mem → Prop} : wpE (aCons a r s μ) Q E = wpE (a s μ) (fun u μ1 => wpE (r s μ1) (fun us μ2 => Q (u :: us) μ2) E) E := by
  unfold aCons; rw [w_bind]; congr 1; funext u μ1; rw [w_bind]; rfl
theorem w_tup {a : FA} {Q : U → Mem → Prop} : wpE (fTup a s μ) Q E = wpE (a s μ) (fun us μ1 => us.length ≤ lim ∧ Q (.tup us) μ1) E := by
  unfold fTup; rw [w_bind]; congr 1; funext us μ1
  split
  · rename_i h; simp [h, wpE]
  · rename_i h; simp [h, wpE]
theorem w_lst {a : FA} {Q : U → Mem → Prop} : wpE (fLst a s μ) Q E = wpE (a s μ) (fun us μ1 => us.length ≤ lim ∧ Q (.ref μ1.length) (μ1 ++ [.lst us])) E := by
  unfold fLst; rw [w_bind]; congr 1; funext us μ1
  split
  · rename_i h; simp [h, wpE]
  · rename_i h; simp [h, wpE]
theorem w_int {i : Int} {Q : U → Mem → Prop} : wpE (bInt [.int i] μ) Q E = Q (.int i) μ := rfl
theorem w_intB {b : Bool} {Q : U → Mem → Prop} : wpE (bInt [.bl b] μ) Q E = Q (.int (if b then 1 else 0)) μ := rfl
theorem w_lenT {us : List U} {Q : U → Mem → Prop} : wpE (bLen [.tup us] μ) Q E = Q (.int us.length) μ := rfl
theorem w_lenL {r : Nat} {us : List U} {Q : U → Mem → Prop} (h : μ[r]? = some (.lst us)) : wpE (bLen [.ref r] μ) Q E = Q (.int us.length) μ := by
  have : bLen [.ref r] μ = .ok (.int us.length) μ := by unfold bLen lenU; simp only [h]
  rw [this]; rfl
theorem w_tupleL {r : Nat} {us : List U} {Q : U → Mem → Prop} (h : μ[r]? = some (.lst us)) : wpE (bTuple [.ref r] μ) Q E = Q (.tup us) μ := by
  have : bTuple [.ref r] μ = .ok (.tup us) μ := by unfold bTuple seqU; simp only [h]
  rw [this]; rfl
theorem w_dictD {r : Nat} {kvs : List (Key × U)} {Q : U → Mem → Prop} (h : μ[r]? = some (.dct kvs)) : wpE (bDict [.ref r] μ) Q E = Q (.ref μ.length) (μ ++ [.dct kvs]) := by
  have : bDict [.ref r] μ = .ok (.ref μ.length) (μ ++ [.dct kvs]) := by unfold bDict dctU; simp only [h]
  rw [this]; rfl
theorem w_d0 {Q : U → Mem → Prop} : wpE (fD0 s μ) Q E = Q (.ref μ.length) (μ ++ [.dct []]) := rfl
theorem w_app {o : FE} {a : FA} {Q : U → Mem → Prop} {g : U → List U → Mem → Res U} : wpE (fMtL g o a s μ) Q E = wpE (o s μ) (fun u μ1 => ∃ us, lstU μ1 u = some us ∧ wpE (a s μ1) (fun us μ2 => wpE (g u us μ2) Q E) E) E := by
  unfold fMtL; rw [w_bind]; congr 1; funext u μ1
  cases e : lstU μ1 u with
  | none => simp [wpE]
  | some us => simp only [w_bind]; simp
theorem lstU_L {r : Nat} {us : List U} (h : μ[r]? = some (.lst us)) : lstU μ (.ref r) = some us := by unfold lstU; simp only [h]
theorem w_append {r : Nat} {us : List U} {w : U} {Q : U → Mem → Prop} (h : μ[r]? = some (.lst us)) (hl : us.length < lim) : wpE (gAppend (.ref r) [w] μ) Q E = Q .non (μ.set r (.lst (us ++ [w]))) := by
  have : gAppend (.ref r) [w] μ = .ok .non (μ.set r (.lst (us ++ [w]))) := by unfold gAppend; simp only [h, hl, if_true]
  rw [this]; rfl
theorem w_pop {r : Nat} {us : List U} {w : U} {Q : U → Mem → Prop} (h : μ[r]? = some (.lst (us ++ [w]))) : wpE (gPop (.ref r) [] μ) Q E = Q w (μ.set r (.lst us)) := by
  have : gPop (.ref r) [] μ = .ok w (μ.set r (.lst us)) := by
    unfold gPop
    simp only [h]
    simp
  rw [this]; rfl
theorem w_extT {r : Nat} {us ws : List U} {Q : U → Mem → Prop} (h : μ[r]? = some (.lst us)) (hl : us.length + ws.length ≤ lim) : wpE (gExt (.ref r) [.tup ws] μ) Q E = Q .non (μ.set r (.lst (us ++ ws))) := by
  have : gExt (.ref r) [.tup ws] μ = .ok .non (μ.set r (.lst (us ++ ws))) := by unfold gExt seqU; simp only [h, hl, if_true]
  rw [this]; rfl
/-! tests -/
theorem w_tstB {a : FE} {Q : Bool → Mem → Prop} : wpE (tstB a s μ) Q E = wpE (a s μ) (fun u μ1 => ∃ b, u = .bl b ∧ Q b μ1) E := by
  unfold tstB; rw [w_bind]; congr 1; funext u μ1
  cases u <;> simp [wpE]
theorem w_tst {a : FE} {Q : Bool → Mem → Prop} : wpE (tst a s μ) Q E = wpE (a s μ) (fun u μ1 => ∃ b, truU μ1 u = some b ∧ Q b μ1) E := by
  unfold tst; rw [w_bind]; congr 1; funext u μ1
  cases truU μ1 u <;> simp [wpE]
theorem w_nt {t : FT} {Q : Bool → Mem → Prop} : wpE (tNt t s μ) Q E = wpE (t s μ) (fun b μ1 => Q (!b) μ1) E := w_bind
theorem w_an {t u : FT} {Q : Bool → Mem → Prop} : wpE (tAn t u s μ) Q E = wpE (t s μ) (fun b μ1 => if b = true then wpE (u s μ1) Q E else Q false μ1) E := by
  unfold tAn; rw [w_bind]; congr 1; funext b μ1; cases b <;> simp [wpE]
theorem w_or {t u : FT} {Q : Bool → Mem → Prop} : wpE (tOr' t u s μ) Q E = wpE (t s μ) (fun b μ1 => if b = true then Q true μ1 else wpE (u s μ1) Q E) E := by
  unfold tOr'; rw [w_bind]; congr 1; funext b μ1; cases b <;> simp [wpE]
theorem w_all {Q : Bool → Mem → Prop} : wpE (tAll s μ) Q E = Q true μ := rfl
theorem w_if {t : FT} {a b : FE} {Q : U → Mem → Prop} : wpE (fIf t a b s μ) Q E = wpE (t s μ) (fun c μ1 => if c = true then wpE (a s μ1) Q E else wpE (b s μ1) Q E) E := by
  unfold fIf; rw [w_bind]; congr 1; funext b μ1; cases b <;> simp
/-! statements -/
theorem w_ofR {r : Res α} {k : α → Mem → Out} : wpS (ofR r s k) D = wpE r (fun a μ => wpS (k a μ) D) (fun c μ => D.ex c s μ) := by cases r <;> rfl
theorem s_seq {a b : FS} : wpS (sSeq a b s μ) D = wpS (a s μ) { D with nx := fun s1 μ1 => wpS (b s1 μ1) D } := by
  unfold sSeq
  cases a s μ <;> rfl
theorem s_next : wpS (sNext s μ) D = D.nx s μ := rfl
theorem s_brk : wpS (sBrk s μ) D = D.bk s μ := rfl
theorem s_cnt : wpS (sCnt s μ) D = D.ct s μ := rfl
theorem s_expr {a : FE} : wpS (sExpr a s μ) D = wpE (a s μ) (fun _ μ1 => D.nx s μ1) (fun c μ => D.ex c s μ) := w_ofR
theorem s_ret {a : FE} : wpS (sRet a s μ) D = wpE (a s μ) (fun u μ1 => D.rt u μ1) (fun c μ => D.ex c s μ) := w_ofR
theorem s_retN : wpS (sRetN s μ) D = D.rt .non μ := rfl
theorem s_if {t : FT} {a b : FS} : wpS (sIf t a b s μ) D = wpE (t s μ) (fun c μ1 => if c = true then wpS (a s μ1) D else wpS (b s μ1) D) (fun c μ => D.ex c s μ) := by
  unfold sIf; rw [w_ofR]; congr 1; funext c μ1; cases c <;> simp
theorem s_asg {g : Tgt} {a : FE} : wpS (sAsg g a s μ) D = wpE (a s μ) (fun u μ1 => ∃ s1, setT g u s = some s1 ∧ D.nx s1 μ1) (fun c μ => D.ex c s μ) := by
  unfold sAsg; rw [w_ofR]; congr 1; funext u μ1
  cases setT g u s <;> simp [wpS]
theorem s_asg1 {i : Nat} {a : FE} : wpS (sAsg (.one i) a s μ) D = wpE (a s μ) (fun u μ1 => D.nx (s.set i (some u)) μ1) (fun c μ => D.ex c s μ) := by
  rw [s_asg]; congr 1; funext u μ1; simp [setT]
theorem s_store {o i a : FE} : wpS (sStore o i a s μ) D = wpE (a s μ) (fun u μ1 => wpE (o s μ1) (fun x μ2 => wpE (i s μ2) (fun y μ3 => ∃ μ4, stU x y u μ3 = some μ4 ∧ D.nx s μ4) (fun c μ => D.ex c s μ)) (fun c μ => D.ex c s μ)) (fun c μ => D.ex c s μ) := by
  unfold sStore; rw [w_ofR]; congr 1; funext u μ1; rw [w_ofR]; congr 1; funext x μ2; rw [w_ofR]; congr 1; funext y μ3
  cases stU x y u μ3 <;> simp [wpS]
theorem stU_D {r : Nat} {kvs : List (Key × U)} {x : Str} {u : U} (h : μ[r]? = some (.dct kvs)) (hl : kvs.length < lim) : stU (.ref r) (.str x) u μ = some (μ.set r (.dct (putU kvs (.inr x) u))) := by
  unfold stU; simp only [h, keyU, hl, if_true]
theorem stU_L {r j : Nat} {us : List U} {i : Int} {u : U} (h : μ[r]? = some (.lst us)) (hj : ixN us.length i = some j) : stU (.ref r) (.int i) u μ = some (μ.set r (.lst (us.set j u))) := by
  unfold stU; simp only [h, hj]
/-- a def's run -/
theorem w_run {n : Nat} {body : FS} {us : List U} {Q : U → Mem → Prop} : wpE (runDef n body us μ) Q E = wpS (body (us.map some ++ List.replicate (n - us.length) none) μ) ⟨fun _ μ' => Q .non μ', Q, fun _ _ => False, fun _ _ => False, fun c _ μ' => E c μ'⟩ := by
  unfold runDef
  cases body (us.map some ++ List.replicate (n - us.length) none) μ <;> rfl

/-! ### loops -/
theorem w_for {it : FI} {g : Tgt} {b : FS} : wpS (sFor it g b s μ) D = wpE (it s μ) (fun j μ1 => wpS (sForGo g b fuelF j 0 s μ1) D) (fun c μ => D.ex c s μ) := w_ofR
/-- a for by what holds at each turn -/
theorem for_by {j : IterU} {g : Tgt} {b : FS} (I : Nat → Slots → Mem → Prop) (n : Nat) (hb : ∀ i s μ, I i s μ → i ≤ n)
    (step : ∀ i s μ, I i s μ → (itemAt j i μ = some none ∧ D.nx s μ) ∨ ∃ u s1, itemAt j i μ = some (some u) ∧ setT g u s = some s1 ∧ wpS (b s1 μ) ⟨I (i + 1), D.rt, D.nx, I (i + 1), D.ex⟩) :
    ∀ (f i : Nat) (s : Slots) (μ : Mem), n < f + i → I i s μ → wpS (sForGo g b f j i s μ) D
  | 0, i, s, μ, hf, h => by
    have := hb i s μ h
    omega
  | f + 1, i, s, μ, hf, h => by
    rcases step i s μ h with ⟨e, q⟩ | ⟨u, s1, e, e2, q⟩
    · simp only [sForGo, e]; exact q
    · simp only [sForGo, e, e2]
      cases eb : b s1 μ with
      | nx s2 μ2 => rw [eb] at q; exact for_by I n hb step f (i + 1) s2 μ2 (by omega) q
      | ct s2 μ2 => rw [eb] at q; exact for_by I n hb step f (i + 1) s2 μ2 (by omega) q
      | bk s2 μ2 => rw [eb] at q; exact q
      | rt u m2 => rw [eb] at q; exact q
      | ex c2 u m2 => rw [eb] at q; exact q
      | bad => rw [eb] at q; exact q
theorem for_go {j : IterU} {g : Tgt} {b : FS} (I : Nat → Slots → Mem → Prop) (n : Nat) (hn : n < 1000000) (h0 : I 0 s μ) (hb : ∀ i s μ, I i s μ → i ≤ n)
    (step : ∀ i s μ, I i s μ → (itemAt j i μ = some none ∧ D.nx s μ) ∨ ∃ u s1, itemAt j i μ = some (some u) ∧ setT g u s = some s1 ∧ wpS (b s1 μ) ⟨I (i + 1), D.rt, D.nx, I (i + 1), D.ex⟩) : wpS (sForGo g b fuelF j 0 s μ) D :=
  for_by I n hb step fuelF 0 s μ (by unfold fuelF; omega) h0
/-- a while by a measure -/
theorem while_by' {t : FT} {b : FS} (I : Nat → Slots → Mem → Prop)
    (step : ∀ m s μ, I m s μ → wpE (t s μ) (fun c μ1 => if c = true then ∃ m', m = m' + 1 ∧ wpS (b s μ1) ⟨I m', D.rt, D.nx, I m', D.ex⟩ else D.nx s μ1) (fun c μ => D.ex c s μ)) :
    ∀ (f m : Nat) (s : Slots) (μ : Mem), m < f → I m s μ → wpS (sWhile t b f s μ) D
  | 0, m, s, μ, hf, h => by omega
  | f + 1, m, s, μ, hf, h => by
    have q := step m s μ h
    simp only [sWhile, w_ofR]
    refine wpE.mono q fun c μ1 hc => ?_
    cases c with
    | false => simpa [wpS] using hc
    | true =>
      simp only [if_true] at hc
      obtain ⟨m', rfl, q2⟩ := hc
      cases eb : b s μ1 with
      | nx s2 μ2 => rw [eb] at q2; exact while_by' I step f m' s2 μ2 (by omega) q2
      | ct s2 μ2 => rw [eb] at q2; exact while_by' I step f m' s2 μ2 (by omega) q2
      | bk s2 μ2 => rw [eb] at q2; exact q2
      | rt u m2 => rw [eb] at q2; exact q2
      | ex c2 u m2 => rw [eb] at q2; exact q2
      | bad => rw [eb] at q2; exact q2
theorem while_go {t : FT} {b : FS} (I : Nat → Slots → Mem → Prop) {m : Nat} (hm : m < 1000000) (h0 : I m s μ)
    (step : ∀ m s μ, I m s μ → wpE (t s μ) (fun c μ1 => if c = true then ∃ m', m = m' + 1 ∧ wpS (b s μ1) ⟨I m', D.rt, D.nx, I m', D.ex⟩ else D.nx s μ1) (fun c μ => D.ex c s μ)) : wpS (sWhile t b fuelF s μ) D :=
  while_by' I step fuelF m s μ (by unfold fuelF; omega) h0
/-- a comprehension by what holds at each turn -/
theorem w_lc {it : FI} {own : List Nat} {g : Tgt} {t : FT} {e : FE} {Q : U → Mem → Prop} : wpE (fLc it own g t e s μ) Q E = wpE (it s μ) (fun j μ1 => wpE (lcGo j own g t e s μ1.length fuelF 0 (μ1 ++ [.lst []])) Q E) E := w_bind
theorem lc_by {j : IterU} {own : List Nat} {g : Tgt} {t : FT} {e : FE} {d : Nat} {Q : U → Mem → Prop} (I : Nat → Mem → Prop) (n : Nat) (hb : ∀ i μ, I i μ → i ≤ n)
    (step : ∀ i μ, I i μ → (itemAt j i μ = some none ∧ Q (.ref d) μ) ∨ ∃ u s1, itemAt j i μ = some (some u) ∧ setT g u (wipeU s own) = some s1 ∧
      wpE (t s1 μ) (fun b μ3 => if b = true then wpE (e s1 μ3) (fun v μ4 => ∃ acc, μ4[d]? = some (.lst acc) ∧ acc.length < lim ∧ I (i + 1) (μ4.set d (.lst (acc ++ [v])))) (fun _ _ => False) else I (i + 1) μ3) (fun _ _ => False)) :
    ∀ (f i : Nat) (μ : Mem), n < f + i → I i μ → wpE (lcGo j own g t e s d f i μ) Q E
  | 0, i, μ, hf, h => by
    have := hb i μ h
    omega
  | f + 1, i, μ, hf, h => by
    rcases step i μ h with ⟨e0, q⟩ | ⟨u, s1, e0, e2, q⟩
    · simp only [lcGo, e0]; exact q
    · simp only [lcGo, e0, e2]
      cases et : t s1 μ with
      | ex c m => rw [et] at q; exact q.elim
      | bad => rw [et] at q; exact q.elim
      | ok b μ3 =>
        rw [et] at q
        cases b with
        | false => exact lc_by I n hb step f (i + 1) μ3 (by omega) q
        | true =>
          have q' : wpE (e s1 μ3) (fun v μ4 => ∃ acc, μ4[d]? = some (.lst acc) ∧ acc.length < lim ∧ I (i + 1) (μ4.set d (.lst (acc ++ [v])))) (fun _ _ => False) := q
          cases ee : e s1 μ3 with
          | ex c m => rw [ee] at q'; exact q'.elim
          | bad => rw [ee] at q'; exact q'.elim
          | ok v μ4 =>
            rw [ee] at q'
            obtain ⟨acc, a1, a2, a3⟩ := q'
            simp only [ee, a1, a2, if_true]
            exact lc_by I n hb step f (i + 1) _ (by omega) a3
theorem lc_go {j : IterU} {own : List Nat} {g : Tgt} {t : FT} {e : FE} {d : Nat} {Q : U → Mem → Prop} (I : Nat → Mem → Prop) (n : Nat) (hn : n < 1000000) (h0 : I 0 μ) (hb : ∀ i μ, I i μ → i ≤ n)
    (step : ∀ i μ, I i μ → (itemAt j i μ = some none ∧ Q (.ref d) μ) ∨ ∃ u s1, itemAt j i μ = some (some u) ∧ setT g u (wipeU s own) = some s1 ∧
      wpE (t s1 μ) (fun b μ3 => if b = true then wpE (e s1 μ3) (fun v μ4 => ∃ acc, μ4[d]? = some (.lst acc) ∧ acc.length < lim ∧ I (i + 1) (μ4.set d (.lst (acc ++ [v])))) (fun _ _ => False) else I (i + 1) μ3) (fun _ _ => False)) :
    wpE (lcGo j own g t e s d fuelF 0 μ) Q E := lc_by I n hb step fuelF 0 μ (by unfold fuelF; omega) h0
/-! what is walked -/
theorem w_iseqT {a : FE} {Q : IterU → Mem → Prop} : wpE (iSeq a s μ) Q E = wpE (a s μ) (fun u μ1 => match u with
  | .tup us => Q (.seq us) μ1
  | .frl us => Q (.seq us) μ1
  | .str z => Q (.seq (signsU z)) μ1
  | .ref r => ∃ us, listAt μ1 r = some us ∧ Q (.live r) μ1
  | _ => False) E := by
  unfold iSeq; rw [w_bind]; congr 1; funext u μ1
  cases u with
  | ref r =>
    simp only
    cases listAt μ1 r <;> simp [wpE]
  | _ => rfl
theorem w_rg1 {a : FE} {Q : IterU → Mem → Prop} : wpE (iRg1 a s μ) Q E = wpE (a s μ) (fun u μ1 => ∃ n, u = .int n ∧ okR n = true ∧ Q (.rng 0 1 n.toNat) μ1) E := by
  unfold iRg1; rw [w_bind]; congr 1; funext u μ1
  cases u with
  | int n =>
    simp only
    split
    · rename_i h; simp [h, wpE]
    · rename_i h; simp [h, wpE]
  | _ => simp [wpE]
theorem w_rev1 {a : FE} {Q : IterU → Mem → Prop} : wpE (iRev1 a s μ) Q E = wpE (a s μ) (fun u μ1 => ∃ n, u = .int n ∧ okR n = true ∧ Q (.rng (n.toNat - 1) (-1) n.toNat) μ1) E := by
  unfold iRev1; rw [w_bind]; congr 1; funext u μ1
  cases u with
  | int n =>
    simp only
    split
    · rename_i h; simp [h, wpE]
    · rename_i h; simp [h, wpE]
  | _ => simp [wpE]
theorem listAt_L {r : Nat} {us : List U} (h : μ[r]? = some (.lst us)) : listAt μ r = some us := by unfold listAt; simp only [h]
theorem item_live {r i : Nat} {us : List U} (h : μ[r]? = some (.lst us)) : itemAt (.live r) i μ = some us[i]? := by
  simp only [itemAt, listAt_L h]; rfl
theorem item_rng {lo c : Int} {n i : Nat} : itemAt (.rng lo c n) i μ = some (if i < n then some (.int (lo + (i : Int) * c)) else none) := rfl
theorem item_seq {us : List U} {i : Nat} : itemAt (.seq us) i μ = some us[i]? := rfl
end
/-! ### places -/
theorem atI_nat {α : Type} {xs : List α} (n : Nat) : atI xs (n : Int) = xs[n]? := by
  unfold L2.atI L2.ixN
  rw [if_pos (by omega)]
  by_cases h : n < xs.length
  · rw [if_pos (by omega)]
    simp
  · rw [if_neg (by omega)]
    simp
    omega
theorem atI_0 {α : Type} {x : α} {xs : List α} : atI (x :: xs) 0 = some x := atI_nat (xs := x :: xs) 0
theorem atI_1 {α : Type} {x y : α} {xs : List α} : atI (x :: y :: xs) 1 = some y := atI_nat (xs := x :: y :: xs) 1
theorem atI_2 {α : Type} {x y z : α} {xs : List α} : atI (x :: y :: z :: xs) 2 = some z := atI_nat (xs := x :: y :: z :: xs) 2
theorem atI_3 {α : Type} {x y z a : α} {xs : List α} : atI (x :: y :: z :: a :: xs) 3 = some a := atI_nat (xs := x :: y :: z :: a :: xs) 3
theorem atI_4 {α : Type} {x y z a b : α} {xs : List α} : atI (x :: y :: z :: a :: b :: xs) 4 = some b := atI_nat (xs := x :: y :: z :: a :: b :: xs) 4
theorem atI_5 {α : Type} {x y z a b c : α} {xs : List α} : atI (x :: y :: z :: a :: b :: c :: xs) 5 = some c := atI_nat (xs := x :: y :: z :: a :: b :: c :: xs) 5
theorem atI_in {α : Type} {xs : List α} {i : Int} (h0 : 0 ≤ i) (h1 : i < xs.length) : ∃ a, atI xs i = some a ∧ a ∈ xs := by
  obtain ⟨j, rfl⟩ := Int.eq_ofNat_of_zero_le h0
  have hl : j < xs.length := by omega
  exact ⟨xs[j], (atI_nat j).trans (List.getElem?_eq_getElem hl), List.getElem_mem _⟩
theorem fmod_in {x m : Int} (h : 0 < m) : 0 ≤ x.fmod m ∧ x.fmod m < m := by
  rw [Int.fmod_eq_emod_of_nonneg _ (by omega)]
  exact ⟨Int.emod_nonneg _ (by omega), Int.emod_lt_of_pos _ h⟩
/-! ### memories that grow -/
/-- all but the cell s stays -/
structure Gr (s : Nat) (μ μ' : Mem) : Prop where
  le : μ.length ≤ μ'.length
  at_ : ∀ i, i < μ.length → i ≠ s → μ'[i]? = μ[i]?
theorem Gr.refl {s : Nat} {μ : Mem} : Gr s μ μ := ⟨Nat.le_refl _, fun _ _ _ => rfl⟩
theorem Gr.trans {s : Nat} {a b c : Mem} (h : Gr s a b) (g : Gr s b c) : Gr s a c := ⟨Nat.le_trans h.le g.le, fun i hi hs => (g.at_ i (Nat.lt_of_lt_of_le hi h.le) hs).trans (h.at_ i hi hs)⟩
theorem Gr.get {s i : Nat} {μ μ' : Mem} {c : Cell} (g : Gr s μ μ') (h : μ[i]? = some c) (hs : i ≠ s) : μ'[i]? = some c := (g.at_ i (List.getElem?_eq_some_iff.mp h).1 hs).trans h
theorem Gr.snoc {s : Nat} {μ : Mem} {c : Cell} : Gr s μ (μ ++ [c]) := ⟨by simp, fun i hi _ => List.getElem?_append_left hi⟩
theorem Gr.set {s : Nat} {μ : Mem} {c : Cell} : Gr s μ (μ.set s c) := ⟨by simp, fun i _ hs => List.getElem?_set_ne (Ne.symm hs)⟩
/-- a cell of the new part changes -/
theorem Gr.put {s i : Nat} {μ μ' : Mem} {c : Cell} (g : Gr s μ μ') (h : μ.length ≤ i) : Gr s μ (μ'.set i c) := ⟨by simpa using g.le, fun j hj hs => by
  rw [List.getElem?_set_ne (by omega)]; exact g.at_ j hj hs⟩
theorem get_snoc {μ : Mem} {c : Cell} : (μ ++ [c])[μ.length]? = some c := by simp
theorem get_set {μ : Mem} {i : Nat} {c d : Cell} (h : μ[i]? = some d) : (μ.set i c)[i]? = some c := List.getElem?_set_self (List.getElem?_eq_some_iff.mp h).1
theorem get_set_ne {μ : Mem} {i j : Nat} {c d : Cell} (h : μ[j]? = some d) (ne : i ≠ j) : (μ.set i c)[j]? = some d := (List.getElem?_set_ne ne).trans h
theorem get_snoc_lt {μ : Mem} {i : Nat} {c d : Cell} (h : μ[i]? = some d) : (μ ++ [c])[i]? = some d := (List.getElem?_append_left (List.getElem?_eq_some_iff.mp h).1).trans h
theorem get_lt {μ : Mem} {i : Nat} {d : Cell} (h : μ[i]? = some d) : i < μ.length := (List.getElem?_eq_some_iff.mp h).1
end Dg
namespace Lw
open PySem PySem.Spec PyProof.Rows L2 RZ Dg
/-! ### the text by places -/
def top (i : Nat) : Stmt := PySem.Challenge.pw_doppelganger_k01_parts_and_nodes.main.body.getD i (.Pass ⟨0, 0, 0, 0⟩)
abbrev s_kids : Stmt := top 3
abbrev N_kids : List Str := ["term", "kind", "found", "_", "fields", "field", "part"]
theorem sc_kids : FnScope N_kids ["term", "kind"] (defScope s_kids) := ⟨rfl, rfl, rfl, by decide +kernel, rfl, by decide +kernel, by decide +kernel⟩
abbrev s_levels_of_parts : Stmt := top 4
abbrev N_levels_of_parts : List Str := ["term", "level", "many", "levels"]
theorem sc_levels_of_parts : FnScope N_levels_of_parts ["term", "level", "many"] (defScope s_levels_of_parts) := ⟨rfl, rfl, rfl, by decide +kernel, rfl, by decide +kernel, by decide +kernel⟩
abbrev s_nodes : Stmt := top 5
abbrev N_nodes : List Str := ["term", "kind", "found", "waiting", "node_kind", "node", "level", "parts", "levels", "at", "part_kind", "part"]
theorem sc_nodes : FnScope N_nodes ["term", "kind"] (defScope s_nodes) := ⟨rfl, rfl, rfl, by decide +kernel, rfl, by decide +kernel, by decide +kernel⟩
abbrev s_steps_of : Stmt := top 6
abbrev N_steps_of : List Str := ["command", "last_ones", "rest"]
theorem sc_steps_of : FnScope N_steps_of ["command"] (defScope s_steps_of) := ⟨rfl, rfl, rfl, by decide +kernel, rfl, by decide +kernel, by decide +kernel⟩
abbrev s_row : Stmt := top 7
abbrev N_row : List Str := ["first", "second", "whole", "step"]
theorem sc_row : FnScope N_row ["first", "second"] (defScope s_row) := ⟨rfl, rfl, rfl, by decide +kernel, rfl, by decide +kernel, by decide +kernel⟩
abbrev s__law_stream : Stmt := top 9
abbrev N__law_stream : List Str := ["script", "numbers", "cell", "rest", "k", "mixed"]
theorem sc__law_stream : FnScope N__law_stream ["script"] (defScope s__law_stream) := ⟨rfl, rfl, rfl, by decide +kernel, rfl, by decide +kernel, by decide +kernel⟩
abbrev s__law_pick : Stmt := top 10
abbrev N__law_pick : List Str := ["numbers", "at", "many"]
theorem sc__law_pick : FnScope N__law_pick ["numbers", "at", "many"] (defScope s__law_pick) := ⟨rfl, rfl, rfl, by decide +kernel, rfl, by decide +kernel, by decide +kernel⟩
abbrev s__law_next : Stmt := top 11
abbrev N__law_next : List Str := ["state", "many"]
theorem sc__law_next : FnScope N__law_next ["state", "many"] (defScope s__law_next) := ⟨rfl, rfl, rfl, by decide +kernel, rfl, by decide +kernel, by decide +kernel⟩
abbrev s__law_callable : Stmt := top 12
abbrev N__law_callable : List Str := ["scope", "kind", "most", "found", "name"]
theorem sc__law_callable : FnScope N__law_callable ["scope", "kind", "most"] (defScope s__law_callable) := ⟨rfl, rfl, rfl, by decide +kernel, rfl, by decide +kernel, by decide +kernel⟩
abbrev s__law_sorts : Stmt := top 13
abbrev N__law_sorts : List Str := ["scope", "sort", "name"]
theorem sc__law_sorts : FnScope N__law_sorts ["scope", "sort"] (defScope s__law_sorts) := ⟨rfl, rfl, rfl, by decide +kernel, rfl, by decide +kernel, by decide +kernel⟩
abbrev s__law_call : Stmt := top 14
abbrev N__law_call : List Str := ["state", "kind", "scope", "depth", "found", "name", "args", "one", "part"]
theorem sc__law_call : FnScope N__law_call ["state", "kind", "scope", "depth"] (defScope s__law_call) := ⟨rfl, rfl, rfl, by decide +kernel, rfl, by decide +kernel, by decide +kernel⟩
abbrev s__law_leaf : Stmt := top 15
abbrev N__law_leaf : List Str := ["state", "kind", "scope", "way", "variables", "labels", "name"]
theorem sc__law_leaf : FnScope N__law_leaf ["state", "kind", "scope"] (defScope s__law_leaf) := ⟨rfl, rfl, rfl, by decide +kernel, rfl, by decide +kernel, by decide +kernel⟩
abbrev s__law_inner : Stmt := top 16
abbrev N__law_inner : List Str := ["scope", "name", "binding", "inner"]
theorem sc__law_inner : FnScope N__law_inner ["scope", "name", "binding"] (defScope s__law_inner) := ⟨rfl, rfl, rfl, by decide +kernel, rfl, by decide +kernel, by decide +kernel⟩
abbrev s__law_pool : Stmt := top 17
abbrev N__law_pool : List Str := ["state"]
theorem sc__law_pool : FnScope N__law_pool ["state"] (defScope s__law_pool) := ⟨rfl, rfl, rfl, by decide +kernel, rfl, by decide +kernel, by decide +kernel⟩
abbrev s__law_proc : Stmt := top 18
abbrev N__law_proc : List Str := ["state", "kind", "scope", "depth", "params", "body", "k", "name", "one", "result", "types", "inner", "first", "param"]
theorem sc__law_proc : FnScope N__law_proc ["state", "kind", "scope", "depth"] (defScope s__law_proc) := ⟨rfl, rfl, rfl, by decide +kernel, rfl, by decide +kernel, by decide +kernel⟩
abbrev s__law_common : Stmt := top 19
abbrev N__law_common : List Str := ["state", "kind", "scope", "depth", "way", "first", "second", "name"]
theorem sc__law_common : FnScope N__law_common ["state", "kind", "scope", "depth", "way"] (defScope s__law_common) := ⟨rfl, rfl, rfl, by decide +kernel, rfl, by decide +kernel, by decide +kernel⟩
abbrev s__law_joined : Stmt := top 20
abbrev N__law_joined : List Str := ["first", "second", "steps", "left", "k", "result"]
theorem sc__law_joined : FnScope N__law_joined ["first", "second"] (defScope s__law_joined) := ⟨rfl, rfl, rfl, by decide +kernel, rfl, by decide +kernel, by decide +kernel⟩
abbrev s__law_command : Stmt := top 21
abbrev N__law_command : List Str := ["state", "scope", "depth", "way", "first", "variables", "name"]
theorem sc__law_command : FnScope N__law_command ["state", "scope", "depth", "way"] (defScope s__law_command) := ⟨rfl, rfl, rfl, by decide +kernel, rfl, by decide +kernel, by decide +kernel⟩
abbrev s__law_term : Stmt := top 22
abbrev N__law_term : List Str := ["state", "kind", "scope", "depth", "way", "first", "tag"]
theorem sc__law_term : FnScope N__law_term ["state", "kind", "scope", "depth"] (defScope s__law_term) := ⟨rfl, rfl, rfl, by decide +kernel, rfl, by decide +kernel, by decide +kernel⟩
abbrev s__law_decls : Stmt := top 23
abbrev N__law_decls : List Str := ["state", "found", "k", "name", "types", "j"]
theorem sc__law_decls : FnScope N__law_decls ["state"] (defScope s__law_decls) := ⟨rfl, rfl, rfl, by decide +kernel, rfl, by decide +kernel, by decide +kernel⟩
abbrev s__law_scope : Stmt := top 24
abbrev N__law_scope : List Str := ["decls", "scope", "decl"]
theorem sc__law_scope : FnScope N__law_scope ["decls"] (defScope s__law_scope) := ⟨rfl, rfl, rfl, by decide +kernel, rfl, by decide +kernel, by decide +kernel⟩
abbrev s__law_piece : Stmt := top 25
abbrev N__law_piece : List Str := ["state", "depth", "decls", "kind"]
theorem sc__law_piece : FnScope N__law_piece ["state", "depth"] (defScope s__law_piece) := ⟨rfl, rfl, rfl, by decide +kernel, rfl, by decide +kernel, by decide +kernel⟩
abbrev s__law_kids : Stmt := top 26
abbrev N__law_kids : List Str := ["term", "kind", "tag"]
theorem sc__law_kids : FnScope N__law_kids ["term", "kind"] (defScope s__law_kids) := ⟨rfl, rfl, rfl, by decide +kernel, rfl, by decide +kernel, by decide +kernel⟩
abbrev s__law_levels : Stmt := top 27
abbrev N__law_levels : List Str := ["kind", "term", "found", "waiting", "turn", "node", "parts", "k", "at", "level"]
theorem sc__law_levels : FnScope N__law_levels ["kind", "term"] (defScope s__law_levels) := ⟨rfl, rfl, rfl, by decide +kernel, rfl, by decide +kernel, by decide +kernel⟩
abbrev s__law_pairs : Stmt := top 28
abbrev N__law_pairs : List Str := ["actual", "due", "k"]
theorem sc__law_pairs : FnScope N__law_pairs ["actual", "due"] (defScope s__law_pairs) := ⟨rfl, rfl, rfl, by decide +kernel, rfl, by decide +kernel, by decide +kernel⟩
abbrev s__law_steps : Stmt := top 29
abbrev N__law_steps : List Str := ["term", "found", "left", "k"]
theorem sc__law_steps : FnScope N__law_steps ["term"] (defScope s__law_steps) := ⟨rfl, rfl, rfl, by decide +kernel, rfl, by decide +kernel, by decide +kernel⟩
abbrev s__law_rowed : Stmt := top 30
abbrev N__law_rowed : List Str := ["first", "second", "told", "step"]
theorem sc__law_rowed : FnScope N__law_rowed ["first", "second"] (defScope s__law_rowed) := ⟨rfl, rfl, rfl, by decide +kernel, rfl, by decide +kernel, by decide +kernel⟩
abbrev s_law : Stmt := top 31
abbrev N_law : List Str := ["script", "state", "piece", "term", "k", "due", "told", "node", "commands", "first"]
theorem sc_law : FnScope N_law ["script"] (defScope s_law) := ⟨rfl, rfl, rfl, by decide +kernel, rfl, by decide +kernel, by decide +kernel⟩
def tab_FORMS : List (Str × U) := [("skip", (.tup [(.str "com"), (.tup [])])), ("seq", (.tup [(.str "com"), (.tup [(.str "com"), (.str "com")])])), ("set", (.tup [(.str "com"), (.tup [(.str "name"), (.str "exp")])])), ("while", (.tup [(.str "com"), (.tup [(.str "exp"), (.str "com")])])), ("block", (.tup [(.str "com"), (.tup [(.str "name"), (.str "com")])])), ("num", (.tup [(.str "exp"), (.tup [(.str "number")])])), ("read", (.tup [(.str "exp"), (.tup [(.str "name")])])), ("add", (.tup [(.str "exp"), (.tup [(.str "exp"), (.str "exp")])])), ("sub", (.tup [(.str "exp"), (.tup [(.str "exp"), (.str "exp")])])), ("mul", (.tup [(.str "exp"), (.tup [(.str "exp"), (.str "exp")])])), ("equal", (.tup [(.str "exp"), (.tup [(.str "exp"), (.str "exp")])])), ("less", (.tup [(.str "exp"), (.tup [(.str "exp"), (.str "exp")])])), ("do", (.tup [(.str "exp"), (.tup [(.str "com"), (.str "exp")])])), ("stop", (.tup [(.str "both"), (.tup [])])), ("fault", (.tup [(.str "both"), (.tup [])])), ("exit", (.tup [(.str "both"), (.tup [(.str "name")])])), ("if", (.tup [(.str "both"), (.tup [(.str "exp"), (.str "same"), (.str "same")])])), ("new", (.tup [(.str "both"), (.tup [(.str "name"), (.str "exp"), (.str "same")])])), ("call", (.tup [(.str "both"), (.tup [(.str "name"), (.str "args")])])), ("proc", (.tup [(.str "both"), (.tup [(.str "name"), (.str "params"), (.str "result"), (.str "body"), (.str "same")])]))]
/-! ### the mirrors -/
abbrev Calls := Nat → List U → Mem → Res U
def b_kids (C : Calls) : FS :=
    (sSeq (sAsg (.one 2) (fLst aNil))
    (sSeq (sAsg (.tup [3, 4]) (fKGet tab_FORMS (fOp ixU (fVar 0) (fC (.int 0)))))
    (sSeq (sFor (iZip (fVar 4) (fSl (fVar 0) (oSome (fC (.int 1))) oNone)) (.tup [5, 6]) (sIf (tstB (fOp uIn (fVar 5) (fC (.tup [(.str "com"), (.str "exp")])))) (sExpr (fMtL gAppend (fVar 2) (aCons (fTup (aCons (fVar 5) (aCons (fVar 6) aNil))) aNil))) (sIf (tstB (fOp uEq (fVar 5) (fC (.str "same")))) (sExpr (fMtL gAppend (fVar 2) (aCons (fTup (aCons (fVar 1) (aCons (fVar 6) aNil))) aNil))) (sIf (tstB (fOp uEq (fVar 5) (fC (.str "body")))) (sExpr (fMtL gAppend (fVar 2) (aCons (fTup (aCons (fOp ixU (fVar 0) (fC (.int 3))) (aCons (fVar 6) aNil))) aNil))) (sIf (tstB (fOp uEq (fVar 5) (fC (.str "args")))) (sExpr (fMtL gExt (fVar 2) (aCons (fVar 6) aNil))) sNext)))))
    (sRet (fVar 2)))))
def b_levels_of_parts (C : Calls) : FS :=
    (sSeq (sAsg (.one 3) (fOp uMul (fLst (aCons (fOp uAdd (fVar 1) (fC (.int 1))) aNil)) (fVar 2)))
    (sSeq (sIf (tAn (tstB (fOp uEq (fOp ixU (fVar 0) (fC (.int 0))) (fC (.str "seq")))) (tstB (fOp uEq (fOp ixU (fOp ixU (fVar 0) (fC (.int 1))) (fC (.int 0))) (fC (.str "seq"))))) (sStore (fVar 3) (fC (.int 0)) (fVar 1)) sNext)
    (sRet (fVar 3))))
def b_nodes (C : Calls) : FS :=
    (sSeq (sAsg (.one 2) (fLst aNil))
    (sSeq (sAsg (.one 3) (fLst (aCons (fTup (aCons (fVar 1) (aCons (fVar 0) (aCons (fC (.int 1)) aNil)))) aNil)))
    (sSeq (sWhile (tst (fVar 3)) (sSeq (sAsg (.tup [4, 5, 6]) (fMtL gPop (fVar 3) aNil))
    (sSeq (sExpr (fMtL gAppend (fVar 2) (aCons (fTup (aCons (fVar 4) (aCons (fVar 5) (aCons (fVar 6) aNil)))) aNil)))
    (sSeq (sAsg (.one 7) (fDef 2 (C 0) (aCons (fVar 5) (aCons (fVar 4) aNil))))
    (sSeq (sAsg (.one 8) (fDef 3 (C 1) (aCons (fVar 5) (aCons (fVar 6) (aCons (fCall bLen (aCons (fVar 7) aNil)) aNil)))))
    (sFor (iRev1 (fCall bLen (aCons (fVar 7) aNil))) (.one 9) (sSeq (sAsg (.tup [10, 11]) (fOp ixU (fVar 7) (fVar 9)))
    (sExpr (fMtL gAppend (fVar 3) (aCons (fTup (aCons (fVar 10) (aCons (fVar 11) (aCons (fOp ixU (fVar 8) (fVar 9)) aNil)))) aNil))))))))) fuelF)
    (sRet (fVar 2)))))
def b_steps_of (C : Calls) : FS :=
    (sSeq (sAsg (.one 1) (fLst aNil))
    (sSeq (sAsg (.one 2) (fVar 0))
    (sSeq (sWhile (tstB (fOp uEq (fOp ixU (fVar 2) (fC (.int 0))) (fC (.str "seq")))) (sSeq (sExpr (fMtL gAppend (fVar 1) (aCons (fOp ixU (fVar 2) (fC (.int 2))) aNil)))
    (sAsg (.one 2) (fOp ixU (fVar 2) (fC (.int 1))))) fuelF)
    (sRet (fOp uAdd (fLst (aCons (fVar 2) aNil)) (fRevL (fVar 1)))))))
def b_row (C : Calls) : FS :=
    (sSeq (sAsg (.one 2) (fVar 0))
    (sSeq (sFor (iSeq (fDef 1 (C 3) (aCons (fVar 1) aNil))) (.one 3) (sAsg (.one 2) (fTup (aCons (fC (.str "seq")) (aCons (fVar 2) (aCons (fVar 3) aNil))))))
    (sRet (fVar 2))))
def b__law_stream (C : Calls) : FS :=
    (sSeq (sAsg (.one 1) (fLst aNil))
    (sSeq (sFor (iSeq (fSl (fVar 0) oNone (oSome (fC (.int 63))))) (.one 2) (sSeq (sAsg (.one 3) (fCall bInt (aCons (fVar 2) aNil)))
    (sIf (tstB (fOp uGe (fVar 3) (fOp uPow (fC (.int 10)) (fC (.int 18))))) (sFor (iRg1 (fC (.int 60))) (.one 4) (sSeq (sExpr (fMtL gAppend (fVar 1) (aCons (fOp uMod (fCall bInt (aCons (fVar 3) aNil)) (fC (.int 1009))) aNil)))
    (sSeq (sAsg (.one 3) (fOp uFdiv (fVar 3) (fC (.int 1009))))
    (sIf (tstB (fOp uEq (fVar 3) (fC (.int 0)))) sBrk sNext)))) (sSeq (sAsg (.one 5) (fOp uMod (fCall bInt (aCons (fVar 3) aNil)) (fC (.int 2147483647))))
    (sFor (iRg1 (fC (.int 10))) (.one 4) (sSeq (sAsg (.one 5) (fOp uMod (fCall bInt (aCons (fOp uAdd (fOp uAdd (fOp uMul (fVar 5) (fC (.int 48271))) (fOp uMul (fC (.int 7)) (fVar 4))) (fC (.int 11))) aNil)) (fC (.int 2147483647))))
    (sExpr (fMtL gAppend (fVar 1) (aCons (fOp uMod (fOp uMod (fCall bInt (aCons (fOp uAdd (fOp uMul (fVar 5) (fC (.int 69621))) (fVar 4)) aNil)) (fC (.int 2147483629))) (fC (.int 1009))) aNil)))))))))
    (sSeq (sIf (tstB (fOp uEq (fCall bLen (aCons (fVar 1) aNil)) (fC (.int 0)))) (sExpr (fMtL gAppend (fVar 1) (aCons (fC (.int 0)) aNil))) sNext)
    (sRet (fVar 1)))))
def b__law_pick (C : Calls) : FS :=
    (sRet (fOp uMod (fCall bInt (aCons (fOp ixU (fVar 0) (fOp uMod (fVar 1) (fCall bLen (aCons (fVar 0) aNil)))) aNil)) (fVar 2)))
def b__law_next (C : Calls) : FS :=
    (sSeq (sStore (fVar 0) (fC (.int 1)) (fOp uAdd (fOp ixU (fVar 0) (fC (.int 1))) (fC (.int 1))))
    (sRet (fOp uMod (fCall bInt (aCons (fOp ixU (fOp ixU (fVar 0) (fC (.int 0))) (fOp uMod (fOp ixU (fVar 0) (fC (.int 1))) (fCall bLen (aCons (fOp ixU (fVar 0) (fC (.int 0))) aNil)))) aNil)) (fVar 1))))
def b__law_callable (C : Calls) : FS :=
    (sSeq (sAsg (.one 3) (fLst aNil))
    (sSeq (sFor (iSeq (fCall bSorted (aCons (fVar 0) aNil))) (.one 4) (sIf (tAn (tstB (fOp uEq (fOp ixU (fOp ixU (fVar 0) (fVar 4)) (fC (.int 0))) (fC (.str "call")))) (tAn (tstB (fOp uEq (fOp ixU (fOp ixU (fVar 0) (fVar 4)) (fC (.int 2))) (fVar 1))) (tstB (fOp uLe (fCall bLen (aCons (fOp ixU (fOp ixU (fVar 0) (fVar 4)) (fC (.int 1))) aNil)) (fVar 2))))) (sExpr (fMtL gAppend (fVar 3) (aCons (fVar 4) aNil))) sNext))
    (sRet (fVar 3))))
def b__law_sorts (C : Calls) : FS :=
    (sRet (fLc (iSeq (fCall bSorted (aCons (fVar 0) aNil))) [2] (.one 2) (tstB (fOp uEq (fOp ixU (fOp ixU (fVar 0) (fVar 2)) (fC (.int 0))) (fVar 1))) (fVar 2)))
def b__law_call (C : Calls) : FS :=
    (sSeq (sAsg (.one 4) (fDef 3 (C 8) (aCons (fVar 2) (aCons (fVar 1) (aCons (fOp uMul (fC (.int 2)) (fCall bInt (aCons (fOp uGt (fVar 3) (fC (.int 0))) aNil))) aNil)))))
    (sSeq (sIf (tstB (fOp uEq (fCall bLen (aCons (fVar 4) aNil)) (fC (.int 0)))) (sRet (fOp ixU (fLst (aCons (fTup (aCons (fC (.str "num")) (aCons (fDef 2 (C 7) (aCons (fVar 0) (aCons (fC (.int 3)) aNil))) aNil))) (aCons (fTup (aCons (fC (.str "skip")) aNil)) aNil))) (fCall bInt (aCons (fOp uEq (fVar 1) (fC (.str "com"))) aNil)))) sNext)
    (sSeq (sAsg (.one 5) (fOp ixU (fVar 4) (fDef 2 (C 7) (aCons (fVar 0) (aCons (fCall bLen (aCons (fVar 4) aNil)) aNil)))))
    (sSeq (sAsg (.one 6) (fLst aNil))
    (sSeq (sFor (iSeq (fOp ixU (fOp ixU (fVar 2) (fVar 5)) (fC (.int 1)))) (.one 7) (sSeq (sAsg (.one 8) (fOp ixU (fLst (aCons (fC (.str "exp")) (aCons (fC (.str "com")) aNil))) (fCall bInt (aCons (fOp uEq (fVar 7) (fC (.str "com"))) aNil))))
    (sExpr (fMtL gAppend (fVar 6) (aCons (fTup (aCons (fVar 8) (aCons (fDef 4 (C 18) (aCons (fVar 0) (aCons (fVar 8) (aCons (fVar 2) (aCons (fOp uSub (fVar 3) (fC (.int 1))) aNil))))) aNil))) aNil)))))
    (sRet (fTup (aCons (fC (.str "call")) (aCons (fVar 5) (aCons (fCall bTuple (aCons (fVar 6) aNil)) aNil))))))))))
def b__law_leaf (C : Calls) : FS :=
    (sSeq (sAsg (.one 3) (fDef 2 (C 7) (aCons (fVar 0) (aCons (fC (.int 9)) aNil))))
    (sSeq (sAsg (.one 4) (fDef 2 (C 9) (aCons (fVar 2) (aCons (fC (.str "variable")) aNil))))
    (sSeq (sAsg (.one 5) (fDef 2 (C 9) (aCons (fVar 2) (aCons (fC (.str "label")) aNil))))
    (sSeq (sIf (tstB (fOp uEq (fVar 3) (fC (.int 0)))) (sRet (fOp ixU (fLst (aCons (fTup (aCons (fC (.str "stop")) aNil)) (aCons (fTup (aCons (fC (.str "fault")) aNil)) aNil))) (fDef 2 (C 7) (aCons (fVar 0) (aCons (fC (.int 2)) aNil))))) sNext)
    (sSeq (sIf (tAn (tstB (fOp uLt (fVar 3) (fC (.int 3)))) (tstB (fOp uGt (fCall bLen (aCons (fVar 5) aNil)) (fC (.int 0))))) (sRet (fTup (aCons (fC (.str "exit")) (aCons (fOp ixU (fVar 5) (fDef 2 (C 7) (aCons (fVar 0) (aCons (fCall bLen (aCons (fVar 5) aNil)) aNil)))) aNil)))) sNext)
    (sSeq (sIf (tstB (fOp uLt (fVar 3) (fC (.int 5)))) (sRet (fDef 4 (C 10) (aCons (fVar 0) (aCons (fVar 1) (aCons (fVar 2) (aCons (fC (.int 0)) aNil)))))) sNext)
    (sSeq (sIf (tAn (tstB (fOp uLt (fVar 3) (fC (.int 8)))) (tstB (fOp uGt (fCall bLen (aCons (fVar 4) aNil)) (fC (.int 0))))) (sSeq (sAsg (.one 6) (fOp ixU (fVar 4) (fDef 2 (C 7) (aCons (fVar 0) (aCons (fCall bLen (aCons (fVar 4) aNil)) aNil)))))
    (sRet (fOp ixU (fLst (aCons (fTup (aCons (fC (.str "read")) (aCons (fVar 6) aNil))) (aCons (fTup (aCons (fC (.str "set")) (aCons (fVar 6) (aCons (fTup (aCons (fC (.str "num")) (aCons (fDef 2 (C 7) (aCons (fVar 0) (aCons (fC (.int 3)) aNil))) aNil))) aNil)))) aNil))) (fCall bInt (aCons (fOp uEq (fVar 1) (fC (.str "com"))) aNil))))) sNext)
    (sRet (fOp ixU (fLst (aCons (fTup (aCons (fC (.str "num")) (aCons (fDef 2 (C 7) (aCons (fVar 0) (aCons (fC (.int 3)) aNil))) aNil))) (aCons (fTup (aCons (fC (.str "skip")) aNil)) aNil))) (fCall bInt (aCons (fOp uEq (fVar 1) (fC (.str "com"))) aNil)))))))))))
def b__law_inner (C : Calls) : FS :=
    (sSeq (sAsg (.one 3) (fCall bDict (aCons (fVar 0) aNil)))
    (sSeq (sStore (fVar 3) (fVar 1) (fVar 2))
    (sRet (fVar 3))))
def b__law_pool (C : Calls) : FS :=
    (sRet (fOp ixU (fLst (aCons (fC (.str "a")) (aCons (fC (.str "b")) (aCons (fC (.str "ab")) (aCons (fC (.str "x")) (aCons (fC (.str "xy")) (aCons (fC (.str "f")) (aCons (fC (.str "abcd")) (aCons (fC (.str "hole")) aNil))))))))) (fDef 2 (C 7) (aCons (fVar 0) (aCons (fC (.int 8)) aNil)))))
def b__law_proc (C : Calls) : FS :=
    (sSeq (sAsg (.one 4) (fLst aNil))
    (sSeq (sAsg (.one 5) (fCall bDict (aCons (fVar 2) aNil)))
    (sSeq (sFor (iRg1 (fDef 2 (C 7) (aCons (fVar 0) (aCons (fC (.int 3)) aNil)))) (.one 6) (sSeq (sAsg (.one 7) (fDef 1 (C 13) (aCons (fVar 0) aNil)))
    (sSeq (sAsg (.one 8) (fOp ixU (fLst (aCons (fC (.str "com")) (aCons (fC (.str "exp")) (aCons (fC (.str "val")) aNil)))) (fDef 2 (C 7) (aCons (fVar 0) (aCons (fC (.int 3)) aNil)))))
    (sIf (tstB (fOp uNin (fVar 7) (fLc (iSeq (fVar 4)) [13] (.one 13) tAll (fOp ixU (fVar 13) (fC (.int 0)))))) (sSeq (sExpr (fMtL gAppend (fVar 4) (aCons (fTup (aCons (fVar 7) (aCons (fVar 8) aNil))) aNil)))
    (sSeq (sStore (fVar 5) (fVar 7) (fTup (aCons (fC (.str "call")) (aCons (fTup aNil) (aCons (fVar 8) aNil)))))
    (sIf (tstB (fOp uEq (fVar 8) (fC (.str "val")))) (sStore (fVar 5) (fVar 7) (fTup (aCons (fC (.str "variable")) aNil))) sNext))) sNext))))
    (sSeq (sAsg (.one 9) (fOp ixU (fLst (aCons (fC (.str "com")) (aCons (fC (.str "exp")) aNil))) (fDef 2 (C 7) (aCons (fVar 0) (aCons (fC (.int 2)) aNil)))))
    (sSeq (sAsg (.one 7) (fDef 1 (C 13) (aCons (fVar 0) aNil)))
    (sSeq (sAsg (.one 10) (fCall bTuple (aCons (fLc (iSeq (fVar 4)) [13] (.one 13) tAll (fOp ixU (fVar 13) (fC (.int 1)))) aNil)))
    (sSeq (sAsg (.one 11) (fDef 3 (C 12) (aCons (fVar 2) (aCons (fVar 7) (aCons (fTup (aCons (fC (.str "call")) (aCons (fVar 10) (aCons (fVar 9) aNil)))) aNil)))))
    (sSeq (sAsg (.one 12) (fDef 4 (C 18) (aCons (fVar 0) (aCons (fVar 9) (aCons (fVar 5) (aCons (fOp uSub (fVar 3) (fC (.int 1))) aNil))))))
    (sRet (fTup (aCons (fC (.str "proc")) (aCons (fVar 7) (aCons (fCall bTuple (aCons (fVar 4) aNil)) (aCons (fVar 9) (aCons (fVar 12) (aCons (fDef 4 (C 18) (aCons (fVar 0) (aCons (fVar 1) (aCons (fVar 11) (aCons (fOp uSub (fVar 3) (fC (.int 1))) aNil))))) aNil))))))))))))))))
def b__law_common (C : Calls) : FS :=
    (sSeq (sIf (tstB (fOp uEq (fVar 4) (fC (.int 0)))) (sRet (fDef 3 (C 11) (aCons (fVar 0) (aCons (fVar 1) (aCons (fVar 2) aNil))))) sNext)
    (sSeq (sIf (tstB (fOp uEq (fVar 4) (fC (.int 1)))) (sRet (fDef 4 (C 10) (aCons (fVar 0) (aCons (fVar 1) (aCons (fVar 2) (aCons (fVar 3) aNil)))))) sNext)
    (sSeq (sIf (tstB (fOp uEq (fVar 4) (fC (.int 4)))) (sRet (fDef 4 (C 14) (aCons (fVar 0) (aCons (fVar 1) (aCons (fVar 2) (aCons (fVar 3) aNil)))))) sNext)
    (sSeq (sAsg (.one 5) (fDef 4 (C 18) (aCons (fVar 0) (aCons (fC (.str "exp")) (aCons (fVar 2) (aCons (fOp uSub (fVar 3) (fC (.int 1))) aNil))))))
    (sSeq (sIf (tstB (fOp uEq (fVar 4) (fC (.int 2)))) (sSeq (sAsg (.one 6) (fDef 4 (C 18) (aCons (fVar 0) (aCons (fVar 1) (aCons (fVar 2) (aCons (fOp uSub (fVar 3) (fC (.int 1))) aNil))))))
    (sRet (fTup (aCons (fC (.str "if")) (aCons (fVar 5) (aCons (fVar 6) (aCons (fDef 4 (C 18) (aCons (fVar 0) (aCons (fVar 1) (aCons (fVar 2) (aCons (fOp uSub (fVar 3) (fC (.int 1))) aNil))))) aNil))))))) sNext)
    (sSeq (sAsg (.one 7) (fDef 1 (C 13) (aCons (fVar 0) aNil)))
    (sRet (fTup (aCons (fC (.str "new")) (aCons (fVar 7) (aCons (fVar 5) (aCons (fDef 4 (C 18) (aCons (fVar 0) (aCons (fVar 1) (aCons (fDef 3 (C 12) (aCons (fVar 2) (aCons (fVar 7) (aCons (fTup (aCons (fC (.str "variable")) aNil)) aNil)))) (aCons (fOp uSub (fVar 3) (fC (.int 1))) aNil))))) aNil))))))))))))
def b__law_joined (C : Calls) : FS :=
    (sSeq (sAsg (.one 2) (fLst aNil))
    (sSeq (sAsg (.one 3) (fVar 1))
    (sSeq (sFor (iRg1 (fC (.int 2000))) (.one 4) (sSeq (sIf (tstB (fOp uNe (fOp ixU (fVar 3) (fC (.int 0))) (fC (.str "seq")))) sBrk sNext)
    (sSeq (sExpr (fMtL gAppend (fVar 2) (aCons (fOp ixU (fVar 3) (fC (.int 2))) aNil)))
    (sAsg (.one 3) (fOp ixU (fVar 3) (fC (.int 1)))))))
    (sSeq (sAsg (.one 5) (fTup (aCons (fC (.str "seq")) (aCons (fVar 0) (aCons (fVar 3) aNil)))))
    (sSeq (sFor (iRg1 (fCall bLen (aCons (fVar 2) aNil))) (.one 4) (sAsg (.one 5) (fTup (aCons (fC (.str "seq")) (aCons (fVar 5) (aCons (fOp ixU (fVar 2) (fOp uSub (fOp uSub (fCall bLen (aCons (fVar 2) aNil)) (fC (.int 1))) (fVar 4))) aNil))))))
    (sRet (fVar 5)))))))
def b__law_command (C : Calls) : FS :=
    (sSeq (sIf (tstB (fOp uLt (fVar 3) (fC (.int 7)))) (sSeq (sAsg (.one 4) (fDef 4 (C 18) (aCons (fVar 0) (aCons (fC (.str "com")) (aCons (fVar 1) (aCons (fOp uSub (fVar 2) (fC (.int 1))) aNil))))))
    (sRet (fDef 2 (C 16) (aCons (fVar 4) (aCons (fDef 4 (C 18) (aCons (fVar 0) (aCons (fC (.str "com")) (aCons (fVar 1) (aCons (fOp uSub (fVar 2) (fC (.int 1))) aNil))))) aNil))))) sNext)
    (sSeq (sAsg (.one 5) (fDef 2 (C 9) (aCons (fVar 1) (aCons (fC (.str "variable")) aNil))))
    (sSeq (sIf (tAn (tstB (fOp uEq (fVar 3) (fC (.int 7)))) (tstB (fOp uGt (fCall bLen (aCons (fVar 5) aNil)) (fC (.int 0))))) (sRet (fTup (aCons (fC (.str "set")) (aCons (fOp ixU (fVar 5) (fDef 2 (C 7) (aCons (fVar 0) (aCons (fCall bLen (aCons (fVar 5) aNil)) aNil)))) (aCons (fDef 4 (C 18) (aCons (fVar 0) (aCons (fC (.str "exp")) (aCons (fVar 1) (aCons (fOp uSub (fVar 2) (fC (.int 1))) aNil))))) aNil))))) sNext)
    (sSeq (sIf (tstB (fOp uEq (fVar 3) (fC (.int 8)))) (sSeq (sAsg (.one 6) (fDef 1 (C 13) (aCons (fVar 0) aNil)))
    (sRet (fTup (aCons (fC (.str "block")) (aCons (fVar 6) (aCons (fDef 4 (C 18) (aCons (fVar 0) (aCons (fC (.str "com")) (aCons (fDef 3 (C 12) (aCons (fVar 1) (aCons (fVar 6) (aCons (fTup (aCons (fC (.str "label")) aNil)) aNil)))) (aCons (fOp uSub (fVar 2) (fC (.int 1))) aNil))))) aNil)))))) sNext)
    (sSeq (sAsg (.one 4) (fDef 4 (C 18) (aCons (fVar 0) (aCons (fC (.str "exp")) (aCons (fVar 1) (aCons (fOp uSub (fVar 2) (fC (.int 1))) aNil))))))
    (sRet (fTup (aCons (fC (.str "while")) (aCons (fVar 4) (aCons (fDef 4 (C 18) (aCons (fVar 0) (aCons (fC (.str "com")) (aCons (fVar 1) (aCons (fOp uSub (fVar 2) (fC (.int 1))) aNil))))) aNil))))))))))
def b__law_term (C : Calls) : FS :=
    (sSeq (sIf (tstB (fOp uLe (fVar 3) (fC (.int 0)))) (sRet (fDef 3 (C 11) (aCons (fVar 0) (aCons (fVar 1) (aCons (fVar 2) aNil))))) sNext)
    (sSeq (sAsg (.one 4) (fDef 2 (C 7) (aCons (fVar 0) (aCons (fC (.int 10)) aNil))))
    (sSeq (sIf (tstB (fOp uLt (fVar 4) (fC (.int 5)))) (sRet (fDef 5 (C 15) (aCons (fVar 0) (aCons (fVar 1) (aCons (fVar 2) (aCons (fVar 3) (aCons (fVar 4) aNil))))))) sNext)
    (sSeq (sIf (tstB (fOp uEq (fVar 1) (fC (.str "com")))) (sRet (fDef 4 (C 17) (aCons (fVar 0) (aCons (fVar 2) (aCons (fVar 3) (aCons (fVar 4) aNil)))))) sNext)
    (sSeq (sIf (tstB (fOp uEq (fVar 4) (fC (.int 5)))) (sSeq (sAsg (.one 5) (fDef 4 (C 18) (aCons (fVar 0) (aCons (fC (.str "com")) (aCons (fVar 2) (aCons (fOp uSub (fVar 3) (fC (.int 1))) aNil))))))
    (sRet (fTup (aCons (fC (.str "do")) (aCons (fVar 5) (aCons (fDef 4 (C 18) (aCons (fVar 0) (aCons (fC (.str "exp")) (aCons (fVar 2) (aCons (fOp uSub (fVar 3) (fC (.int 1))) aNil))))) aNil)))))) sNext)
    (sSeq (sAsg (.one 5) (fDef 4 (C 18) (aCons (fVar 0) (aCons (fC (.str "exp")) (aCons (fVar 2) (aCons (fOp uSub (fVar 3) (fC (.int 1))) aNil))))))
    (sSeq (sAsg (.one 6) (fOp ixU (fLst (aCons (fC (.str "add")) (aCons (fC (.str "sub")) (aCons (fC (.str "mul")) (aCons (fC (.str "equal")) (aCons (fC (.str "less")) aNil)))))) (fDef 2 (C 7) (aCons (fVar 0) (aCons (fC (.int 5)) aNil)))))
    (sRet (fTup (aCons (fVar 6) (aCons (fVar 5) (aCons (fDef 4 (C 18) (aCons (fVar 0) (aCons (fC (.str "exp")) (aCons (fVar 2) (aCons (fOp uSub (fVar 3) (fC (.int 1))) aNil))))) aNil))))))))))))
def b__law_decls (C : Calls) : FS :=
    (sSeq (sAsg (.one 1) fD0)
    (sSeq (sFor (iRg1 (fDef 2 (C 7) (aCons (fVar 0) (aCons (fC (.int 4)) aNil)))) (.one 2) (sSeq (sAsg (.one 3) (fDef 1 (C 13) (aCons (fVar 0) aNil)))
    (sSeq (sAsg (.one 4) (fCall bTuple (aCons (fLc (iRg1 (fDef 2 (C 7) (aCons (fVar 0) (aCons (fC (.int 3)) aNil)))) [5] (.one 5) tAll (fOp ixU (fLst (aCons (fC (.str "com")) (aCons (fC (.str "exp")) (aCons (fC (.str "val")) aNil)))) (fDef 2 (C 7) (aCons (fVar 0) (aCons (fC (.int 3)) aNil))))) aNil)))
    (sStore (fVar 1) (fVar 3) (fTup (aCons (fVar 3) (aCons (fVar 4) (aCons (fOp ixU (fLst (aCons (fC (.str "com")) (aCons (fC (.str "exp")) aNil))) (fDef 2 (C 7) (aCons (fVar 0) (aCons (fC (.int 2)) aNil)))) aNil))))))))
    (sRet (fCall bTuple (aCons (fLc (iSeq (fCall bSorted (aCons (fVar 1) aNil))) [3] (.one 3) tAll (fOp ixU (fVar 1) (fVar 3))) aNil)))))
def b__law_scope (C : Calls) : FS :=
    (sSeq (sAsg (.one 1) fD0)
    (sSeq (sFor (iSeq (fVar 0)) (.one 2) (sStore (fVar 1) (fOp ixU (fVar 2) (fC (.int 0))) (fTup (aCons (fC (.str "call")) (aCons (fOp ixU (fVar 2) (fC (.int 1))) (aCons (fOp ixU (fVar 2) (fC (.int 2))) aNil))))))
    (sRet (fVar 1))))
def b__law_piece (C : Calls) : FS :=
    (sSeq (sAsg (.one 2) (fDef 1 (C 19) (aCons (fVar 0) aNil)))
    (sSeq (sAsg (.one 3) (fOp ixU (fLst (aCons (fC (.str "com")) (aCons (fC (.str "exp")) aNil))) (fDef 2 (C 7) (aCons (fVar 0) (aCons (fC (.int 2)) aNil)))))
    (sRet (fTup (aCons (fVar 2) (aCons (fVar 3) (aCons (fDef 4 (C 18) (aCons (fVar 0) (aCons (fVar 3) (aCons (fDef 1 (C 20) (aCons (fVar 2) aNil)) (aCons (fVar 1) aNil))))) aNil)))))))
def b__law_kids (C : Calls) : FS :=
    (sSeq (sAsg (.one 2) (fOp ixU (fVar 0) (fC (.int 0))))
    (sSeq (sIf (tstB (fOp uIn (fVar 2) (fTup (aCons (fC (.str "skip")) (aCons (fC (.str "stop")) (aCons (fC (.str "fault")) (aCons (fC (.str "exit")) (aCons (fC (.str "num")) (aCons (fC (.str "read")) aNil))))))))) (sRet (fLst aNil)) sNext)
    (sSeq (sIf (tstB (fOp uEq (fVar 2) (fC (.str "seq")))) (sRet (fLst (aCons (fTup (aCons (fC (.str "com")) (aCons (fOp ixU (fVar 0) (fC (.int 1))) aNil))) (aCons (fTup (aCons (fC (.str "com")) (aCons (fOp ixU (fVar 0) (fC (.int 2))) aNil))) aNil)))) sNext)
    (sSeq (sIf (tstB (fOp uEq (fVar 2) (fC (.str "set")))) (sRet (fLst (aCons (fTup (aCons (fC (.str "exp")) (aCons (fOp ixU (fVar 0) (fC (.int 2))) aNil))) aNil))) sNext)
    (sSeq (sIf (tstB (fOp uEq (fVar 2) (fC (.str "while")))) (sRet (fLst (aCons (fTup (aCons (fC (.str "exp")) (aCons (fOp ixU (fVar 0) (fC (.int 1))) aNil))) (aCons (fTup (aCons (fC (.str "com")) (aCons (fOp ixU (fVar 0) (fC (.int 2))) aNil))) aNil)))) sNext)
    (sSeq (sIf (tstB (fOp uEq (fVar 2) (fC (.str "block")))) (sRet (fLst (aCons (fTup (aCons (fC (.str "com")) (aCons (fOp ixU (fVar 0) (fC (.int 2))) aNil))) aNil))) sNext)
    (sSeq (sIf (tstB (fOp uEq (fVar 2) (fC (.str "do")))) (sRet (fLst (aCons (fTup (aCons (fC (.str "com")) (aCons (fOp ixU (fVar 0) (fC (.int 1))) aNil))) (aCons (fTup (aCons (fC (.str "exp")) (aCons (fOp ixU (fVar 0) (fC (.int 2))) aNil))) aNil)))) sNext)
    (sSeq (sIf (tstB (fOp uEq (fVar 2) (fC (.str "if")))) (sRet (fLst (aCons (fTup (aCons (fC (.str "exp")) (aCons (fOp ixU (fVar 0) (fC (.int 1))) aNil))) (aCons (fTup (aCons (fVar 1) (aCons (fOp ixU (fVar 0) (fC (.int 2))) aNil))) (aCons (fTup (aCons (fVar 1) (aCons (fOp ixU (fVar 0) (fC (.int 3))) aNil))) aNil))))) sNext)
    (sSeq (sIf (tstB (fOp uEq (fVar 2) (fC (.str "new")))) (sRet (fLst (aCons (fTup (aCons (fC (.str "exp")) (aCons (fOp ixU (fVar 0) (fC (.int 2))) aNil))) (aCons (fTup (aCons (fVar 1) (aCons (fOp ixU (fVar 0) (fC (.int 3))) aNil))) aNil)))) sNext)
    (sSeq (sIf (tstB (fOp uEq (fVar 2) (fC (.str "call")))) (sRet (fCall bList (aCons (fOp ixU (fVar 0) (fC (.int 2))) aNil))) sNext)
    (sSeq (sIf (tstB (fOp uEq (fVar 2) (fC (.str "proc")))) (sRet (fLst (aCons (fTup (aCons (fOp ixU (fVar 0) (fC (.int 3))) (aCons (fOp ixU (fVar 0) (fC (.int 4))) aNil))) (aCons (fTup (aCons (fVar 1) (aCons (fOp ixU (fVar 0) (fC (.int 5))) aNil))) aNil)))) sNext)
    (sRet (fLst (aCons (fTup (aCons (fC (.str "exp")) (aCons (fOp ixU (fVar 0) (fC (.int 1))) aNil))) (aCons (fTup (aCons (fC (.str "exp")) (aCons (fOp ixU (fVar 0) (fC (.int 2))) aNil))) aNil)))))))))))))))
def b__law_levels (C : Calls) : FS :=
    (sSeq (sAsg (.one 2) (fLst aNil))
    (sSeq (sAsg (.one 3) (fLst (aCons (fTup (aCons (fVar 0) (aCons (fVar 1) (aCons (fC (.int 1)) aNil)))) aNil)))
    (sSeq (sFor (iRg1 (fC (.int 9000))) (.one 4) (sSeq (sIf (tstB (fOp uEq (fCall bLen (aCons (fVar 3) aNil)) (fC (.int 0)))) sBrk sNext)
    (sSeq (sAsg (.one 5) (fMtL gPop (fVar 3) aNil))
    (sSeq (sExpr (fMtL gAppend (fVar 2) (aCons (fVar 5) aNil)))
    (sSeq (sAsg (.one 6) (fDef 2 (C 22) (aCons (fOp ixU (fVar 5) (fC (.int 1))) (aCons (fOp ixU (fVar 5) (fC (.int 0))) aNil))))
    (sFor (iRg1 (fCall bLen (aCons (fVar 6) aNil))) (.one 7) (sSeq (sAsg (.one 8) (fOp uSub (fOp uSub (fCall bLen (aCons (fVar 6) aNil)) (fC (.int 1))) (fVar 7)))
    (sSeq (sAsg (.one 9) (fOp uAdd (fOp ixU (fVar 5) (fC (.int 2))) (fC (.int 1))))
    (sSeq (sIf (tAn (tstB (fOp uEq (fVar 8) (fC (.int 0)))) (tAn (tstB (fOp uEq (fOp ixU (fOp ixU (fVar 5) (fC (.int 1))) (fC (.int 0))) (fC (.str "seq")))) (tstB (fOp uEq (fOp ixU (fOp ixU (fOp ixU (fVar 6) (fVar 8)) (fC (.int 1))) (fC (.int 0))) (fC (.str "seq")))))) (sAsg (.one 9) (fOp ixU (fVar 5) (fC (.int 2)))) sNext)
    (sExpr (fMtL gAppend (fVar 3) (aCons (fTup (aCons (fOp ixU (fOp ixU (fVar 6) (fVar 8)) (fC (.int 0))) (aCons (fOp ixU (fOp ixU (fVar 6) (fVar 8)) (fC (.int 1))) (aCons (fVar 9) aNil)))) aNil))))))))))))
    (sRet (fVar 2)))))
def b__law_pairs (C : Calls) : FS :=
    (sSeq (sIf (tOr' (tNt (tst (fIsi "list" (fVar 0)))) (tstB (fOp uNe (fCall bLen (aCons (fVar 0) aNil)) (fCall bLen (aCons (fVar 1) aNil))))) (sRet (fC (.bl false))) sNext)
    (sSeq (sFor (iRg1 (fCall bLen (aCons (fVar 1) aNil))) (.one 2) (sIf (tOr' (tNt (tst (fIsi "tuple" (fOp ixU (fVar 0) (fVar 2))))) (tstB (fOp uNe (fOp ixU (fVar 0) (fVar 2)) (fOp ixU (fVar 1) (fVar 2))))) (sRet (fC (.bl false))) sNext))
    (sRet (fC (.bl true)))))
def b__law_steps (C : Calls) : FS :=
    (sSeq (sAsg (.one 1) (fLst aNil))
    (sSeq (sAsg (.one 2) (fVar 0))
    (sSeq (sFor (iRg1 (fC (.int 2000))) (.one 3) (sSeq (sIf (tstB (fOp uNe (fOp ixU (fVar 2) (fC (.int 0))) (fC (.str "seq")))) sBrk sNext)
    (sSeq (sAsg (.one 1) (fOp uAdd (fLst (aCons (fOp ixU (fVar 2) (fC (.int 2))) aNil)) (fVar 1)))
    (sAsg (.one 2) (fOp ixU (fVar 2) (fC (.int 1)))))))
    (sRet (fOp uAdd (fLst (aCons (fVar 2) aNil)) (fVar 1))))))
def b__law_rowed (C : Calls) : FS :=
    (sSeq (sAsg (.one 2) (fDef 2 (C 4) (aCons (fVar 0) (aCons (fVar 1) aNil))))
    (sSeq (sIf (tstB (fOp uNe (fDef 1 (C 25) (aCons (fVar 2) aNil)) (fOp uAdd (fDef 1 (C 25) (aCons (fVar 0) aNil)) (fDef 1 (C 25) (aCons (fVar 1) aNil))))) (sRet (fC (.bl false))) sNext)
    (sSeq (sFor (iSeq (fDef 1 (C 25) (aCons (fVar 2) aNil))) (.one 3) (sIf (tstB (fOp uEq (fOp ixU (fVar 3) (fC (.int 0))) (fC (.str "seq")))) (sRet (fC (.bl false))) sNext))
    (sRet (fOp uEq (fVar 2) (fDef 2 (C 16) (aCons (fVar 0) (aCons (fVar 1) aNil))))))))
def b_law (C : Calls) : FS :=
    (sSeq (sAsg (.one 1) (fLst (aCons (fDef 1 (C 5) (aCons (fVar 0) aNil)) (aCons (fC (.int 0)) aNil))))
    (sSeq (sAsg (.one 2) (fDef 2 (C 21) (aCons (fVar 1) (aCons (fOp uAdd (fC (.int 1)) (fDef 2 (C 7) (aCons (fVar 1) (aCons (fC (.int 5)) aNil)))) aNil))))
    (sSeq (sIf (tstB (fOp uEq (fDef 2 (C 7) (aCons (fVar 1) (aCons (fC (.int 6)) aNil))) (fC (.int 0)))) (sSeq (sAsg (.one 3) (fTup (aCons (fC (.str "skip")) aNil)))
    (sSeq (sFor (iRg1 (fDef 2 (C 7) (aCons (fVar 1) (aCons (fC (.int 60)) aNil)))) (.one 4) (sAsg (.one 3) (fTup (aCons (fC (.str "seq")) (aCons (fVar 3) (aCons (fDef 3 (C 11) (aCons (fVar 1) (aCons (fC (.str "com")) (aCons (fDef 1 (C 20) (aCons (fOp ixU (fVar 2) (fC (.int 0))) aNil)) aNil)))) aNil))))))
    (sAsg (.one 2) (fTup (aCons (fOp ixU (fVar 2) (fC (.int 0))) (aCons (fC (.str "com")) (aCons (fVar 3) aNil))))))) sNext)
    (sSeq (sAsg (.one 5) (fDef 2 (C 23) (aCons (fOp ixU (fVar 2) (fC (.int 1))) (aCons (fOp ixU (fVar 2) (fC (.int 2))) aNil))))
    (sSeq (sAsg (.one 6) (fDef 2 (C 2) (aCons (fOp ixU (fVar 2) (fC (.int 2))) (aCons (fOp ixU (fVar 2) (fC (.int 1))) aNil))))
    (sSeq (sIf (tNt (tst (fDef 2 (C 24) (aCons (fVar 6) (aCons (fVar 5) aNil))))) (sRet (fC (.bl false))) sNext)
    (sSeq (sExpr (fMtL gAppend (fVar 6) (aCons (fTup (aCons (fC (.str "com")) (aCons (fTup (aCons (fC (.str "skip")) aNil)) (aCons (fC (.int 1)) aNil)))) aNil)))
    (sSeq (sIf (tNt (tst (fDef 2 (C 24) (aCons (fDef 2 (C 2) (aCons (fOp ixU (fVar 2) (fC (.int 2))) (aCons (fOp ixU (fVar 2) (fC (.int 1))) aNil))) (aCons (fVar 5) aNil))))) (sRet (fC (.bl false))) sNext)
    (sSeq (sFor (iSeq (fSl (fVar 5) oNone (oSome (fC (.int 40))))) (.one 7) (sIf (tNt (tst (fDef 2 (C 24) (aCons (fDef 2 (C 0) (aCons (fOp ixU (fVar 7) (fC (.int 1))) (aCons (fOp ixU (fVar 7) (fC (.int 0))) aNil))) (aCons (fDef 2 (C 22) (aCons (fOp ixU (fVar 7) (fC (.int 1))) (aCons (fOp ixU (fVar 7) (fC (.int 0))) aNil))) aNil))))) (sRet (fC (.bl false))) sNext))
    (sSeq (sAsg (.one 8) (fOp uAdd (fLc (iSeq (fVar 5)) [7] (.one 7) (tstB (fOp uEq (fOp ixU (fVar 7) (fC (.int 0))) (fC (.str "com")))) (fOp ixU (fVar 7) (fC (.int 1)))) (fLst (aCons (fTup (aCons (fC (.str "skip")) aNil)) aNil))))
    (sSeq (sFor (iRg1 (fC (.int 4))) (.one 4) (sSeq (sAsg (.one 9) (fOp ixU (fVar 8) (fDef 2 (C 7) (aCons (fVar 1) (aCons (fCall bLen (aCons (fVar 8) aNil)) aNil)))))
    (sIf (tNt (tst (fDef 2 (C 26) (aCons (fVar 9) (aCons (fOp ixU (fVar 8) (fDef 2 (C 7) (aCons (fVar 1) (aCons (fCall bLen (aCons (fVar 8) aNil)) aNil)))) aNil))))) (sRet (fC (.bl false))) sNext)))
    (sRet (fC (.bl true))))))))))))))
def call : Nat → Calls
  | 0 => fun _ _ _ => .bad
  | k + 1 => fun i => match i with
    | 0 => runDef 7 (b_kids (call k))
    | 1 => runDef 4 (b_levels_of_parts (call k))
    | 2 => runDef 12 (b_nodes (call k))
    | 3 => runDef 3 (b_steps_of (call k))
    | 4 => runDef 4 (b_row (call k))
    | 5 => runDef 6 (b__law_stream (call k))
    | 6 => runDef 3 (b__law_pick (call k))
    | 7 => runDef 2 (b__law_next (call k))
    | 8 => runDef 5 (b__law_callable (call k))
    | 9 => runDef 3 (b__law_sorts (call k))
    | 10 => runDef 9 (b__law_call (call k))
    | 11 => runDef 7 (b__law_leaf (call k))
    | 12 => runDef 4 (b__law_inner (call k))
    | 13 => runDef 1 (b__law_pool (call k))
    | 14 => runDef 14 (b__law_proc (call k))
    | 15 => runDef 8 (b__law_common (call k))
    | 16 => runDef 6 (b__law_joined (call k))
    | 17 => runDef 7 (b__law_command (call k))
    | 18 => runDef 7 (b__law_term (call k))
    | 19 => runDef 6 (b__law_decls (call k))
    | 20 => runDef 3 (b__law_scope (call k))
    | 21 => runDef 4 (b__law_piece (call k))
    | 22 => runDef 3 (b__law_kids (call k))
    | 23 => runDef 10 (b__law_levels (call k))
    | 24 => runDef 3 (b__law_pairs (call k))
    | 25 => runDef 4 (b__law_steps (call k))
    | 26 => runDef 4 (b__law_rowed (call k))
    | 27 => runDef 10 (b_law (call k))
    | _ => fun _ _ => .bad
/-! ### what stands in the top -/
structure Facts (K : PySem.W.Frag) (mg : Str → Option Value) (w : World) (ad : Nat → Addr) (fd : Nat → FuncData) : Prop where
  F0 : FnP K "kids" s_kids (ad 0) (fd 0)
  b0 : Binds K (fd 0) ["term", "kind"] []
  m0 : mg "kids" = some (.ref (ad 0))
  F1 : FnP K "levels_of_parts" s_levels_of_parts (ad 1) (fd 1)
  b1 : Binds K (fd 1) ["term", "level", "many"] []
  m1 : mg "levels_of_parts" = some (.ref (ad 1))
  F2 : FnP K "nodes" s_nodes (ad 2) (fd 2)
  b2 : Binds K (fd 2) ["term", "kind"] []
  m2 : mg "nodes" = some (.ref (ad 2))
  F3 : FnP K "steps_of" s_steps_of (ad 3) (fd 3)
  b3 : Binds K (fd 3) ["command"] []
  m3 : mg "steps_of" = some (.ref (ad 3))
  F4 : FnP K "row" s_row (ad 4) (fd 4)
  b4 : Binds K (fd 4) ["first", "second"] []
  m4 : mg "row" = some (.ref (ad 4))
  F5 : FnP K "_law_stream" s__law_stream (ad 5) (fd 5)
  b5 : Binds K (fd 5) ["script"] []
  m5 : mg "_law_stream" = some (.ref (ad 5))
  F6 : FnP K "_law_pick" s__law_pick (ad 6) (fd 6)
  b6 : Binds K (fd 6) ["numbers", "at", "many"] []
  m6 : mg "_law_pick" = some (.ref (ad 6))
  F7 : FnP K "_law_next" s__law_next (ad 7) (fd 7)
  b7 : Binds K (fd 7) ["state", "many"] []
  m7 : mg "_law_next" = some (.ref (ad 7))
  F8 : FnP K "_law_callable" s__law_callable (ad 8) (fd 8)
  b8 : Binds K (fd 8) ["scope", "kind", "most"] []
  m8 : mg "_law_callable" = some (.ref (ad 8))
  F9 : FnP K "_law_sorts" s__law_sorts (ad 9) (fd 9)
  b9 : Binds K (fd 9) ["scope", "sort"] []
  m9 : mg "_law_sorts" = some (.ref (ad 9))
  F10 : FnP K "_law_call" s__law_call (ad 10) (fd 10)
  b10 : Binds K (fd 10) ["state", "kind", "scope", "depth"] []
  m10 : mg "_law_call" = some (.ref (ad 10))
  F11 : FnP K "_law_leaf" s__law_leaf (ad 11) (fd 11)
  b11 : Binds K (fd 11) ["state", "kind", "scope"] []
  m11 : mg "_law_leaf" = some (.ref (ad 11))
  F12 : FnP K "_law_inner" s__law_inner (ad 12) (fd 12)
  b12 : Binds K (fd 12) ["scope", "name", "binding"] []
  m12 : mg "_law_inner" = some (.ref (ad 12))
  F13 : FnP K "_law_pool" s__law_pool (ad 13) (fd 13)
  b13 : Binds K (fd 13) ["state"] []
  m13 : mg "_law_pool" = some (.ref (ad 13))
  F14 : FnP K "_law_proc" s__law_proc (ad 14) (fd 14)
  b14 : Binds K (fd 14) ["state", "kind", "scope", "depth"] []
  m14 : mg "_law_proc" = some (.ref (ad 14))
  F15 : FnP K "_law_common" s__law_common (ad 15) (fd 15)
  b15 : Binds K (fd 15) ["state", "kind", "scope", "depth", "way"] []
  m15 : mg "_law_common" = some (.ref (ad 15))
  F16 : FnP K "_law_joined" s__law_joined (ad 16) (fd 16)
  b16 : Binds K (fd 16) ["first", "second"] []
  m16 : mg "_law_joined" = some (.ref (ad 16))
  F17 : FnP K "_law_command" s__law_command (ad 17) (fd 17)
  b17 : Binds K (fd 17) ["state", "scope", "depth", "way"] []
  m17 : mg "_law_command" = some (.ref (ad 17))
  F18 : FnP K "_law_term" s__law_term (ad 18) (fd 18)
  b18 : Binds K (fd 18) ["state", "kind", "scope", "depth"] []
  m18 : mg "_law_term" = some (.ref (ad 18))
  F19 : FnP K "_law_decls" s__law_decls (ad 19) (fd 19)
  b19 : Binds K (fd 19) ["state"] []
  m19 : mg "_law_decls" = some (.ref (ad 19))
  F20 : FnP K "_law_scope" s__law_scope (ad 20) (fd 20)
  b20 : Binds K (fd 20) ["decls"] []
  m20 : mg "_law_scope" = some (.ref (ad 20))
  F21 : FnP K "_law_piece" s__law_piece (ad 21) (fd 21)
  b21 : Binds K (fd 21) ["state", "depth"] []
  m21 : mg "_law_piece" = some (.ref (ad 21))
  F22 : FnP K "_law_kids" s__law_kids (ad 22) (fd 22)
  b22 : Binds K (fd 22) ["term", "kind"] []
  m22 : mg "_law_kids" = some (.ref (ad 22))
  F23 : FnP K "_law_levels" s__law_levels (ad 23) (fd 23)
  b23 : Binds K (fd 23) ["kind", "term"] []
  m23 : mg "_law_levels" = some (.ref (ad 23))
  F24 : FnP K "_law_pairs" s__law_pairs (ad 24) (fd 24)
  b24 : Binds K (fd 24) ["actual", "due"] []
  m24 : mg "_law_pairs" = some (.ref (ad 24))
  F25 : FnP K "_law_steps" s__law_steps (ad 25) (fd 25)
  b25 : Binds K (fd 25) ["term"] []
  m25 : mg "_law_steps" = some (.ref (ad 25))
  F26 : FnP K "_law_rowed" s__law_rowed (ad 26) (fd 26)
  b26 : Binds K (fd 26) ["first", "second"] []
  m26 : mg "_law_rowed" = some (.ref (ad 26))
  F27 : FnP K "law" s_law (ad 27) (fd 27)
  b27 : Binds K (fd 27) ["script"] []
  m27 : mg "law" = some (.ref (ad 27))
  z_dict : mg "dict" = none
  z_int : mg "int" = none
  z_isinstance : mg "isinstance" = none
  z_len : mg "len" = none
  z_list : mg "list" = none
  z_range : mg "range" = none
  z_reversed : mg "reversed" = none
  z_sorted : mg "sorted" = none
  z_tuple : mg "tuple" = none
  z_zip : mg "zip" = none
  c_FORMS : KTab K mg w "FORMS" tab_FORMS
  c_KINDS : GlobC K mg "KINDS" (.tup [(.str "com"), (.str "exp")])
structure Tab (P : Program) (w : World) (K : PySem.W.Frag) (mg : Str → Option Value) (base : Heap) (ad : Nat → Addr) (fd : Nat → FuncData) (k : Nat) (C : Calls) : Prop where
  G0 : FnOk P w K mg base (L2.CX P w) k (ad 0) (fd 0) ["term", "kind"] (spF K mg 2 (C 0))
  G1 : FnOk P w K mg base (L2.CX P w) k (ad 1) (fd 1) ["term", "level", "many"] (spF K mg 3 (C 1))
  G2 : FnOk P w K mg base (L2.CX P w) k (ad 2) (fd 2) ["term", "kind"] (spF K mg 2 (C 2))
  G3 : FnOk P w K mg base (L2.CX P w) k (ad 3) (fd 3) ["command"] (spF K mg 1 (C 3))
  G4 : FnOk P w K mg base (L2.CX P w) k (ad 4) (fd 4) ["first", "second"] (spF K mg 2 (C 4))
  G5 : FnOk P w K mg base (L2.CX P w) k (ad 5) (fd 5) ["script"] (spF K mg 1 (C 5))
  G6 : FnOk P w K mg base (L2.CX P w) k (ad 6) (fd 6) ["numbers", "at", "many"] (spF K mg 3 (C 6))
  G7 : FnOk P w K mg base (L2.CX P w) k (ad 7) (fd 7) ["state", "many"] (spF K mg 2 (C 7))
  G8 : FnOk P w K mg base (L2.CX P w) k (ad 8) (fd 8) ["scope", "kind", "most"] (spF K mg 3 (C 8))
  G9 : FnOk P w K mg base (L2.CX P w) k (ad 9) (fd 9) ["scope", "sort"] (spF K mg 2 (C 9))
  G10 : FnOk P w K mg base (L2.CX P w) k (ad 10) (fd 10) ["state", "kind", "scope", "depth"] (spF K mg 4 (C 10))
  G11 : FnOk P w K mg base (L2.CX P w) k (ad 11) (fd 11) ["state", "kind", "scope"] (spF K mg 3 (C 11))
  G12 : FnOk P w K mg base (L2.CX P w) k (ad 12) (fd 12) ["scope", "name", "binding"] (spF K mg 3 (C 12))
  G13 : FnOk P w K mg base (L2.CX P w) k (ad 13) (fd 13) ["state"] (spF K mg 1 (C 13))
  G14 : FnOk P w K mg base (L2.CX P w) k (ad 14) (fd 14) ["state", "kind", "scope", "depth"] (spF K mg 4 (C 14))
  G15 : FnOk P w K mg base (L2.CX P w) k (ad 15) (fd 15) ["state", "kind", "scope", "depth", "way"] (spF K mg 5 (C 15))
  G16 : FnOk P w K mg base (L2.CX P w) k (ad 16) (fd 16) ["first", "second"] (spF K mg 2 (C 16))
  G17 : FnOk P w K mg base (L2.CX P w) k (ad 17) (fd 17) ["state", "scope", "depth", "way"] (spF K mg 4 (C 17))
  G18 : FnOk P w K mg base (L2.CX P w) k (ad 18) (fd 18) ["state", "kind", "scope", "depth"] (spF K mg 4 (C 18))
  G19 : FnOk P w K mg base (L2.CX P w) k (ad 19) (fd 19) ["state"] (spF K mg 1 (C 19))
  G20 : FnOk P w K mg base (L2.CX P w) k (ad 20) (fd 20) ["decls"] (spF K mg 1 (C 20))
  G21 : FnOk P w K mg base (L2.CX P w) k (ad 21) (fd 21) ["state", "depth"] (spF K mg 2 (C 21))
  G22 : FnOk P w K mg base (L2.CX P w) k (ad 22) (fd 22) ["term", "kind"] (spF K mg 2 (C 22))
  G23 : FnOk P w K mg base (L2.CX P w) k (ad 23) (fd 23) ["kind", "term"] (spF K mg 2 (C 23))
  G24 : FnOk P w K mg base (L2.CX P w) k (ad 24) (fd 24) ["actual", "due"] (spF K mg 2 (C 24))
  G25 : FnOk P w K mg base (L2.CX P w) k (ad 25) (fd 25) ["term"] (spF K mg 1 (C 25))
  G26 : FnOk P w K mg base (L2.CX P w) k (ad 26) (fd 26) ["first", "second"] (spF K mg 2 (C 26))
  G27 : FnOk P w K mg base (L2.CX P w) k (ad 27) (fd 27) ["script"] (spF K mg 1 (C 27))
section
variable {P : Program} {w : World} {K : PySem.W.Frag} {mg : Str → Option Value} {base : Heap} {ad : Nat → Addr} {fd : Nat → FuncData} {k : Nat} {C : Calls}
end
end Lw
namespace Lw
open PySem PySem.Spec PyProof.Rows L2 RZ Dg
section
variable {P : Program} {w : World} {K : PySem.W.Frag} {mg : Str → Option Value} {base : Heap} {ad : Nat → Addr} {fd : Nat → FuncData} {k : Nat} {C : Calls}
theorem ok_kids (Fx : Facts K mg w ad fd) (T : Tab P w K mg base ad fd (k + 40) C) : FnOk P w K mg base (L2.CX P w) (k + 41) (ad 0) (fd 0) ["term", "kind"] (spF K mg 2 (runDef 7 (b_kids C))) :=
  defD_ok (N := N_kids) (ps := ["term", "kind"]) Fx.F0 sc_kids (fun cdv A outer s H E G =>
    (css_cons (cs_set (i := 2) sc_kids.nd rfl (Or.inl rfl) (ce_lst ca_nil))
    (css_cons (cs_asg (ce_kget rfl Fx.c_FORMS (ce_sub G (ce_var 0) ce_int)) (cg_tup G.calm (cgs_cons (cg_one (i := 3) sc_kids.nd rfl (Or.inl rfl)) (cgs_cons (cg_one (i := 4) sc_kids.nd rfl (Or.inl rfl)) cgs_nil))) (fun he hg => ps_asg he hg))
    (css_cons (cs_for G (ci_zip (ce_var 4) (ce_slice (ce_var 0) (co_some ce_int) co_none) (fun ha => pi_zipA rfl Fx.z_zip ha)) (cg_tup G.calm (cgs_cons (cg_one (i := 5) sc_kids.nd rfl (Or.inl rfl)) (cgs_cons (cg_one (i := 6) sc_kids.nd rfl (Or.inl rfl)) cgs_nil))) (css_one (cs_if (ct_cmp (os_in G) (ce_var 5) (ce_globC rfl Fx.c_KINDS) (by rfl)) (css_one (cs_expr (ce_mtL gs_append (ce_var 2) (ca_cons (ce_tup (ca_cons (ce_var 5) (ca_cons (ce_var 6) ca_nil))) ca_nil) (fun hm ho ha => pe_bm PySem.F.plainAttrs_list PySem.F.slot_list_append PySem.F.type_list_append hm ho ha)))) (css_one (cs_if (ct_cmp (os_eq G) (ce_var 5) ce_str (nomark _)) (css_one (cs_expr (ce_mtL gs_append (ce_var 2) (ca_cons (ce_tup (ca_cons (ce_var 1) (ca_cons (ce_var 6) ca_nil))) ca_nil) (fun hm ho ha => pe_bm PySem.F.plainAttrs_list PySem.F.slot_list_append PySem.F.type_list_append hm ho ha)))) (css_one (cs_if (ct_cmp (os_eq G) (ce_var 5) ce_str (nomark _)) (css_one (cs_expr (ce_mtL gs_append (ce_var 2) (ca_cons (ce_tup (ca_cons (ce_sub G (ce_var 0) ce_int) (ca_cons (ce_var 6) ca_nil))) ca_nil) (fun hm ho ha => pe_bm PySem.F.plainAttrs_list PySem.F.slot_list_append PySem.F.type_list_append hm ho ha)))) (css_one (cs_if (ct_cmp (os_eq G) (ce_var 5) ce_str (nomark _)) (css_one (cs_expr (ce_mtL gs_ext (ce_var 2) (ca_cons (ce_var 6) ca_nil) (fun hm ho ha => pe_bm PySem.F.plainAttrs_list PySem.F.slot_list_extend PySem.F.type_list_extend hm ho ha)))) css_nil)))))))))
    (css_one (cs_ret (ce_var 2)))))))
end
end Lw
namespace Lw
open PySem PySem.Spec PyProof.Rows L2 RZ Dg
section
variable {P : Program} {w : World} {K : PySem.W.Frag} {mg : Str → Option Value} {base : Heap} {ad : Nat → Addr} {fd : Nat → FuncData} {k : Nat} {C : Calls}
theorem ok_levels_of_parts (Fx : Facts K mg w ad fd) (T : Tab P w K mg base ad fd (k + 40) C) : FnOk P w K mg base (L2.CX P w) (k + 41) (ad 1) (fd 1) ["term", "level", "many"] (spF K mg 3 (runDef 4 (b_levels_of_parts C))) :=
  defD_ok (N := N_levels_of_parts) (ps := ["term", "level", "many"]) Fx.F1 sc_levels_of_parts (fun cdv A outer s H E G =>
    (css_cons (cs_set (i := 3) sc_levels_of_parts.nd rfl (Or.inl rfl) (ce_op os_mul (ce_lst (ca_cons (ce_op os_add (ce_var 1) ce_int) ca_nil)) (ce_var 2)))
    (css_cons (cs_if (CW.ct (cw_and (ct_cmp (os_eq G) (ce_sub G (ce_var 0) ce_int) ce_str (nomark _)) (cw_and1 (ct_cmp (os_eq G) (ce_sub G (ce_sub G (ce_var 0) ce_int) ce_int) ce_str (nomark _))))) (css_one (cs_store G (ce_var 3) ce_int (ce_var 1) (fun ho hi he => ps_asg he (pg_sub ho hi set_list)) (fun ho hi he => ps_dput G.hu ho hi he rfl))) css_nil)
    (css_one (cs_ret (ce_var 3))))))
end
end Lw
namespace Lw
open PySem PySem.Spec PyProof.Rows L2 RZ Dg
section
variable {P : Program} {w : World} {K : PySem.W.Frag} {mg : Str → Option Value} {base : Heap} {ad : Nat → Addr} {fd : Nat → FuncData} {k : Nat} {C : Calls}
theorem ok_nodes (Fx : Facts K mg w ad fd) (T : Tab P w K mg base ad fd (k + 40) C) : FnOk P w K mg base (L2.CX P w) (k + 41) (ad 2) (fd 2) ["term", "kind"] (spF K mg 2 (runDef 12 (b_nodes C))) :=
  defD_ok (N := N_nodes) (ps := ["term", "kind"]) Fx.F2 sc_nodes (fun cdv A outer s H E G =>
    (css_cons (cs_set (i := 2) sc_nodes.nd rfl (Or.inl rfl) (ce_lst ca_nil))
    (css_cons (cs_set (i := 3) sc_nodes.nd rfl (Or.inl rfl) (ce_lst (ca_cons (ce_tup (ca_cons (ce_var 1) (ca_cons (ce_var 0) (ca_cons ce_int ca_nil)))) ca_nil)))
    (css_cons (cs_while fuelF G (ct_val (ce_var 3)) (css_cons (cs_asg (ce_mtL0 gs_pop (ce_var 3) (fun hm ho => pe_bm0 PySem.F.plainAttrs_list PySem.F.slot_list_pop PySem.F.type_list_pop hm ho)) (cg_tup G.calm (cgs_cons (cg_one (i := 4) sc_nodes.nd rfl (Or.inl rfl)) (cgs_cons (cg_one (i := 5) sc_nodes.nd rfl (Or.inl rfl)) (cgs_cons (cg_one (i := 6) sc_nodes.nd rfl (Or.inl rfl)) cgs_nil)))) (fun he hg => ps_asg he hg))
    (css_cons (cs_expr (ce_mtL gs_append (ce_var 2) (ca_cons (ce_tup (ca_cons (ce_var 4) (ca_cons (ce_var 5) (ca_cons (ce_var 6) ca_nil)))) ca_nil) (fun hm ho ha => pe_bm PySem.F.plainAttrs_list PySem.F.slot_list_append PySem.F.type_list_append hm ho ha)))
    (css_cons (cs_set (i := 7) sc_nodes.nd rfl (Or.inl rfl) (ce_def G (Nat.le_refl _) T.G0 (ca_cons (ce_var 5) (ca_cons (ce_var 4) ca_nil)) (fun hx ha => pe_callS T.G0 G.room rfl Fx.m0 Fx.F0.kp Fx.b0 hx ha)))
    (css_cons (cs_set (i := 8) sc_nodes.nd rfl (Or.inl rfl) (ce_def G (Nat.le_refl _) T.G1 (ca_cons (ce_var 5) (ca_cons (ce_var 6) (ca_cons (ce_callB cs_len rfl Fx.z_len bt_len (ca_cons (ce_var 7) ca_nil) (fun hc ha => pe_callB hc rfl Fx.z_len bt_len ha)) ca_nil))) (fun hx ha => pe_callS T.G1 G.room rfl Fx.m1 Fx.F1.kp Fx.b1 hx ha)))
    (css_one (cs_for G (ci_rev1 rfl Fx.z_reversed rfl Fx.z_range (ce_callB cs_len rfl Fx.z_len bt_len (ca_cons (ce_var 7) ca_nil) (fun hc ha => pe_callB hc rfl Fx.z_len bt_len ha)) (fun ha => pi_revR rfl Fx.z_reversed (prg_1 rfl Fx.z_range ha))) (cg_one (i := 9) sc_nodes.nd rfl (Or.inl rfl)) (css_cons (cs_asg (ce_sub G (ce_var 7) (ce_var 9)) (cg_tup G.calm (cgs_cons (cg_one (i := 10) sc_nodes.nd rfl (Or.inl rfl)) (cgs_cons (cg_one (i := 11) sc_nodes.nd rfl (Or.inl rfl)) cgs_nil))) (fun he hg => ps_asg he hg))
    (css_one (cs_expr (ce_mtL gs_append (ce_var 3) (ca_cons (ce_tup (ca_cons (ce_var 10) (ca_cons (ce_var 11) (ca_cons (ce_sub G (ce_var 8) (ce_var 9)) ca_nil)))) ca_nil) (fun hm ho ha => pe_bm PySem.F.plainAttrs_list PySem.F.slot_list_append PySem.F.type_list_append hm ho ha))))))))))))
    (css_one (cs_ret (ce_var 2)))))))
end
end Lw
namespace Lw
open PySem PySem.Spec PyProof.Rows L2 RZ Dg
section
variable {P : Program} {w : World} {K : PySem.W.Frag} {mg : Str → Option Value} {base : Heap} {ad : Nat → Addr} {fd : Nat → FuncData} {k : Nat} {C : Calls}
theorem ok_steps_of (Fx : Facts K mg w ad fd) (T : Tab P w K mg base ad fd (k + 40) C) : FnOk P w K mg base (L2.CX P w) (k + 41) (ad 3) (fd 3) ["command"] (spF K mg 1 (runDef 3 (b_steps_of C))) :=
  defD_ok (N := N_steps_of) (ps := ["command"]) Fx.F3 sc_steps_of (fun cdv A outer s H E G =>
    (css_cons (cs_set (i := 1) sc_steps_of.nd rfl (Or.inl rfl) (ce_lst ca_nil))
    (css_cons (cs_set (i := 2) sc_steps_of.nd rfl (Or.inl rfl) (ce_var 0))
    (css_cons (cs_while fuelF G (ct_cmp (os_eq G) (ce_sub G (ce_var 2) ce_int) ce_str (nomark _)) (css_cons (cs_expr (ce_mtL gs_append (ce_var 1) (ca_cons (ce_sub G (ce_var 2) ce_int) ca_nil) (fun hm ho ha => pe_bm PySem.F.plainAttrs_list PySem.F.slot_list_append PySem.F.type_list_append hm ho ha)))
    (css_one (cs_set (i := 2) sc_steps_of.nd rfl (Or.inl rfl) (ce_sub G (ce_var 2) ce_int)))))
    (css_one (cs_ret (ce_op os_add (ce_lst (ca_cons (ce_var 2) ca_nil)) (ce_revL (ce_var 1)))))))))
end
end Lw
namespace Lw
open PySem PySem.Spec PyProof.Rows L2 RZ Dg
section
variable {P : Program} {w : World} {K : PySem.W.Frag} {mg : Str → Option Value} {base : Heap} {ad : Nat → Addr} {fd : Nat → FuncData} {k : Nat} {C : Calls}
theorem ok_row (Fx : Facts K mg w ad fd) (T : Tab P w K mg base ad fd (k + 40) C) : FnOk P w K mg base (L2.CX P w) (k + 41) (ad 4) (fd 4) ["first", "second"] (spF K mg 2 (runDef 4 (b_row C))) :=
  defD_ok (N := N_row) (ps := ["first", "second"]) Fx.F4 sc_row (fun cdv A outer s H E G =>
    (css_cons (cs_set (i := 2) sc_row.nd rfl (Or.inl rfl) (ce_var 0))
    (css_cons (cs_for G (ci_seq (ce_def G (Nat.le_refl _) T.G3 (ca_cons (ce_var 1) ca_nil) (fun hx ha => pe_callS T.G3 G.room rfl Fx.m3 Fx.F3.kp Fx.b3 hx ha))) (cg_one (i := 3) sc_row.nd rfl (Or.inl rfl)) (css_one (cs_set (i := 2) sc_row.nd rfl (Or.inl rfl) (ce_tup (ca_cons ce_str (ca_cons (ce_var 2) (ca_cons (ce_var 3) ca_nil)))))))
    (css_one (cs_ret (ce_var 2))))))
end
end Lw
namespace Lw
open PySem PySem.Spec PyProof.Rows L2 RZ Dg
section
variable {P : Program} {w : World} {K : PySem.W.Frag} {mg : Str → Option Value} {base : Heap} {ad : Nat → Addr} {fd : Nat → FuncData} {k : Nat} {C : Calls}
theorem ok__law_stream (Fx : Facts K mg w ad fd) (T : Tab P w K mg base ad fd (k + 40) C) : FnOk P w K mg base (L2.CX P w) (k + 41) (ad 5) (fd 5) ["script"] (spF K mg 1 (runDef 6 (b__law_stream C))) :=
  defD_ok (N := N__law_stream) (ps := ["script"]) Fx.F5 sc__law_stream (fun cdv A outer s H E G =>
    (css_cons (cs_set (i := 1) sc__law_stream.nd rfl (Or.inl rfl) (ce_lst ca_nil))
    (css_cons (cs_for G (ci_seq (ce_slice (ce_var 0) co_none (co_some ce_int))) (cg_one (i := 2) sc__law_stream.nd rfl (Or.inl rfl)) (css_cons (cs_set (i := 3) sc__law_stream.nd rfl (Or.inl rfl) (ce_callT cs_int rfl Fx.z_int bt_int (ca_cons (ce_var 2) ca_nil) (fun hc ha => pe_callTy hc rfl Fx.z_int bt_int ha)))
    (css_one (cs_if (ct_cmp os_ge (ce_var 3) (ce_op os_pow ce_int ce_int) (nomark _)) (css_one (cs_for G (ci_rg1 rfl Fx.z_range ce_int) (cg_one (i := 4) sc__law_stream.nd rfl (Or.inl rfl)) (css_cons (cs_expr (ce_mtL gs_append (ce_var 1) (ca_cons (ce_op os_mod (ce_callT cs_int rfl Fx.z_int bt_int (ca_cons (ce_var 3) ca_nil) (fun hc ha => pe_callTy hc rfl Fx.z_int bt_int ha)) ce_int) ca_nil) (fun hm ho ha => pe_bm PySem.F.plainAttrs_list PySem.F.slot_list_append PySem.F.type_list_append hm ho ha)))
    (css_cons (cs_set (i := 3) sc__law_stream.nd rfl (Or.inl rfl) (ce_op os_fdiv (ce_var 3) ce_int))
    (css_one (cs_if (ct_cmp (os_eq G) (ce_var 3) ce_int (nomark _)) (css_one cs_brk) css_nil)))))) (css_cons (cs_set (i := 5) sc__law_stream.nd rfl (Or.inl rfl) (ce_op os_mod (ce_callT cs_int rfl Fx.z_int bt_int (ca_cons (ce_var 3) ca_nil) (fun hc ha => pe_callTy hc rfl Fx.z_int bt_int ha)) ce_int))
    (css_one (cs_for G (ci_rg1 rfl Fx.z_range ce_int) (cg_one (i := 4) sc__law_stream.nd rfl (Or.inl rfl)) (css_cons (cs_set (i := 5) sc__law_stream.nd rfl (Or.inl rfl) (ce_op os_mod (ce_callT cs_int rfl Fx.z_int bt_int (ca_cons (ce_op os_add (ce_op os_add (ce_op os_mul (ce_var 5) ce_int) (ce_op os_mul ce_int (ce_var 4))) ce_int) ca_nil) (fun hc ha => pe_callTy hc rfl Fx.z_int bt_int ha)) ce_int))
    (css_one (cs_expr (ce_mtL gs_append (ce_var 1) (ca_cons (ce_op os_mod (ce_op os_mod (ce_callT cs_int rfl Fx.z_int bt_int (ca_cons (ce_op os_add (ce_op os_mul (ce_var 5) ce_int) (ce_var 4)) ca_nil) (fun hc ha => pe_callTy hc rfl Fx.z_int bt_int ha)) ce_int) ce_int) ca_nil) (fun hm ho ha => pe_bm PySem.F.plainAttrs_list PySem.F.slot_list_append PySem.F.type_list_append hm ho ha))))))))))))
    (css_cons (cs_if (ct_cmp (os_eq G) (ce_callB cs_len rfl Fx.z_len bt_len (ca_cons (ce_var 1) ca_nil) (fun hc ha => pe_callB hc rfl Fx.z_len bt_len ha)) ce_int (nomark _)) (css_one (cs_expr (ce_mtL gs_append (ce_var 1) (ca_cons ce_int ca_nil) (fun hm ho ha => pe_bm PySem.F.plainAttrs_list PySem.F.slot_list_append PySem.F.type_list_append hm ho ha)))) css_nil)
    (css_one (cs_ret (ce_var 1)))))))
end
end Lw
namespace Lw
open PySem PySem.Spec PyProof.Rows L2 RZ Dg
section
variable {P : Program} {w : World} {K : PySem.W.Frag} {mg : Str → Option Value} {base : Heap} {ad : Nat → Addr} {fd : Nat → FuncData} {k : Nat} {C : Calls}
theorem ok__law_pick (Fx : Facts K mg w ad fd) (T : Tab P w K mg base ad fd (k + 40) C) : FnOk P w K mg base (L2.CX P w) (k + 41) (ad 6) (fd 6) ["numbers", "at", "many"] (spF K mg 3 (runDef 3 (b__law_pick C))) :=
  defD_ok (N := N__law_pick) (ps := ["numbers", "at", "many"]) Fx.F6 sc__law_pick (fun cdv A outer s H E G =>
    (css_one (cs_ret (ce_op os_mod (ce_callT cs_int rfl Fx.z_int bt_int (ca_cons (ce_sub G (ce_var 0) (ce_op os_mod (ce_var 1) (ce_callB cs_len rfl Fx.z_len bt_len (ca_cons (ce_var 0) ca_nil) (fun hc ha => pe_callB hc rfl Fx.z_len bt_len ha)))) ca_nil) (fun hc ha => pe_callTy hc rfl Fx.z_int bt_int ha)) (ce_var 2)))))
end
end Lw
namespace Lw
open PySem PySem.Spec PyProof.Rows L2 RZ Dg
section
variable {P : Program} {w : World} {K : PySem.W.Frag} {mg : Str → Option Value} {base : Heap} {ad : Nat → Addr} {fd : Nat → FuncData} {k : Nat} {C : Calls}
theorem ok__law_next (Fx : Facts K mg w ad fd) (T : Tab P w K mg base ad fd (k + 40) C) : FnOk P w K mg base (L2.CX P w) (k + 41) (ad 7) (fd 7) ["state", "many"] (spF K mg 2 (runDef 2 (b__law_next C))) :=
  defD_ok (N := N__law_next) (ps := ["state", "many"]) Fx.F7 sc__law_next (fun cdv A outer s H E G =>
    (css_cons (cs_store G (ce_var 0) ce_int (ce_op os_add (ce_sub G (ce_var 0) ce_int) ce_int) (fun ho hi he => ps_asg he (pg_sub ho hi set_list)) (fun ho hi he => ps_dput G.hu ho hi he rfl))
    (css_one (cs_ret (ce_op os_mod (ce_callT cs_int rfl Fx.z_int bt_int (ca_cons (ce_sub G (ce_sub G (ce_var 0) ce_int) (ce_op os_mod (ce_sub G (ce_var 0) ce_int) (ce_callB cs_len rfl Fx.z_len bt_len (ca_cons (ce_sub G (ce_var 0) ce_int) ca_nil) (fun hc ha => pe_callB hc rfl Fx.z_len bt_len ha)))) ca_nil) (fun hc ha => pe_callTy hc rfl Fx.z_int bt_int ha)) (ce_var 1))))))
end
end Lw
namespace Lw
open PySem PySem.Spec PyProof.Rows L2 RZ Dg
section
variable {P : Program} {w : World} {K : PySem.W.Frag} {mg : Str → Option Value} {base : Heap} {ad : Nat → Addr} {fd : Nat → FuncData} {k : Nat} {C : Calls}
theorem ok__law_callable (Fx : Facts K mg w ad fd) (T : Tab P w K mg base ad fd (k + 40) C) : FnOk P w K mg base (L2.CX P w) (k + 41) (ad 8) (fd 8) ["scope", "kind", "most"] (spF K mg 3 (runDef 5 (b__law_callable C))) :=
  defD_ok (N := N__law_callable) (ps := ["scope", "kind", "most"]) Fx.F8 sc__law_callable (fun cdv A outer s H E G =>
    (css_cons (cs_set (i := 3) sc__law_callable.nd rfl (Or.inl rfl) (ce_lst ca_nil))
    (css_cons (cs_for G (ci_seq (ce_callB (cs_sorted G.calm) rfl Fx.z_sorted bt_sorted (ca_cons (ce_var 0) ca_nil) (fun hc ha => pe_callB hc rfl Fx.z_sorted bt_sorted ha))) (cg_one (i := 4) sc__law_callable.nd rfl (Or.inl rfl)) (css_one (cs_if (CW.ct (cw_and (ct_cmp (os_eq G) (ce_sub G (ce_sub G (ce_var 0) (ce_var 4)) ce_int) ce_str (nomark _)) (cw_and (ct_cmp (os_eq G) (ce_sub G (ce_sub G (ce_var 0) (ce_var 4)) ce_int) (ce_var 1) (nomark _)) (cw_and1 (ct_cmp os_le (ce_callB cs_len rfl Fx.z_len bt_len (ca_cons (ce_sub G (ce_sub G (ce_var 0) (ce_var 4)) ce_int) ca_nil) (fun hc ha => pe_callB hc rfl Fx.z_len bt_len ha)) (ce_var 2) (nomark _)))))) (css_one (cs_expr (ce_mtL gs_append (ce_var 3) (ca_cons (ce_var 4) ca_nil) (fun hm ho ha => pe_bm PySem.F.plainAttrs_list PySem.F.slot_list_append PySem.F.type_list_append hm ho ha)))) css_nil)))
    (css_one (cs_ret (ce_var 3))))))
end
end Lw
namespace Lw
open PySem PySem.Spec PyProof.Rows L2 RZ Dg
section
variable {P : Program} {w : World} {K : PySem.W.Frag} {mg : Str → Option Value} {base : Heap} {ad : Nat → Addr} {fd : Nat → FuncData} {k : Nat} {C : Calls}
theorem ok__law_sorts (Fx : Facts K mg w ad fd) (T : Tab P w K mg base ad fd (k + 40) C) : FnOk P w K mg base (L2.CX P w) (k + 41) (ad 9) (fd 9) ["scope", "sort"] (spF K mg 2 (runDef 3 (b__law_sorts C))) :=
  defD_ok (N := N__law_sorts) (ps := ["scope", "sort"]) Fx.F9 sc__law_sorts (fun cdv A outer s H E G =>
    (css_one (cs_ret (ce_lc (own := [("name", 2)]) G sc__law_sorts.nd (blkOk_by (own := [("name", 2)]) (N := N__law_sorts) (sc := defScope s__law_sorts) (by decide +kernel)) (ci_seq (ce_callB (cs_sorted G.calm) rfl Fx.z_sorted bt_sorted (ca_cons (ce_var 0) ca_nil) (fun hc ha => pe_callB hc rfl Fx.z_sorted bt_sorted ha))) (fun s0 H0 C0 cl fp => (cg_one (i := 2) sc__law_sorts.nd rfl (Or.inl rfl))) (fun s0 H0 C0 cl fp => have G := Good.blk (s := s0) (H := H0) (fp := fp) G; (cts_one (ct_cmp (os_eq G) (ce_sub G (ce_sub G (ce_var 0) (ce_var 2)) ce_int) (ce_var 1) (nomark _)))) (fun s0 H0 C0 cl fp => (ce_var 2)) rfl))))
end
end Lw
namespace Lw
open PySem PySem.Spec PyProof.Rows L2 RZ Dg
section
variable {P : Program} {w : World} {K : PySem.W.Frag} {mg : Str → Option Value} {base : Heap} {ad : Nat → Addr} {fd : Nat → FuncData} {k : Nat} {C : Calls}
theorem ok__law_call (Fx : Facts K mg w ad fd) (T : Tab P w K mg base ad fd (k + 40) C) : FnOk P w K mg base (L2.CX P w) (k + 41) (ad 10) (fd 10) ["state", "kind", "scope", "depth"] (spF K mg 4 (runDef 9 (b__law_call C))) :=
  defD_ok (N := N__law_call) (ps := ["state", "kind", "scope", "depth"]) Fx.F10 sc__law_call (fun cdv A outer s H E G =>
    (css_cons (cs_set (i := 4) sc__law_call.nd rfl (Or.inl rfl) (ce_def G (Nat.le_refl _) T.G8 (ca_cons (ce_var 2) (ca_cons (ce_var 1) (ca_cons (ce_op os_mul ce_int (ce_callT cs_int rfl Fx.z_int bt_int (ca_cons (ce_cmp os_gt (ce_var 3) ce_int (nomark _)) ca_nil) (fun hc ha => pe_callTy hc rfl Fx.z_int bt_int ha))) ca_nil))) (fun hx ha => pe_callS T.G8 G.room rfl Fx.m8 Fx.F8.kp Fx.b8 hx ha)))
    (css_cons (cs_if (ct_cmp (os_eq G) (ce_callB cs_len rfl Fx.z_len bt_len (ca_cons (ce_var 4) ca_nil) (fun hc ha => pe_callB hc rfl Fx.z_len bt_len ha)) ce_int (nomark _)) (css_one (cs_ret (ce_sub G (ce_lst (ca_cons (ce_tup (ca_cons ce_str (ca_cons (ce_def G (Nat.le_refl _) T.G7 (ca_cons (ce_var 0) (ca_cons ce_int ca_nil)) (fun hx ha => pe_callS T.G7 G.room rfl Fx.m7 Fx.F7.kp Fx.b7 hx ha)) ca_nil))) (ca_cons (ce_tup (ca_cons ce_str ca_nil)) ca_nil))) (ce_callT cs_int rfl Fx.z_int bt_int (ca_cons (ce_cmp (os_eq G) (ce_var 1) ce_str (nomark _)) ca_nil) (fun hc ha => pe_callTy hc rfl Fx.z_int bt_int ha))))) css_nil)
    (css_cons (cs_set (i := 5) sc__law_call.nd rfl (Or.inl rfl) (ce_sub G (ce_var 4) (ce_def G (Nat.le_refl _) T.G7 (ca_cons (ce_var 0) (ca_cons (ce_callB cs_len rfl Fx.z_len bt_len (ca_cons (ce_var 4) ca_nil) (fun hc ha => pe_callB hc rfl Fx.z_len bt_len ha)) ca_nil)) (fun hx ha => pe_callS T.G7 G.room rfl Fx.m7 Fx.F7.kp Fx.b7 hx ha))))
    (css_cons (cs_set (i := 6) sc__law_call.nd rfl (Or.inl rfl) (ce_lst ca_nil))
    (css_cons (cs_for G (ci_seq (ce_sub G (ce_sub G (ce_var 2) (ce_var 5)) ce_int)) (cg_one (i := 7) sc__law_call.nd rfl (Or.inl rfl)) (css_cons (cs_set (i := 8) sc__law_call.nd rfl (Or.inl rfl) (ce_sub G (ce_lst (ca_cons ce_str (ca_cons ce_str ca_nil))) (ce_callT cs_int rfl Fx.z_int bt_int (ca_cons (ce_cmp (os_eq G) (ce_var 7) ce_str (nomark _)) ca_nil) (fun hc ha => pe_callTy hc rfl Fx.z_int bt_int ha))))
    (css_one (cs_expr (ce_mtL gs_append (ce_var 6) (ca_cons (ce_tup (ca_cons (ce_var 8) (ca_cons (ce_def G (Nat.le_refl _) T.G18 (ca_cons (ce_var 0) (ca_cons (ce_var 8) (ca_cons (ce_var 2) (ca_cons (ce_op os_sub (ce_var 3) ce_int) ca_nil)))) (fun hx ha => pe_callS T.G18 G.room rfl Fx.m18 Fx.F18.kp Fx.b18 hx ha)) ca_nil))) ca_nil) (fun hm ho ha => pe_bm PySem.F.plainAttrs_list PySem.F.slot_list_append PySem.F.type_list_append hm ho ha))))))
    (css_one (cs_ret (ce_tup (ca_cons ce_str (ca_cons (ce_var 5) (ca_cons (ce_callT cs_tuple rfl Fx.z_tuple bt_tuple (ca_cons (ce_var 6) ca_nil) (fun hc ha => pe_callTy hc rfl Fx.z_tuple bt_tuple ha)) ca_nil))))))))))))
end
end Lw
namespace Lw
open PySem PySem.Spec PyProof.Rows L2 RZ Dg
section
variable {P : Program} {w : World} {K : PySem.W.Frag} {mg : Str → Option Value} {base : Heap} {ad : Nat → Addr} {fd : Nat → FuncData} {k : Nat} {C : Calls}
theorem ok__law_leaf (Fx : Facts K mg w ad fd) (T : Tab P w K mg base ad fd (k + 40) C) : FnOk P w K mg base (L2.CX P w) (k + 41) (ad 11) (fd 11) ["state", "kind", "scope"] (spF K mg 3 (runDef 7 (b__law_leaf C))) :=
  defD_ok (N := N__law_leaf) (ps := ["state", "kind", "scope"]) Fx.F11 sc__law_leaf (fun cdv A outer s H E G =>
    (css_cons (cs_set (i := 3) sc__law_leaf.nd rfl (Or.inl rfl) (ce_def G (Nat.le_refl _) T.G7 (ca_cons (ce_var 0) (ca_cons ce_int ca_nil)) (fun hx ha => pe_callS T.G7 G.room rfl Fx.m7 Fx.F7.kp Fx.b7 hx ha)))
    (css_cons (cs_set (i := 4) sc__law_leaf.nd rfl (Or.inl rfl) (ce_def G (Nat.le_refl _) T.G9 (ca_cons (ce_var 2) (ca_cons ce_str ca_nil)) (fun hx ha => pe_callS T.G9 G.room rfl Fx.m9 Fx.F9.kp Fx.b9 hx ha)))
    (css_cons (cs_set (i := 5) sc__law_leaf.nd rfl (Or.inl rfl) (ce_def G (Nat.le_refl _) T.G9 (ca_cons (ce_var 2) (ca_cons ce_str ca_nil)) (fun hx ha => pe_callS T.G9 G.room rfl Fx.m9 Fx.F9.kp Fx.b9 hx ha)))
    (css_cons (cs_if (ct_cmp (os_eq G) (ce_var 3) ce_int (nomark _)) (css_one (cs_ret (ce_sub G (ce_lst (ca_cons (ce_tup (ca_cons ce_str ca_nil)) (ca_cons (ce_tup (ca_cons ce_str ca_nil)) ca_nil))) (ce_def G (Nat.le_refl _) T.G7 (ca_cons (ce_var 0) (ca_cons ce_int ca_nil)) (fun hx ha => pe_callS T.G7 G.room rfl Fx.m7 Fx.F7.kp Fx.b7 hx ha))))) css_nil)
    (css_cons (cs_if (CW.ct (cw_and (ct_cmp os_lt (ce_var 3) ce_int (nomark _)) (cw_and1 (ct_cmp os_gt (ce_callB cs_len rfl Fx.z_len bt_len (ca_cons (ce_var 5) ca_nil) (fun hc ha => pe_callB hc rfl Fx.z_len bt_len ha)) ce_int (nomark _))))) (css_one (cs_ret (ce_tup (ca_cons ce_str (ca_cons (ce_sub G (ce_var 5) (ce_def G (Nat.le_refl _) T.G7 (ca_cons (ce_var 0) (ca_cons (ce_callB cs_len rfl Fx.z_len bt_len (ca_cons (ce_var 5) ca_nil) (fun hc ha => pe_callB hc rfl Fx.z_len bt_len ha)) ca_nil)) (fun hx ha => pe_callS T.G7 G.room rfl Fx.m7 Fx.F7.kp Fx.b7 hx ha))) ca_nil))))) css_nil)
    (css_cons (cs_if (ct_cmp os_lt (ce_var 3) ce_int (nomark _)) (css_one (cs_ret (ce_def G (Nat.le_refl _) T.G10 (ca_cons (ce_var 0) (ca_cons (ce_var 1) (ca_cons (ce_var 2) (ca_cons ce_int ca_nil)))) (fun hx ha => pe_callS T.G10 G.room rfl Fx.m10 Fx.F10.kp Fx.b10 hx ha)))) css_nil)
    (css_cons (cs_if (CW.ct (cw_and (ct_cmp os_lt (ce_var 3) ce_int (nomark _)) (cw_and1 (ct_cmp os_gt (ce_callB cs_len rfl Fx.z_len bt_len (ca_cons (ce_var 4) ca_nil) (fun hc ha => pe_callB hc rfl Fx.z_len bt_len ha)) ce_int (nomark _))))) (css_cons (cs_set (i := 6) sc__law_leaf.nd rfl (Or.inl rfl) (ce_sub G (ce_var 4) (ce_def G (Nat.le_refl _) T.G7 (ca_cons (ce_var 0) (ca_cons (ce_callB cs_len rfl Fx.z_len bt_len (ca_cons (ce_var 4) ca_nil) (fun hc ha => pe_callB hc rfl Fx.z_len bt_len ha)) ca_nil)) (fun hx ha => pe_callS T.G7 G.room rfl Fx.m7 Fx.F7.kp Fx.b7 hx ha))))
    (css_one (cs_ret (ce_sub G (ce_lst (ca_cons (ce_tup (ca_cons ce_str (ca_cons (ce_var 6) ca_nil))) (ca_cons (ce_tup (ca_cons ce_str (ca_cons (ce_var 6) (ca_cons (ce_tup (ca_cons ce_str (ca_cons (ce_def G (Nat.le_refl _) T.G7 (ca_cons (ce_var 0) (ca_cons ce_int ca_nil)) (fun hx ha => pe_callS T.G7 G.room rfl Fx.m7 Fx.F7.kp Fx.b7 hx ha)) ca_nil))) ca_nil)))) ca_nil))) (ce_callT cs_int rfl Fx.z_int bt_int (ca_cons (ce_cmp (os_eq G) (ce_var 1) ce_str (nomark _)) ca_nil) (fun hc ha => pe_callTy hc rfl Fx.z_int bt_int ha)))))) css_nil)
    (css_one (cs_ret (ce_sub G (ce_lst (ca_cons (ce_tup (ca_cons ce_str (ca_cons (ce_def G (Nat.le_refl _) T.G7 (ca_cons (ce_var 0) (ca_cons ce_int ca_nil)) (fun hx ha => pe_callS T.G7 G.room rfl Fx.m7 Fx.F7.kp Fx.b7 hx ha)) ca_nil))) (ca_cons (ce_tup (ca_cons ce_str ca_nil)) ca_nil))) (ce_callT cs_int rfl Fx.z_int bt_int (ca_cons (ce_cmp (os_eq G) (ce_var 1) ce_str (nomark _)) ca_nil) (fun hc ha => pe_callTy hc rfl Fx.z_int bt_int ha)))))))))))))
end
end Lw
namespace Lw
open PySem PySem.Spec PyProof.Rows L2 RZ Dg
section
variable {P : Program} {w : World} {K : PySem.W.Frag} {mg : Str → Option Value} {base : Heap} {ad : Nat → Addr} {fd : Nat → FuncData} {k : Nat} {C : Calls}
theorem ok__law_inner (Fx : Facts K mg w ad fd) (T : Tab P w K mg base ad fd (k + 40) C) : FnOk P w K mg base (L2.CX P w) (k + 41) (ad 12) (fd 12) ["scope", "name", "binding"] (spF K mg 3 (runDef 4 (b__law_inner C))) :=
  defD_ok (N := N__law_inner) (ps := ["scope", "name", "binding"]) Fx.F12 sc__law_inner (fun cdv A outer s H E G =>
    (css_cons (cs_set (i := 3) sc__law_inner.nd rfl (Or.inl rfl) (ce_callT cs_dict rfl Fx.z_dict bt_dict (ca_cons (ce_var 0) ca_nil) (fun hc ha => pe_callTy hc rfl Fx.z_dict bt_dict ha)))
    (css_cons (cs_store G (ce_var 3) (ce_var 1) (ce_var 2) (fun ho hi he => ps_asg he (pg_sub ho hi set_list)) (fun ho hi he => ps_dput G.hu ho hi he rfl))
    (css_one (cs_ret (ce_var 3))))))
end
end Lw
namespace Lw
open PySem PySem.Spec PyProof.Rows L2 RZ Dg
section
variable {P : Program} {w : World} {K : PySem.W.Frag} {mg : Str → Option Value} {base : Heap} {ad : Nat → Addr} {fd : Nat → FuncData} {k : Nat} {C : Calls}
theorem ok__law_pool (Fx : Facts K mg w ad fd) (T : Tab P w K mg base ad fd (k + 40) C) : FnOk P w K mg base (L2.CX P w) (k + 41) (ad 13) (fd 13) ["state"] (spF K mg 1 (runDef 1 (b__law_pool C))) :=
  defD_ok (N := N__law_pool) (ps := ["state"]) Fx.F13 sc__law_pool (fun cdv A outer s H E G =>
    (css_one (cs_ret (ce_sub G (ce_lst (ca_cons ce_str (ca_cons ce_str (ca_cons ce_str (ca_cons ce_str (ca_cons ce_str (ca_cons ce_str (ca_cons ce_str (ca_cons ce_str ca_nil))))))))) (ce_def G (Nat.le_refl _) T.G7 (ca_cons (ce_var 0) (ca_cons ce_int ca_nil)) (fun hx ha => pe_callS T.G7 G.room rfl Fx.m7 Fx.F7.kp Fx.b7 hx ha))))))
end
end Lw
namespace Lw
open PySem PySem.Spec PyProof.Rows L2 RZ Dg
section
variable {P : Program} {w : World} {K : PySem.W.Frag} {mg : Str → Option Value} {base : Heap} {ad : Nat → Addr} {fd : Nat → FuncData} {k : Nat} {C : Calls}
theorem ok__law_proc (Fx : Facts K mg w ad fd) (T : Tab P w K mg base ad fd (k + 40) C) : FnOk P w K mg base (L2.CX P w) (k + 41) (ad 14) (fd 14) ["state", "kind", "scope", "depth"] (spF K mg 4 (runDef 14 (b__law_proc C))) :=
  defD_ok (N := N__law_proc) (ps := ["state", "kind", "scope", "depth"]) Fx.F14 sc__law_proc (fun cdv A outer s H E G =>
    (css_cons (cs_set (i := 4) sc__law_proc.nd rfl (Or.inl rfl) (ce_lst ca_nil))
    (css_cons (cs_set (i := 5) sc__law_proc.nd rfl (Or.inl rfl) (ce_callT cs_dict rfl Fx.z_dict bt_dict (ca_cons (ce_var 2) ca_nil) (fun hc ha => pe_callTy hc rfl Fx.z_dict bt_dict ha)))
    (css_cons (cs_for G (ci_rg1 rfl Fx.z_range (ce_def G (Nat.le_refl _) T.G7 (ca_cons (ce_var 0) (ca_cons ce_int ca_nil)) (fun hx ha => pe_callS T.G7 G.room rfl Fx.m7 Fx.F7.kp Fx.b7 hx ha))) (cg_one (i := 6) sc__law_proc.nd rfl (Or.inl rfl)) (css_cons (cs_set (i := 7) sc__law_proc.nd rfl (Or.inl rfl) (ce_def G (Nat.le_refl _) T.G13 (ca_cons (ce_var 0) ca_nil) (fun hx ha => pe_callS T.G13 G.room rfl Fx.m13 Fx.F13.kp Fx.b13 hx ha)))
    (css_cons (cs_set (i := 8) sc__law_proc.nd rfl (Or.inl rfl) (ce_sub G (ce_lst (ca_cons ce_str (ca_cons ce_str (ca_cons ce_str ca_nil)))) (ce_def G (Nat.le_refl _) T.G7 (ca_cons (ce_var 0) (ca_cons ce_int ca_nil)) (fun hx ha => pe_callS T.G7 G.room rfl Fx.m7 Fx.F7.kp Fx.b7 hx ha))))
    (css_one (cs_if (ct_cmp (os_nin G) (ce_var 7) (ce_lc (own := [("param", 13)]) G sc__law_proc.nd (blkOk_by (own := [("param", 13)]) (N := N__law_proc) (sc := defScope s__law_proc) (by decide +kernel)) (ci_seq (ce_var 4)) (fun s0 H0 C0 cl fp => (cg_one (i := 13) sc__law_proc.nd rfl (Or.inl rfl))) (fun s0 H0 C0 cl fp => cts_nil) (fun s0 H0 C0 cl fp => have G := Good.blk (s := s0) (H := H0) (fp := fp) G; (ce_sub G (ce_var 13) ce_int)) rfl) (by rfl)) (css_cons (cs_expr (ce_mtL gs_append (ce_var 4) (ca_cons (ce_tup (ca_cons (ce_var 7) (ca_cons (ce_var 8) ca_nil))) ca_nil) (fun hm ho ha => pe_bm PySem.F.plainAttrs_list PySem.F.slot_list_append PySem.F.type_list_append hm ho ha)))
    (css_cons (cs_store G (ce_var 5) (ce_var 7) (ce_tup (ca_cons ce_str (ca_cons (ce_tup ca_nil) (ca_cons (ce_var 8) ca_nil)))) (fun ho hi he => ps_asg he (pg_sub ho hi set_list)) (fun ho hi he => ps_dput G.hu ho hi he rfl))
    (css_one (cs_if (ct_cmp (os_eq G) (ce_var 8) ce_str (nomark _)) (css_one (cs_store G (ce_var 5) (ce_var 7) (ce_tup (ca_cons ce_str ca_nil)) (fun ho hi he => ps_asg he (pg_sub ho hi set_list)) (fun ho hi he => ps_dput G.hu ho hi he rfl))) css_nil)))) css_nil)))))
    (css_cons (cs_set (i := 9) sc__law_proc.nd rfl (Or.inl rfl) (ce_sub G (ce_lst (ca_cons ce_str (ca_cons ce_str ca_nil))) (ce_def G (Nat.le_refl _) T.G7 (ca_cons (ce_var 0) (ca_cons ce_int ca_nil)) (fun hx ha => pe_callS T.G7 G.room rfl Fx.m7 Fx.F7.kp Fx.b7 hx ha))))
    (css_cons (cs_set (i := 7) sc__law_proc.nd rfl (Or.inl rfl) (ce_def G (Nat.le_refl _) T.G13 (ca_cons (ce_var 0) ca_nil) (fun hx ha => pe_callS T.G13 G.room rfl Fx.m13 Fx.F13.kp Fx.b13 hx ha)))
    (css_cons (cs_set (i := 10) sc__law_proc.nd rfl (Or.inl rfl) (ce_callT cs_tuple rfl Fx.z_tuple bt_tuple (ca_cons (ce_lc (own := [("param", 13)]) G sc__law_proc.nd (blkOk_by (own := [("param", 13)]) (N := N__law_proc) (sc := defScope s__law_proc) (by decide +kernel)) (ci_seq (ce_var 4)) (fun s0 H0 C0 cl fp => (cg_one (i := 13) sc__law_proc.nd rfl (Or.inl rfl))) (fun s0 H0 C0 cl fp => cts_nil) (fun s0 H0 C0 cl fp => have G := Good.blk (s := s0) (H := H0) (fp := fp) G; (ce_sub G (ce_var 13) ce_int)) rfl) ca_nil) (fun hc ha => pe_callTy hc rfl Fx.z_tuple bt_tuple ha)))
    (css_cons (cs_set (i := 11) sc__law_proc.nd rfl (Or.inl rfl) (ce_def G (Nat.le_refl _) T.G12 (ca_cons (ce_var 2) (ca_cons (ce_var 7) (ca_cons (ce_tup (ca_cons ce_str (ca_cons (ce_var 10) (ca_cons (ce_var 9) ca_nil)))) ca_nil))) (fun hx ha => pe_callS T.G12 G.room rfl Fx.m12 Fx.F12.kp Fx.b12 hx ha)))
    (css_cons (cs_set (i := 12) sc__law_proc.nd rfl (Or.inl rfl) (ce_def G (Nat.le_refl _) T.G18 (ca_cons (ce_var 0) (ca_cons (ce_var 9) (ca_cons (ce_var 5) (ca_cons (ce_op os_sub (ce_var 3) ce_int) ca_nil)))) (fun hx ha => pe_callS T.G18 G.room rfl Fx.m18 Fx.F18.kp Fx.b18 hx ha)))
    (css_one (cs_ret (ce_tup (ca_cons ce_str (ca_cons (ce_var 7) (ca_cons (ce_callT cs_tuple rfl Fx.z_tuple bt_tuple (ca_cons (ce_var 4) ca_nil) (fun hc ha => pe_callTy hc rfl Fx.z_tuple bt_tuple ha)) (ca_cons (ce_var 9) (ca_cons (ce_var 12) (ca_cons (ce_def G (Nat.le_refl _) T.G18 (ca_cons (ce_var 0) (ca_cons (ce_var 1) (ca_cons (ce_var 11) (ca_cons (ce_op os_sub (ce_var 3) ce_int) ca_nil)))) (fun hx ha => pe_callS T.G18 G.room rfl Fx.m18 Fx.F18.kp Fx.b18 hx ha)) ca_nil))))))))))))))))))
end
end Lw
namespace Lw
open PySem PySem.Spec PyProof.Rows L2 RZ Dg
section
variable {P : Program} {w : World} {K : PySem.W.Frag} {mg : Str → Option Value} {base : Heap} {ad : Nat → Addr} {fd : Nat → FuncData} {k : Nat} {C : Calls}
theorem ok__law_common (Fx : Facts K mg w ad fd) (T : Tab P w K mg base ad fd (k + 40) C) : FnOk P w K mg base (L2.CX P w) (k + 41) (ad 15) (fd 15) ["state", "kind", "scope", "depth", "way"] (spF K mg 5 (runDef 8 (b__law_common C))) :=
  defD_ok (N := N__law_common) (ps := ["state", "kind", "scope", "depth", "way"]) Fx.F15 sc__law_common (fun cdv A outer s H E G =>
    (css_cons (cs_if (ct_cmp (os_eq G) (ce_var 4) ce_int (nomark _)) (css_one (cs_ret (ce_def G (Nat.le_refl _) T.G11 (ca_cons (ce_var 0) (ca_cons (ce_var 1) (ca_cons (ce_var 2) ca_nil))) (fun hx ha => pe_callS T.G11 G.room rfl Fx.m11 Fx.F11.kp Fx.b11 hx ha)))) css_nil)
    (css_cons (cs_if (ct_cmp (os_eq G) (ce_var 4) ce_int (nomark _)) (css_one (cs_ret (ce_def G (Nat.le_refl _) T.G10 (ca_cons (ce_var 0) (ca_cons (ce_var 1) (ca_cons (ce_var 2) (ca_cons (ce_var 3) ca_nil)))) (fun hx ha => pe_callS T.G10 G.room rfl Fx.m10 Fx.F10.kp Fx.b10 hx ha)))) css_nil)
    (css_cons (cs_if (ct_cmp (os_eq G) (ce_var 4) ce_int (nomark _)) (css_one (cs_ret (ce_def G (Nat.le_refl _) T.G14 (ca_cons (ce_var 0) (ca_cons (ce_var 1) (ca_cons (ce_var 2) (ca_cons (ce_var 3) ca_nil)))) (fun hx ha => pe_callS T.G14 G.room rfl Fx.m14 Fx.F14.kp Fx.b14 hx ha)))) css_nil)
    (css_cons (cs_set (i := 5) sc__law_common.nd rfl (Or.inl rfl) (ce_def G (Nat.le_refl _) T.G18 (ca_cons (ce_var 0) (ca_cons ce_str (ca_cons (ce_var 2) (ca_cons (ce_op os_sub (ce_var 3) ce_int) ca_nil)))) (fun hx ha => pe_callS T.G18 G.room rfl Fx.m18 Fx.F18.kp Fx.b18 hx ha)))
    (css_cons (cs_if (ct_cmp (os_eq G) (ce_var 4) ce_int (nomark _)) (css_cons (cs_set (i := 6) sc__law_common.nd rfl (Or.inl rfl) (ce_def G (Nat.le_refl _) T.G18 (ca_cons (ce_var 0) (ca_cons (ce_var 1) (ca_cons (ce_var 2) (ca_cons (ce_op os_sub (ce_var 3) ce_int) ca_nil)))) (fun hx ha => pe_callS T.G18 G.room rfl Fx.m18 Fx.F18.kp Fx.b18 hx ha)))
    (css_one (cs_ret (ce_tup (ca_cons ce_str (ca_cons (ce_var 5) (ca_cons (ce_var 6) (ca_cons (ce_def G (Nat.le_refl _) T.G18 (ca_cons (ce_var 0) (ca_cons (ce_var 1) (ca_cons (ce_var 2) (ca_cons (ce_op os_sub (ce_var 3) ce_int) ca_nil)))) (fun hx ha => pe_callS T.G18 G.room rfl Fx.m18 Fx.F18.kp Fx.b18 hx ha)) ca_nil)))))))) css_nil)
    (css_cons (cs_set (i := 7) sc__law_common.nd rfl (Or.inl rfl) (ce_def G (Nat.le_refl _) T.G13 (ca_cons (ce_var 0) ca_nil) (fun hx ha => pe_callS T.G13 G.room rfl Fx.m13 Fx.F13.kp Fx.b13 hx ha)))
    (css_one (cs_ret (ce_tup (ca_cons ce_str (ca_cons (ce_var 7) (ca_cons (ce_var 5) (ca_cons (ce_def G (Nat.le_refl _) T.G18 (ca_cons (ce_var 0) (ca_cons (ce_var 1) (ca_cons (ce_def G (Nat.le_refl _) T.G12 (ca_cons (ce_var 2) (ca_cons (ce_var 7) (ca_cons (ce_tup (ca_cons ce_str ca_nil)) ca_nil))) (fun hx ha => pe_callS T.G12 G.room rfl Fx.m12 Fx.F12.kp Fx.b12 hx ha)) (ca_cons (ce_op os_sub (ce_var 3) ce_int) ca_nil)))) (fun hx ha => pe_callS T.G18 G.room rfl Fx.m18 Fx.F18.kp Fx.b18 hx ha)) ca_nil))))))))))))))
end
end Lw
namespace Lw
open PySem PySem.Spec PyProof.Rows L2 RZ Dg
section
variable {P : Program} {w : World} {K : PySem.W.Frag} {mg : Str → Option Value} {base : Heap} {ad : Nat → Addr} {fd : Nat → FuncData} {k : Nat} {C : Calls}
theorem ok__law_joined (Fx : Facts K mg w ad fd) (T : Tab P w K mg base ad fd (k + 40) C) : FnOk P w K mg base (L2.CX P w) (k + 41) (ad 16) (fd 16) ["first", "second"] (spF K mg 2 (runDef 6 (b__law_joined C))) :=
  defD_ok (N := N__law_joined) (ps := ["first", "second"]) Fx.F16 sc__law_joined (fun cdv A outer s H E G =>
    (css_cons (cs_set (i := 2) sc__law_joined.nd rfl (Or.inl rfl) (ce_lst ca_nil))
    (css_cons (cs_set (i := 3) sc__law_joined.nd rfl (Or.inl rfl) (ce_var 1))
    (css_cons (cs_for G (ci_rg1 rfl Fx.z_range ce_int) (cg_one (i := 4) sc__law_joined.nd rfl (Or.inl rfl)) (css_cons (cs_if (ct_cmp (os_ne G) (ce_sub G (ce_var 3) ce_int) ce_str (nomark _)) (css_one cs_brk) css_nil)
    (css_cons (cs_expr (ce_mtL gs_append (ce_var 2) (ca_cons (ce_sub G (ce_var 3) ce_int) ca_nil) (fun hm ho ha => pe_bm PySem.F.plainAttrs_list PySem.F.slot_list_append PySem.F.type_list_append hm ho ha)))
    (css_one (cs_set (i := 3) sc__law_joined.nd rfl (Or.inl rfl) (ce_sub G (ce_var 3) ce_int))))))
    (css_cons (cs_set (i := 5) sc__law_joined.nd rfl (Or.inl rfl) (ce_tup (ca_cons ce_str (ca_cons (ce_var 0) (ca_cons (ce_var 3) ca_nil)))))
    (css_cons (cs_for G (ci_rg1 rfl Fx.z_range (ce_callB cs_len rfl Fx.z_len bt_len (ca_cons (ce_var 2) ca_nil) (fun hc ha => pe_callB hc rfl Fx.z_len bt_len ha))) (cg_one (i := 4) sc__law_joined.nd rfl (Or.inl rfl)) (css_one (cs_set (i := 5) sc__law_joined.nd rfl (Or.inl rfl) (ce_tup (ca_cons ce_str (ca_cons (ce_var 5) (ca_cons (ce_sub G (ce_var 2) (ce_op os_sub (ce_op os_sub (ce_callB cs_len rfl Fx.z_len bt_len (ca_cons (ce_var 2) ca_nil) (fun hc ha => pe_callB hc rfl Fx.z_len bt_len ha)) ce_int) (ce_var 4))) ca_nil)))))))
    (css_one (cs_ret (ce_var 5)))))))))
end
end Lw
namespace Lw
open PySem PySem.Spec PyProof.Rows L2 RZ Dg
section
variable {P : Program} {w : World} {K : PySem.W.Frag} {mg : Str → Option Value} {base : Heap} {ad : Nat → Addr} {fd : Nat → FuncData} {k : Nat} {C : Calls}
theorem ok__law_command (Fx : Facts K mg w ad fd) (T : Tab P w K mg base ad fd (k + 40) C) : FnOk P w K mg base (L2.CX P w) (k + 41) (ad 17) (fd 17) ["state", "scope", "depth", "way"] (spF K mg 4 (runDef 7 (b__law_command C))) :=
  defD_ok (N := N__law_command) (ps := ["state", "scope", "depth", "way"]) Fx.F17 sc__law_command (fun cdv A outer s H E G =>
    (css_cons (cs_if (ct_cmp os_lt (ce_var 3) ce_int (nomark _)) (css_cons (cs_set (i := 4) sc__law_command.nd rfl (Or.inl rfl) (ce_def G (Nat.le_refl _) T.G18 (ca_cons (ce_var 0) (ca_cons ce_str (ca_cons (ce_var 1) (ca_cons (ce_op os_sub (ce_var 2) ce_int) ca_nil)))) (fun hx ha => pe_callS T.G18 G.room rfl Fx.m18 Fx.F18.kp Fx.b18 hx ha)))
    (css_one (cs_ret (ce_def G (Nat.le_refl _) T.G16 (ca_cons (ce_var 4) (ca_cons (ce_def G (Nat.le_refl _) T.G18 (ca_cons (ce_var 0) (ca_cons ce_str (ca_cons (ce_var 1) (ca_cons (ce_op os_sub (ce_var 2) ce_int) ca_nil)))) (fun hx ha => pe_callS T.G18 G.room rfl Fx.m18 Fx.F18.kp Fx.b18 hx ha)) ca_nil)) (fun hx ha => pe_callS T.G16 G.room rfl Fx.m16 Fx.F16.kp Fx.b16 hx ha))))) css_nil)
    (css_cons (cs_set (i := 5) sc__law_command.nd rfl (Or.inl rfl) (ce_def G (Nat.le_refl _) T.G9 (ca_cons (ce_var 1) (ca_cons ce_str ca_nil)) (fun hx ha => pe_callS T.G9 G.room rfl Fx.m9 Fx.F9.kp Fx.b9 hx ha)))
    (css_cons (cs_if (CW.ct (cw_and (ct_cmp (os_eq G) (ce_var 3) ce_int (nomark _)) (cw_and1 (ct_cmp os_gt (ce_callB cs_len rfl Fx.z_len bt_len (ca_cons (ce_var 5) ca_nil) (fun hc ha => pe_callB hc rfl Fx.z_len bt_len ha)) ce_int (nomark _))))) (css_one (cs_ret (ce_tup (ca_cons ce_str (ca_cons (ce_sub G (ce_var 5) (ce_def G (Nat.le_refl _) T.G7 (ca_cons (ce_var 0) (ca_cons (ce_callB cs_len rfl Fx.z_len bt_len (ca_cons (ce_var 5) ca_nil) (fun hc ha => pe_callB hc rfl Fx.z_len bt_len ha)) ca_nil)) (fun hx ha => pe_callS T.G7 G.room rfl Fx.m7 Fx.F7.kp Fx.b7 hx ha))) (ca_cons (ce_def G (Nat.le_refl _) T.G18 (ca_cons (ce_var 0) (ca_cons ce_str (ca_cons (ce_var 1) (ca_cons (ce_op os_sub (ce_var 2) ce_int) ca_nil)))) (fun hx ha => pe_callS T.G18 G.room rfl Fx.m18 Fx.F18.kp Fx.b18 hx ha)) ca_nil)))))) css_nil)
    (css_cons (cs_if (ct_cmp (os_eq G) (ce_var 3) ce_int (nomark _)) (css_cons (cs_set (i := 6) sc__law_command.nd rfl (Or.inl rfl) (ce_def G (Nat.le_refl _) T.G13 (ca_cons (ce_var 0) ca_nil) (fun hx ha => pe_callS T.G13 G.room rfl Fx.m13 Fx.F13.kp Fx.b13 hx ha)))
    (css_one (cs_ret (ce_tup (ca_cons ce_str (ca_cons (ce_var 6) (ca_cons (ce_def G (Nat.le_refl _) T.G18 (ca_cons (ce_var 0) (ca_cons ce_str (ca_cons (ce_def G (Nat.le_refl _) T.G12 (ca_cons (ce_var 1) (ca_cons (ce_var 6) (ca_cons (ce_tup (ca_cons ce_str ca_nil)) ca_nil))) (fun hx ha => pe_callS T.G12 G.room rfl Fx.m12 Fx.F12.kp Fx.b12 hx ha)) (ca_cons (ce_op os_sub (ce_var 2) ce_int) ca_nil)))) (fun hx ha => pe_callS T.G18 G.room rfl Fx.m18 Fx.F18.kp Fx.b18 hx ha)) ca_nil))))))) css_nil)
    (css_cons (cs_set (i := 4) sc__law_command.nd rfl (Or.inl rfl) (ce_def G (Nat.le_refl _) T.G18 (ca_cons (ce_var 0) (ca_cons ce_str (ca_cons (ce_var 1) (ca_cons (ce_op os_sub (ce_var 2) ce_int) ca_nil)))) (fun hx ha => pe_callS T.G18 G.room rfl Fx.m18 Fx.F18.kp Fx.b18 hx ha)))
    (css_one (cs_ret (ce_tup (ca_cons ce_str (ca_cons (ce_var 4) (ca_cons (ce_def G (Nat.le_refl _) T.G18 (ca_cons (ce_var 0) (ca_cons ce_str (ca_cons (ce_var 1) (ca_cons (ce_op os_sub (ce_var 2) ce_int) ca_nil)))) (fun hx ha => pe_callS T.G18 G.room rfl Fx.m18 Fx.F18.kp Fx.b18 hx ha)) ca_nil))))))))))))
end
end Lw
namespace Lw
open PySem PySem.Spec PyProof.Rows L2 RZ Dg
section
variable {P : Program} {w : World} {K : PySem.W.Frag} {mg : Str → Option Value} {base : Heap} {ad : Nat → Addr} {fd : Nat → FuncData} {k : Nat} {C : Calls}
theorem ok__law_term (Fx : Facts K mg w ad fd) (T : Tab P w K mg base ad fd (k + 40) C) : FnOk P w K mg base (L2.CX P w) (k + 41) (ad 18) (fd 18) ["state", "kind", "scope", "depth"] (spF K mg 4 (runDef 7 (b__law_term C))) :=
  defD_ok (N := N__law_term) (ps := ["state", "kind", "scope", "depth"]) Fx.F18 sc__law_term (fun cdv A outer s H E G =>
    (css_cons (cs_if (ct_cmp os_le (ce_var 3) ce_int (nomark _)) (css_one (cs_ret (ce_def G (Nat.le_refl _) T.G11 (ca_cons (ce_var 0) (ca_cons (ce_var 1) (ca_cons (ce_var 2) ca_nil))) (fun hx ha => pe_callS T.G11 G.room rfl Fx.m11 Fx.F11.kp Fx.b11 hx ha)))) css_nil)
    (css_cons (cs_set (i := 4) sc__law_term.nd rfl (Or.inl rfl) (ce_def G (Nat.le_refl _) T.G7 (ca_cons (ce_var 0) (ca_cons ce_int ca_nil)) (fun hx ha => pe_callS T.G7 G.room rfl Fx.m7 Fx.F7.kp Fx.b7 hx ha)))
    (css_cons (cs_if (ct_cmp os_lt (ce_var 4) ce_int (nomark _)) (css_one (cs_ret (ce_def G (Nat.le_refl _) T.G15 (ca_cons (ce_var 0) (ca_cons (ce_var 1) (ca_cons (ce_var 2) (ca_cons (ce_var 3) (ca_cons (ce_var 4) ca_nil))))) (fun hx ha => pe_callS T.G15 G.room rfl Fx.m15 Fx.F15.kp Fx.b15 hx ha)))) css_nil)
    (css_cons (cs_if (ct_cmp (os_eq G) (ce_var 1) ce_str (nomark _)) (css_one (cs_ret (ce_def G (Nat.le_refl _) T.G17 (ca_cons (ce_var 0) (ca_cons (ce_var 2) (ca_cons (ce_var 3) (ca_cons (ce_var 4) ca_nil)))) (fun hx ha => pe_callS T.G17 G.room rfl Fx.m17 Fx.F17.kp Fx.b17 hx ha)))) css_nil)
    (css_cons (cs_if (ct_cmp (os_eq G) (ce_var 4) ce_int (nomark _)) (css_cons (cs_set (i := 5) sc__law_term.nd rfl (Or.inl rfl) (ce_def G (Nat.le_refl _) T.G18 (ca_cons (ce_var 0) (ca_cons ce_str (ca_cons (ce_var 2) (ca_cons (ce_op os_sub (ce_var 3) ce_int) ca_nil)))) (fun hx ha => pe_callS T.G18 G.room rfl Fx.m18 Fx.F18.kp Fx.b18 hx ha)))
    (css_one (cs_ret (ce_tup (ca_cons ce_str (ca_cons (ce_var 5) (ca_cons (ce_def G (Nat.le_refl _) T.G18 (ca_cons (ce_var 0) (ca_cons ce_str (ca_cons (ce_var 2) (ca_cons (ce_op os_sub (ce_var 3) ce_int) ca_nil)))) (fun hx ha => pe_callS T.G18 G.room rfl Fx.m18 Fx.F18.kp Fx.b18 hx ha)) ca_nil))))))) css_nil)
    (css_cons (cs_set (i := 5) sc__law_term.nd rfl (Or.inl rfl) (ce_def G (Nat.le_refl _) T.G18 (ca_cons (ce_var 0) (ca_cons ce_str (ca_cons (ce_var 2) (ca_cons (ce_op os_sub (ce_var 3) ce_int) ca_nil)))) (fun hx ha => pe_callS T.G18 G.room rfl Fx.m18 Fx.F18.kp Fx.b18 hx ha)))
    (css_cons (cs_set (i := 6) sc__law_term.nd rfl (Or.inl rfl) (ce_sub G (ce_lst (ca_cons ce_str (ca_cons ce_str (ca_cons ce_str (ca_cons ce_str (ca_cons ce_str ca_nil)))))) (ce_def G (Nat.le_refl _) T.G7 (ca_cons (ce_var 0) (ca_cons ce_int ca_nil)) (fun hx ha => pe_callS T.G7 G.room rfl Fx.m7 Fx.F7.kp Fx.b7 hx ha))))
    (css_one (cs_ret (ce_tup (ca_cons (ce_var 6) (ca_cons (ce_var 5) (ca_cons (ce_def G (Nat.le_refl _) T.G18 (ca_cons (ce_var 0) (ca_cons ce_str (ca_cons (ce_var 2) (ca_cons (ce_op os_sub (ce_var 3) ce_int) ca_nil)))) (fun hx ha => pe_callS T.G18 G.room rfl Fx.m18 Fx.F18.kp Fx.b18 hx ha)) ca_nil))))))))))))))
end
end Lw
namespace Lw
open PySem PySem.Spec PyProof.Rows L2 RZ Dg
section
variable {P : Program} {w : World} {K : PySem.W.Frag} {mg : Str → Option Value} {base : Heap} {ad : Nat → Addr} {fd : Nat → FuncData} {k : Nat} {C : Calls}
theorem ok__law_decls (Fx : Facts K mg w ad fd) (T : Tab P w K mg base ad fd (k + 40) C) : FnOk P w K mg base (L2.CX P w) (k + 41) (ad 19) (fd 19) ["state"] (spF K mg 1 (runDef 6 (b__law_decls C))) :=
  defD_ok (N := N__law_decls) (ps := ["state"]) Fx.F19 sc__law_decls (fun cdv A outer s H E G =>
    (css_cons (cs_set (i := 1) sc__law_decls.nd rfl (Or.inr rfl) ce_d0)
    (css_cons (cs_for G (ci_rg1 rfl Fx.z_range (ce_def G (Nat.le_refl _) T.G7 (ca_cons (ce_var 0) (ca_cons ce_int ca_nil)) (fun hx ha => pe_callS T.G7 G.room rfl Fx.m7 Fx.F7.kp Fx.b7 hx ha))) (cg_one (i := 2) sc__law_decls.nd rfl (Or.inl rfl)) (css_cons (cs_set (i := 3) sc__law_decls.nd rfl (Or.inl rfl) (ce_def G (Nat.le_refl _) T.G13 (ca_cons (ce_var 0) ca_nil) (fun hx ha => pe_callS T.G13 G.room rfl Fx.m13 Fx.F13.kp Fx.b13 hx ha)))
    (css_cons (cs_set (i := 4) sc__law_decls.nd rfl (Or.inl rfl) (ce_callT cs_tuple rfl Fx.z_tuple bt_tuple (ca_cons (ce_lc (own := [("j", 5)]) G sc__law_decls.nd (blkOk_by (own := [("j", 5)]) (N := N__law_decls) (sc := defScope s__law_decls) (by decide +kernel)) (ci_rg1 rfl Fx.z_range (ce_def G (Nat.le_refl _) T.G7 (ca_cons (ce_var 0) (ca_cons ce_int ca_nil)) (fun hx ha => pe_callS T.G7 G.room rfl Fx.m7 Fx.F7.kp Fx.b7 hx ha))) (fun s0 H0 C0 cl fp => (cg_one (i := 5) sc__law_decls.nd rfl (Or.inl rfl))) (fun s0 H0 C0 cl fp => cts_nil) (fun s0 H0 C0 cl fp => have G := Good.blk (s := s0) (H := H0) (fp := fp) G; (ce_sub G (ce_lst (ca_cons ce_str (ca_cons ce_str (ca_cons ce_str ca_nil)))) (ce_def G (Nat.le_refl _) T.G7 (ca_cons (ce_var 0) (ca_cons ce_int ca_nil)) (fun hx ha => pe_callS T.G7 G.room rfl Fx.m7 Fx.F7.kp Fx.b7 hx ha)))) rfl) ca_nil) (fun hc ha => pe_callTy hc rfl Fx.z_tuple bt_tuple ha)))
    (css_one (cs_store G (ce_var 1) (ce_var 3) (ce_tup (ca_cons (ce_var 3) (ca_cons (ce_var 4) (ca_cons (ce_sub G (ce_lst (ca_cons ce_str (ca_cons ce_str ca_nil))) (ce_def G (Nat.le_refl _) T.G7 (ca_cons (ce_var 0) (ca_cons ce_int ca_nil)) (fun hx ha => pe_callS T.G7 G.room rfl Fx.m7 Fx.F7.kp Fx.b7 hx ha))) ca_nil)))) (fun ho hi he => ps_asg he (pg_sub ho hi set_list)) (fun ho hi he => ps_dput G.hu ho hi he rfl))))))
    (css_one (cs_ret (ce_callT cs_tuple rfl Fx.z_tuple bt_tuple (ca_cons (ce_lc (own := [("name", 3)]) G sc__law_decls.nd (blkOk_by (own := [("name", 3)]) (N := N__law_decls) (sc := defScope s__law_decls) (by decide +kernel)) (ci_seq (ce_callB (cs_sorted G.calm) rfl Fx.z_sorted bt_sorted (ca_cons (ce_var 1) ca_nil) (fun hc ha => pe_callB hc rfl Fx.z_sorted bt_sorted ha))) (fun s0 H0 C0 cl fp => (cg_one (i := 3) sc__law_decls.nd rfl (Or.inl rfl))) (fun s0 H0 C0 cl fp => cts_nil) (fun s0 H0 C0 cl fp => have G := Good.blk (s := s0) (H := H0) (fp := fp) G; (ce_sub G (ce_var 1) (ce_var 3))) rfl) ca_nil) (fun hc ha => pe_callTy hc rfl Fx.z_tuple bt_tuple ha)))))))
end
end Lw
namespace Lw
open PySem PySem.Spec PyProof.Rows L2 RZ Dg
section
variable {P : Program} {w : World} {K : PySem.W.Frag} {mg : Str → Option Value} {base : Heap} {ad : Nat → Addr} {fd : Nat → FuncData} {k : Nat} {C : Calls}
theorem ok__law_scope (Fx : Facts K mg w ad fd) (T : Tab P w K mg base ad fd (k + 40) C) : FnOk P w K mg base (L2.CX P w) (k + 41) (ad 20) (fd 20) ["decls"] (spF K mg 1 (runDef 3 (b__law_scope C))) :=
  defD_ok (N := N__law_scope) (ps := ["decls"]) Fx.F20 sc__law_scope (fun cdv A outer s H E G =>
    (css_cons (cs_set (i := 1) sc__law_scope.nd rfl (Or.inl rfl) ce_d0)
    (css_cons (cs_for G (ci_seq (ce_var 0)) (cg_one (i := 2) sc__law_scope.nd rfl (Or.inl rfl)) (css_one (cs_store G (ce_var 1) (ce_sub G (ce_var 2) ce_int) (ce_tup (ca_cons ce_str (ca_cons (ce_sub G (ce_var 2) ce_int) (ca_cons (ce_sub G (ce_var 2) ce_int) ca_nil)))) (fun ho hi he => ps_asg he (pg_sub ho hi set_list)) (fun ho hi he => ps_dput G.hu ho hi he rfl))))
    (css_one (cs_ret (ce_var 1))))))
end
end Lw
namespace Lw
open PySem PySem.Spec PyProof.Rows L2 RZ Dg
section
variable {P : Program} {w : World} {K : PySem.W.Frag} {mg : Str → Option Value} {base : Heap} {ad : Nat → Addr} {fd : Nat → FuncData} {k : Nat} {C : Calls}
theorem ok__law_piece (Fx : Facts K mg w ad fd) (T : Tab P w K mg base ad fd (k + 40) C) : FnOk P w K mg base (L2.CX P w) (k + 41) (ad 21) (fd 21) ["state", "depth"] (spF K mg 2 (runDef 4 (b__law_piece C))) :=
  defD_ok (N := N__law_piece) (ps := ["state", "depth"]) Fx.F21 sc__law_piece (fun cdv A outer s H E G =>
    (css_cons (cs_set (i := 2) sc__law_piece.nd rfl (Or.inl rfl) (ce_def G (Nat.le_refl _) T.G19 (ca_cons (ce_var 0) ca_nil) (fun hx ha => pe_callS T.G19 G.room rfl Fx.m19 Fx.F19.kp Fx.b19 hx ha)))
    (css_cons (cs_set (i := 3) sc__law_piece.nd rfl (Or.inl rfl) (ce_sub G (ce_lst (ca_cons ce_str (ca_cons ce_str ca_nil))) (ce_def G (Nat.le_refl _) T.G7 (ca_cons (ce_var 0) (ca_cons ce_int ca_nil)) (fun hx ha => pe_callS T.G7 G.room rfl Fx.m7 Fx.F7.kp Fx.b7 hx ha))))
    (css_one (cs_ret (ce_tup (ca_cons (ce_var 2) (ca_cons (ce_var 3) (ca_cons (ce_def G (Nat.le_refl _) T.G18 (ca_cons (ce_var 0) (ca_cons (ce_var 3) (ca_cons (ce_def G (Nat.le_refl _) T.G20 (ca_cons (ce_var 2) ca_nil) (fun hx ha => pe_callS T.G20 G.room rfl Fx.m20 Fx.F20.kp Fx.b20 hx ha)) (ca_cons (ce_var 1) ca_nil)))) (fun hx ha => pe_callS T.G18 G.room rfl Fx.m18 Fx.F18.kp Fx.b18 hx ha)) ca_nil)))))))))
end
end Lw
namespace Lw
open PySem PySem.Spec PyProof.Rows L2 RZ Dg
section
variable {P : Program} {w : World} {K : PySem.W.Frag} {mg : Str → Option Value} {base : Heap} {ad : Nat → Addr} {fd : Nat → FuncData} {k : Nat} {C : Calls}
theorem ok__law_kids (Fx : Facts K mg w ad fd) (T : Tab P w K mg base ad fd (k + 40) C) : FnOk P w K mg base (L2.CX P w) (k + 41) (ad 22) (fd 22) ["term", "kind"] (spF K mg 2 (runDef 3 (b__law_kids C))) :=
  defD_ok (N := N__law_kids) (ps := ["term", "kind"]) Fx.F22 sc__law_kids (fun cdv A outer s H E G =>
    (css_cons (cs_set (i := 2) sc__law_kids.nd rfl (Or.inl rfl) (ce_sub G (ce_var 0) ce_int))
    (css_cons (cs_if (ct_cmp (os_in G) (ce_var 2) (ce_tup (ca_cons ce_str (ca_cons ce_str (ca_cons ce_str (ca_cons ce_str (ca_cons ce_str (ca_cons ce_str ca_nil))))))) (by rfl)) (css_one (cs_ret (ce_lst ca_nil))) css_nil)
    (css_cons (cs_if (ct_cmp (os_eq G) (ce_var 2) ce_str (nomark _)) (css_one (cs_ret (ce_lst (ca_cons (ce_tup (ca_cons ce_str (ca_cons (ce_sub G (ce_var 0) ce_int) ca_nil))) (ca_cons (ce_tup (ca_cons ce_str (ca_cons (ce_sub G (ce_var 0) ce_int) ca_nil))) ca_nil))))) css_nil)
    (css_cons (cs_if (ct_cmp (os_eq G) (ce_var 2) ce_str (nomark _)) (css_one (cs_ret (ce_lst (ca_cons (ce_tup (ca_cons ce_str (ca_cons (ce_sub G (ce_var 0) ce_int) ca_nil))) ca_nil)))) css_nil)
    (css_cons (cs_if (ct_cmp (os_eq G) (ce_var 2) ce_str (nomark _)) (css_one (cs_ret (ce_lst (ca_cons (ce_tup (ca_cons ce_str (ca_cons (ce_sub G (ce_var 0) ce_int) ca_nil))) (ca_cons (ce_tup (ca_cons ce_str (ca_cons (ce_sub G (ce_var 0) ce_int) ca_nil))) ca_nil))))) css_nil)
    (css_cons (cs_if (ct_cmp (os_eq G) (ce_var 2) ce_str (nomark _)) (css_one (cs_ret (ce_lst (ca_cons (ce_tup (ca_cons ce_str (ca_cons (ce_sub G (ce_var 0) ce_int) ca_nil))) ca_nil)))) css_nil)
    (css_cons (cs_if (ct_cmp (os_eq G) (ce_var 2) ce_str (nomark _)) (css_one (cs_ret (ce_lst (ca_cons (ce_tup (ca_cons ce_str (ca_cons (ce_sub G (ce_var 0) ce_int) ca_nil))) (ca_cons (ce_tup (ca_cons ce_str (ca_cons (ce_sub G (ce_var 0) ce_int) ca_nil))) ca_nil))))) css_nil)
    (css_cons (cs_if (ct_cmp (os_eq G) (ce_var 2) ce_str (nomark _)) (css_one (cs_ret (ce_lst (ca_cons (ce_tup (ca_cons ce_str (ca_cons (ce_sub G (ce_var 0) ce_int) ca_nil))) (ca_cons (ce_tup (ca_cons (ce_var 1) (ca_cons (ce_sub G (ce_var 0) ce_int) ca_nil))) (ca_cons (ce_tup (ca_cons (ce_var 1) (ca_cons (ce_sub G (ce_var 0) ce_int) ca_nil))) ca_nil)))))) css_nil)
    (css_cons (cs_if (ct_cmp (os_eq G) (ce_var 2) ce_str (nomark _)) (css_one (cs_ret (ce_lst (ca_cons (ce_tup (ca_cons ce_str (ca_cons (ce_sub G (ce_var 0) ce_int) ca_nil))) (ca_cons (ce_tup (ca_cons (ce_var 1) (ca_cons (ce_sub G (ce_var 0) ce_int) ca_nil))) ca_nil))))) css_nil)
    (css_cons (cs_if (ct_cmp (os_eq G) (ce_var 2) ce_str (nomark _)) (css_one (cs_ret (ce_callT cs_list rfl Fx.z_list bt_list (ca_cons (ce_sub G (ce_var 0) ce_int) ca_nil) (fun hc ha => pe_callTy hc rfl Fx.z_list bt_list ha)))) css_nil)
    (css_cons (cs_if (ct_cmp (os_eq G) (ce_var 2) ce_str (nomark _)) (css_one (cs_ret (ce_lst (ca_cons (ce_tup (ca_cons (ce_sub G (ce_var 0) ce_int) (ca_cons (ce_sub G (ce_var 0) ce_int) ca_nil))) (ca_cons (ce_tup (ca_cons (ce_var 1) (ca_cons (ce_sub G (ce_var 0) ce_int) ca_nil))) ca_nil))))) css_nil)
    (css_one (cs_ret (ce_lst (ca_cons (ce_tup (ca_cons ce_str (ca_cons (ce_sub G (ce_var 0) ce_int) ca_nil))) (ca_cons (ce_tup (ca_cons ce_str (ca_cons (ce_sub G (ce_var 0) ce_int) ca_nil))) ca_nil)))))))))))))))))
end
end Lw
namespace Lw
open PySem PySem.Spec PyProof.Rows L2 RZ Dg
section
variable {P : Program} {w : World} {K : PySem.W.Frag} {mg : Str → Option Value} {base : Heap} {ad : Nat → Addr} {fd : Nat → FuncData} {k : Nat} {C : Calls}
theorem ok__law_levels (Fx : Facts K mg w ad fd) (T : Tab P w K mg base ad fd (k + 40) C) : FnOk P w K mg base (L2.CX P w) (k + 41) (ad 23) (fd 23) ["kind", "term"] (spF K mg 2 (runDef 10 (b__law_levels C))) :=
  defD_ok (N := N__law_levels) (ps := ["kind", "term"]) Fx.F23 sc__law_levels (fun cdv A outer s H E G =>
    (css_cons (cs_set (i := 2) sc__law_levels.nd rfl (Or.inl rfl) (ce_lst ca_nil))
    (css_cons (cs_set (i := 3) sc__law_levels.nd rfl (Or.inl rfl) (ce_lst (ca_cons (ce_tup (ca_cons (ce_var 0) (ca_cons (ce_var 1) (ca_cons ce_int ca_nil)))) ca_nil)))
    (css_cons (cs_for G (ci_rg1 rfl Fx.z_range ce_int) (cg_one (i := 4) sc__law_levels.nd rfl (Or.inl rfl)) (css_cons (cs_if (ct_cmp (os_eq G) (ce_callB cs_len rfl Fx.z_len bt_len (ca_cons (ce_var 3) ca_nil) (fun hc ha => pe_callB hc rfl Fx.z_len bt_len ha)) ce_int (nomark _)) (css_one cs_brk) css_nil)
    (css_cons (cs_set (i := 5) sc__law_levels.nd rfl (Or.inl rfl) (ce_mtL0 gs_pop (ce_var 3) (fun hm ho => pe_bm0 PySem.F.plainAttrs_list PySem.F.slot_list_pop PySem.F.type_list_pop hm ho)))
    (css_cons (cs_expr (ce_mtL gs_append (ce_var 2) (ca_cons (ce_var 5) ca_nil) (fun hm ho ha => pe_bm PySem.F.plainAttrs_list PySem.F.slot_list_append PySem.F.type_list_append hm ho ha)))
    (css_cons (cs_set (i := 6) sc__law_levels.nd rfl (Or.inl rfl) (ce_def G (Nat.le_refl _) T.G22 (ca_cons (ce_sub G (ce_var 5) ce_int) (ca_cons (ce_sub G (ce_var 5) ce_int) ca_nil)) (fun hx ha => pe_callS T.G22 G.room rfl Fx.m22 Fx.F22.kp Fx.b22 hx ha)))
    (css_one (cs_for G (ci_rg1 rfl Fx.z_range (ce_callB cs_len rfl Fx.z_len bt_len (ca_cons (ce_var 6) ca_nil) (fun hc ha => pe_callB hc rfl Fx.z_len bt_len ha))) (cg_one (i := 7) sc__law_levels.nd rfl (Or.inl rfl)) (css_cons (cs_set (i := 8) sc__law_levels.nd rfl (Or.inl rfl) (ce_op os_sub (ce_op os_sub (ce_callB cs_len rfl Fx.z_len bt_len (ca_cons (ce_var 6) ca_nil) (fun hc ha => pe_callB hc rfl Fx.z_len bt_len ha)) ce_int) (ce_var 7)))
    (css_cons (cs_set (i := 9) sc__law_levels.nd rfl (Or.inl rfl) (ce_op os_add (ce_sub G (ce_var 5) ce_int) ce_int))
    (css_cons (cs_if (CW.ct (cw_and (ct_cmp (os_eq G) (ce_var 8) ce_int (nomark _)) (cw_and (ct_cmp (os_eq G) (ce_sub G (ce_sub G (ce_var 5) ce_int) ce_int) ce_str (nomark _)) (cw_and1 (ct_cmp (os_eq G) (ce_sub G (ce_sub G (ce_sub G (ce_var 6) (ce_var 8)) ce_int) ce_int) ce_str (nomark _)))))) (css_one (cs_set (i := 9) sc__law_levels.nd rfl (Or.inl rfl) (ce_sub G (ce_var 5) ce_int))) css_nil)
    (css_one (cs_expr (ce_mtL gs_append (ce_var 3) (ca_cons (ce_tup (ca_cons (ce_sub G (ce_sub G (ce_var 6) (ce_var 8)) ce_int) (ca_cons (ce_sub G (ce_sub G (ce_var 6) (ce_var 8)) ce_int) (ca_cons (ce_var 9) ca_nil)))) ca_nil) (fun hm ho ha => pe_bm PySem.F.plainAttrs_list PySem.F.slot_list_append PySem.F.type_list_append hm ho ha))))))))))))))
    (css_one (cs_ret (ce_var 2)))))))
end
end Lw
namespace Lw
open PySem PySem.Spec PyProof.Rows L2 RZ Dg
section
variable {P : Program} {w : World} {K : PySem.W.Frag} {mg : Str → Option Value} {base : Heap} {ad : Nat → Addr} {fd : Nat → FuncData} {k : Nat} {C : Calls}
theorem ok__law_pairs (Fx : Facts K mg w ad fd) (T : Tab P w K mg base ad fd (k + 40) C) : FnOk P w K mg base (L2.CX P w) (k + 41) (ad 24) (fd 24) ["actual", "due"] (spF K mg 2 (runDef 3 (b__law_pairs C))) :=
  defD_ok (N := N__law_pairs) (ps := ["actual", "due"]) Fx.F24 sc__law_pairs (fun cdv A outer s H E G =>
    (css_cons (cs_if (CW.ct (cw_or (ct_not (ct_val (ce_isi kt_list (ce_var 0) (pe_bltn rfl Fx.z_list bt_list rfl) (fun hc ha => pe_callB hc rfl Fx.z_isinstance bt_isinstance ha)))) (cw_or1 (ct_cmp (os_ne G) (ce_callB cs_len rfl Fx.z_len bt_len (ca_cons (ce_var 0) ca_nil) (fun hc ha => pe_callB hc rfl Fx.z_len bt_len ha)) (ce_callB cs_len rfl Fx.z_len bt_len (ca_cons (ce_var 1) ca_nil) (fun hc ha => pe_callB hc rfl Fx.z_len bt_len ha)) (nomark _))))) (css_one (cs_ret ce_bl)) css_nil)
    (css_cons (cs_for G (ci_rg1 rfl Fx.z_range (ce_callB cs_len rfl Fx.z_len bt_len (ca_cons (ce_var 1) ca_nil) (fun hc ha => pe_callB hc rfl Fx.z_len bt_len ha))) (cg_one (i := 2) sc__law_pairs.nd rfl (Or.inl rfl)) (css_one (cs_if (CW.ct (cw_or (ct_not (ct_val (ce_isi kt_tuple (ce_sub G (ce_var 0) (ce_var 2)) (pe_bltn rfl Fx.z_tuple bt_tuple rfl) (fun hc ha => pe_callB hc rfl Fx.z_isinstance bt_isinstance ha)))) (cw_or1 (ct_cmp (os_ne G) (ce_sub G (ce_var 0) (ce_var 2)) (ce_sub G (ce_var 1) (ce_var 2)) (nomark _))))) (css_one (cs_ret ce_bl)) css_nil)))
    (css_one (cs_ret ce_bl)))))
end
end Lw
namespace Lw
open PySem PySem.Spec PyProof.Rows L2 RZ Dg
section
variable {P : Program} {w : World} {K : PySem.W.Frag} {mg : Str → Option Value} {base : Heap} {ad : Nat → Addr} {fd : Nat → FuncData} {k : Nat} {C : Calls}
theorem ok__law_steps (Fx : Facts K mg w ad fd) (T : Tab P w K mg base ad fd (k + 40) C) : FnOk P w K mg base (L2.CX P w) (k + 41) (ad 25) (fd 25) ["term"] (spF K mg 1 (runDef 4 (b__law_steps C))) :=
  defD_ok (N := N__law_steps) (ps := ["term"]) Fx.F25 sc__law_steps (fun cdv A outer s H E G =>
    (css_cons (cs_set (i := 1) sc__law_steps.nd rfl (Or.inl rfl) (ce_lst ca_nil))
    (css_cons (cs_set (i := 2) sc__law_steps.nd rfl (Or.inl rfl) (ce_var 0))
    (css_cons (cs_for G (ci_rg1 rfl Fx.z_range ce_int) (cg_one (i := 3) sc__law_steps.nd rfl (Or.inl rfl)) (css_cons (cs_if (ct_cmp (os_ne G) (ce_sub G (ce_var 2) ce_int) ce_str (nomark _)) (css_one cs_brk) css_nil)
    (css_cons (cs_set (i := 1) sc__law_steps.nd rfl (Or.inl rfl) (ce_op os_add (ce_lst (ca_cons (ce_sub G (ce_var 2) ce_int) ca_nil)) (ce_var 1)))
    (css_one (cs_set (i := 2) sc__law_steps.nd rfl (Or.inl rfl) (ce_sub G (ce_var 2) ce_int))))))
    (css_one (cs_ret (ce_op os_add (ce_lst (ca_cons (ce_var 2) ca_nil)) (ce_var 1))))))))
end
end Lw
namespace Lw
open PySem PySem.Spec PyProof.Rows L2 RZ Dg
section
variable {P : Program} {w : World} {K : PySem.W.Frag} {mg : Str → Option Value} {base : Heap} {ad : Nat → Addr} {fd : Nat → FuncData} {k : Nat} {C : Calls}
theorem ok__law_rowed (Fx : Facts K mg w ad fd) (T : Tab P w K mg base ad fd (k + 40) C) : FnOk P w K mg base (L2.CX P w) (k + 41) (ad 26) (fd 26) ["first", "second"] (spF K mg 2 (runDef 4 (b__law_rowed C))) :=
  defD_ok (N := N__law_rowed) (ps := ["first", "second"]) Fx.F26 sc__law_rowed (fun cdv A outer s H E G =>
    (css_cons (cs_set (i := 2) sc__law_rowed.nd rfl (Or.inl rfl) (ce_def G (Nat.le_refl _) T.G4 (ca_cons (ce_var 0) (ca_cons (ce_var 1) ca_nil)) (fun hx ha => pe_callS T.G4 G.room rfl Fx.m4 Fx.F4.kp Fx.b4 hx ha)))
    (css_cons (cs_if (ct_cmp (os_ne G) (ce_def G (Nat.le_refl _) T.G25 (ca_cons (ce_var 2) ca_nil) (fun hx ha => pe_callS T.G25 G.room rfl Fx.m25 Fx.F25.kp Fx.b25 hx ha)) (ce_op os_add (ce_def G (Nat.le_refl _) T.G25 (ca_cons (ce_var 0) ca_nil) (fun hx ha => pe_callS T.G25 G.room rfl Fx.m25 Fx.F25.kp Fx.b25 hx ha)) (ce_def G (Nat.le_refl _) T.G25 (ca_cons (ce_var 1) ca_nil) (fun hx ha => pe_callS T.G25 G.room rfl Fx.m25 Fx.F25.kp Fx.b25 hx ha))) (nomark _)) (css_one (cs_ret ce_bl)) css_nil)
    (css_cons (cs_for G (ci_seq (ce_def G (Nat.le_refl _) T.G25 (ca_cons (ce_var 2) ca_nil) (fun hx ha => pe_callS T.G25 G.room rfl Fx.m25 Fx.F25.kp Fx.b25 hx ha))) (cg_one (i := 3) sc__law_rowed.nd rfl (Or.inl rfl)) (css_one (cs_if (ct_cmp (os_eq G) (ce_sub G (ce_var 3) ce_int) ce_str (nomark _)) (css_one (cs_ret ce_bl)) css_nil)))
    (css_one (cs_ret (ce_cmp (os_eq G) (ce_var 2) (ce_def G (Nat.le_refl _) T.G16 (ca_cons (ce_var 0) (ca_cons (ce_var 1) ca_nil)) (fun hx ha => pe_callS T.G16 G.room rfl Fx.m16 Fx.F16.kp Fx.b16 hx ha)) (nomark _))))))))
end
end Lw
namespace Lw
open PySem PySem.Spec PyProof.Rows L2 RZ Dg
section
variable {P : Program} {w : World} {K : PySem.W.Frag} {mg : Str → Option Value} {base : Heap} {ad : Nat → Addr} {fd : Nat → FuncData} {k : Nat} {C : Calls}
theorem ok_law (Fx : Facts K mg w ad fd) (T : Tab P w K mg base ad fd (k + 40) C) : FnOk P w K mg base (L2.CX P w) (k + 41) (ad 27) (fd 27) ["script"] (spF K mg 1 (runDef 10 (b_law C))) :=
  defD_ok (N := N_law) (ps := ["script"]) Fx.F27 sc_law (fun cdv A outer s H E G =>
    (css_cons (cs_set (i := 1) sc_law.nd rfl (Or.inl rfl) (ce_lst (ca_cons (ce_def G (Nat.le_refl _) T.G5 (ca_cons (ce_var 0) ca_nil) (fun hx ha => pe_callS T.G5 G.room rfl Fx.m5 Fx.F5.kp Fx.b5 hx ha)) (ca_cons ce_int ca_nil))))
    (css_cons (cs_set (i := 2) sc_law.nd rfl (Or.inl rfl) (ce_def G (Nat.le_refl _) T.G21 (ca_cons (ce_var 1) (ca_cons (ce_op os_add ce_int (ce_def G (Nat.le_refl _) T.G7 (ca_cons (ce_var 1) (ca_cons ce_int ca_nil)) (fun hx ha => pe_callS T.G7 G.room rfl Fx.m7 Fx.F7.kp Fx.b7 hx ha))) ca_nil)) (fun hx ha => pe_callS T.G21 G.room rfl Fx.m21 Fx.F21.kp Fx.b21 hx ha)))
    (css_cons (cs_if (ct_cmp (os_eq G) (ce_def G (Nat.le_refl _) T.G7 (ca_cons (ce_var 1) (ca_cons ce_int ca_nil)) (fun hx ha => pe_callS T.G7 G.room rfl Fx.m7 Fx.F7.kp Fx.b7 hx ha)) ce_int (nomark _)) (css_cons (cs_set (i := 3) sc_law.nd rfl (Or.inl rfl) (ce_tup (ca_cons ce_str ca_nil)))
    (css_cons (cs_for G (ci_rg1 rfl Fx.z_range (ce_def G (Nat.le_refl _) T.G7 (ca_cons (ce_var 1) (ca_cons ce_int ca_nil)) (fun hx ha => pe_callS T.G7 G.room rfl Fx.m7 Fx.F7.kp Fx.b7 hx ha))) (cg_one (i := 4) sc_law.nd rfl (Or.inl rfl)) (css_one (cs_set (i := 3) sc_law.nd rfl (Or.inl rfl) (ce_tup (ca_cons ce_str (ca_cons (ce_var 3) (ca_cons (ce_def G (Nat.le_refl _) T.G11 (ca_cons (ce_var 1) (ca_cons ce_str (ca_cons (ce_def G (Nat.le_refl _) T.G20 (ca_cons (ce_sub G (ce_var 2) ce_int) ca_nil) (fun hx ha => pe_callS T.G20 G.room rfl Fx.m20 Fx.F20.kp Fx.b20 hx ha)) ca_nil))) (fun hx ha => pe_callS T.G11 G.room rfl Fx.m11 Fx.F11.kp Fx.b11 hx ha)) ca_nil)))))))
    (css_one (cs_set (i := 2) sc_law.nd rfl (Or.inl rfl) (ce_tup (ca_cons (ce_sub G (ce_var 2) ce_int) (ca_cons ce_str (ca_cons (ce_var 3) ca_nil)))))))) css_nil)
    (css_cons (cs_set (i := 5) sc_law.nd rfl (Or.inl rfl) (ce_def G (Nat.le_refl _) T.G23 (ca_cons (ce_sub G (ce_var 2) ce_int) (ca_cons (ce_sub G (ce_var 2) ce_int) ca_nil)) (fun hx ha => pe_callS T.G23 G.room rfl Fx.m23 Fx.F23.kp Fx.b23 hx ha)))
    (css_cons (cs_set (i := 6) sc_law.nd rfl (Or.inl rfl) (ce_def G (Nat.le_refl _) T.G2 (ca_cons (ce_sub G (ce_var 2) ce_int) (ca_cons (ce_sub G (ce_var 2) ce_int) ca_nil)) (fun hx ha => pe_callS T.G2 G.room rfl Fx.m2 Fx.F2.kp Fx.b2 hx ha)))
    (css_cons (cs_if (ct_not (ct_val (ce_def G (Nat.le_refl _) T.G24 (ca_cons (ce_var 6) (ca_cons (ce_var 5) ca_nil)) (fun hx ha => pe_callS T.G24 G.room rfl Fx.m24 Fx.F24.kp Fx.b24 hx ha)))) (css_one (cs_ret ce_bl)) css_nil)
    (css_cons (cs_expr (ce_mtL gs_append (ce_var 6) (ca_cons (ce_tup (ca_cons ce_str (ca_cons (ce_tup (ca_cons ce_str ca_nil)) (ca_cons ce_int ca_nil)))) ca_nil) (fun hm ho ha => pe_bm PySem.F.plainAttrs_list PySem.F.slot_list_append PySem.F.type_list_append hm ho ha)))
    (css_cons (cs_if (ct_not (ct_val (ce_def G (Nat.le_refl _) T.G24 (ca_cons (ce_def G (Nat.le_refl _) T.G2 (ca_cons (ce_sub G (ce_var 2) ce_int) (ca_cons (ce_sub G (ce_var 2) ce_int) ca_nil)) (fun hx ha => pe_callS T.G2 G.room rfl Fx.m2 Fx.F2.kp Fx.b2 hx ha)) (ca_cons (ce_var 5) ca_nil)) (fun hx ha => pe_callS T.G24 G.room rfl Fx.m24 Fx.F24.kp Fx.b24 hx ha)))) (css_one (cs_ret ce_bl)) css_nil)
    (css_cons (cs_for G (ci_seq (ce_slice (ce_var 5) co_none (co_some ce_int))) (cg_one (i := 7) sc_law.nd rfl (Or.inl rfl)) (css_one (cs_if (ct_not (ct_val (ce_def G (Nat.le_refl _) T.G24 (ca_cons (ce_def G (Nat.le_refl _) T.G0 (ca_cons (ce_sub G (ce_var 7) ce_int) (ca_cons (ce_sub G (ce_var 7) ce_int) ca_nil)) (fun hx ha => pe_callS T.G0 G.room rfl Fx.m0 Fx.F0.kp Fx.b0 hx ha)) (ca_cons (ce_def G (Nat.le_refl _) T.G22 (ca_cons (ce_sub G (ce_var 7) ce_int) (ca_cons (ce_sub G (ce_var 7) ce_int) ca_nil)) (fun hx ha => pe_callS T.G22 G.room rfl Fx.m22 Fx.F22.kp Fx.b22 hx ha)) ca_nil)) (fun hx ha => pe_callS T.G24 G.room rfl Fx.m24 Fx.F24.kp Fx.b24 hx ha)))) (css_one (cs_ret ce_bl)) css_nil)))
    (css_cons (cs_set (i := 8) sc_law.nd rfl (Or.inl rfl) (ce_op os_add (ce_lc (own := [("node", 7)]) G sc_law.nd (blkOk_by (own := [("node", 7)]) (N := N_law) (sc := defScope s_law) (by decide +kernel)) (ci_seq (ce_var 5)) (fun s0 H0 C0 cl fp => (cg_one (i := 7) sc_law.nd rfl (Or.inl rfl))) (fun s0 H0 C0 cl fp => have G := Good.blk (s := s0) (H := H0) (fp := fp) G; (cts_one (ct_cmp (os_eq G) (ce_sub G (ce_var 7) ce_int) ce_str (nomark _)))) (fun s0 H0 C0 cl fp => have G := Good.blk (s := s0) (H := H0) (fp := fp) G; (ce_sub G (ce_var 7) ce_int)) rfl) (ce_lst (ca_cons (ce_tup (ca_cons ce_str ca_nil)) ca_nil))))
    (css_cons (cs_for G (ci_rg1 rfl Fx.z_range ce_int) (cg_one (i := 4) sc_law.nd rfl (Or.inl rfl)) (css_cons (cs_set (i := 9) sc_law.nd rfl (Or.inl rfl) (ce_sub G (ce_var 8) (ce_def G (Nat.le_refl _) T.G7 (ca_cons (ce_var 1) (ca_cons (ce_callB cs_len rfl Fx.z_len bt_len (ca_cons (ce_var 8) ca_nil) (fun hc ha => pe_callB hc rfl Fx.z_len bt_len ha)) ca_nil)) (fun hx ha => pe_callS T.G7 G.room rfl Fx.m7 Fx.F7.kp Fx.b7 hx ha))))
    (css_one (cs_if (ct_not (ct_val (ce_def G (Nat.le_refl _) T.G26 (ca_cons (ce_var 9) (ca_cons (ce_sub G (ce_var 8) (ce_def G (Nat.le_refl _) T.G7 (ca_cons (ce_var 1) (ca_cons (ce_callB cs_len rfl Fx.z_len bt_len (ca_cons (ce_var 8) ca_nil) (fun hc ha => pe_callB hc rfl Fx.z_len bt_len ha)) ca_nil)) (fun hx ha => pe_callS T.G7 G.room rfl Fx.m7 Fx.F7.kp Fx.b7 hx ha))) ca_nil)) (fun hx ha => pe_callS T.G26 G.room rfl Fx.m26 Fx.F26.kp Fx.b26 hx ha)))) (css_one (cs_ret ce_bl)) css_nil))))
    (css_one (cs_ret ce_bl))))))))))))))
end
end Lw
namespace Lw
open PySem PySem.Spec PyProof.Rows L2 RZ Dg
section
variable {P : Program} {w : World} {K : PySem.W.Frag} {mg : Str → Option Value} {base : Heap} {ad : Nat → Addr} {fd : Nat → FuncData} {k : Nat} {C : Calls}
theorem tab_0 (ad : Nat → Addr) (fd : Nat → FuncData) : Tab P w K mg base ad fd 40 (call 0) := ⟨fn_bad, fn_bad, fn_bad, fn_bad, fn_bad, fn_bad, fn_bad, fn_bad, fn_bad, fn_bad, fn_bad, fn_bad, fn_bad, fn_bad, fn_bad, fn_bad, fn_bad, fn_bad, fn_bad, fn_bad, fn_bad, fn_bad, fn_bad, fn_bad, fn_bad, fn_bad, fn_bad, fn_bad⟩
theorem tab_s (Fx : Facts K mg w ad fd) (T : Tab P w K mg base ad fd (k + 40) (call k)) : Tab P w K mg base ad fd (k + 41) (call (k + 1)) :=
  ⟨ok_kids Fx T, ok_levels_of_parts Fx T, ok_nodes Fx T, ok_steps_of Fx T, ok_row Fx T, ok__law_stream Fx T, ok__law_pick Fx T, ok__law_next Fx T, ok__law_callable Fx T, ok__law_sorts Fx T, ok__law_call Fx T, ok__law_leaf Fx T, ok__law_inner Fx T, ok__law_pool Fx T, ok__law_proc Fx T, ok__law_common Fx T, ok__law_joined Fx T, ok__law_command Fx T, ok__law_term Fx T, ok__law_decls Fx T, ok__law_scope Fx T, ok__law_piece Fx T, ok__law_kids Fx T, ok__law_levels Fx T, ok__law_pairs Fx T, ok__law_steps Fx T, ok__law_rowed Fx T, ok_law Fx T⟩
theorem tab (Fx : Facts K mg w ad fd) : ∀ k : Nat, Tab P w K mg base ad fd (k + 40) (call k)
  | 0 => tab_0 ad fd
  | k + 1 => by
    have h := tab_s Fx (tab Fx k)
    rw [show k + 1 + 40 = k + 41 by omega]
    exact h
end
end Lw
namespace Lw
open PySem PySem.Spec PyProof.Rows L2 RZ Dg
def d_kids : He.DefD := ⟨("kids", none), "kids", "kids", defArgs s_kids, defBody s_kids, defScope s_kids, [], []⟩
def d_levels_of_parts : He.DefD := ⟨("levels_of_parts", none), "levels_of_parts", "levels_of_parts", defArgs s_levels_of_parts, defBody s_levels_of_parts, defScope s_levels_of_parts, [], []⟩
def d_nodes : He.DefD := ⟨("nodes", none), "nodes", "nodes", defArgs s_nodes, defBody s_nodes, defScope s_nodes, [], []⟩
def d_steps_of : He.DefD := ⟨("steps_of", none), "steps_of", "steps_of", defArgs s_steps_of, defBody s_steps_of, defScope s_steps_of, [], []⟩
def d_row : He.DefD := ⟨("row", none), "row", "row", defArgs s_row, defBody s_row, defScope s_row, [], []⟩
def d__law_stream : He.DefD := ⟨("_law_stream", none), "_law_stream", "_law_stream", defArgs s__law_stream, defBody s__law_stream, defScope s__law_stream, [], []⟩
def d__law_pick : He.DefD := ⟨("_law_pick", none), "_law_pick", "_law_pick", defArgs s__law_pick, defBody s__law_pick, defScope s__law_pick, [], []⟩
def d__law_next : He.DefD := ⟨("_law_next", none), "_law_next", "_law_next", defArgs s__law_next, defBody s__law_next, defScope s__law_next, [], []⟩
def d__law_callable : He.DefD := ⟨("_law_callable", none), "_law_callable", "_law_callable", defArgs s__law_callable, defBody s__law_callable, defScope s__law_callable, [], []⟩
def d__law_sorts : He.DefD := ⟨("_law_sorts", none), "_law_sorts", "_law_sorts", defArgs s__law_sorts, defBody s__law_sorts, defScope s__law_sorts, [], []⟩
def d__law_call : He.DefD := ⟨("_law_call", none), "_law_call", "_law_call", defArgs s__law_call, defBody s__law_call, defScope s__law_call, [], []⟩
def d__law_leaf : He.DefD := ⟨("_law_leaf", none), "_law_leaf", "_law_leaf", defArgs s__law_leaf, defBody s__law_leaf, defScope s__law_leaf, [], []⟩
def d__law_inner : He.DefD := ⟨("_law_inner", none), "_law_inner", "_law_inner", defArgs s__law_inner, defBody s__law_inner, defScope s__law_inner, [], []⟩
def d__law_pool : He.DefD := ⟨("_law_pool", none), "_law_pool", "_law_pool", defArgs s__law_pool, defBody s__law_pool, defScope s__law_pool, [], []⟩
def d__law_proc : He.DefD := ⟨("_law_proc", none), "_law_proc", "_law_proc", defArgs s__law_proc, defBody s__law_proc, defScope s__law_proc, [], []⟩
def d__law_common : He.DefD := ⟨("_law_common", none), "_law_common", "_law_common", defArgs s__law_common, defBody s__law_common, defScope s__law_common, [], []⟩
def d__law_joined : He.DefD := ⟨("_law_joined", none), "_law_joined", "_law_joined", defArgs s__law_joined, defBody s__law_joined, defScope s__law_joined, [], []⟩
def d__law_command : He.DefD := ⟨("_law_command", none), "_law_command", "_law_command", defArgs s__law_command, defBody s__law_command, defScope s__law_command, [], []⟩
def d__law_term : He.DefD := ⟨("_law_term", none), "_law_term", "_law_term", defArgs s__law_term, defBody s__law_term, defScope s__law_term, [], []⟩
def d__law_decls : He.DefD := ⟨("_law_decls", none), "_law_decls", "_law_decls", defArgs s__law_decls, defBody s__law_decls, defScope s__law_decls, [], []⟩
def d__law_scope : He.DefD := ⟨("_law_scope", none), "_law_scope", "_law_scope", defArgs s__law_scope, defBody s__law_scope, defScope s__law_scope, [], []⟩
def d__law_piece : He.DefD := ⟨("_law_piece", none), "_law_piece", "_law_piece", defArgs s__law_piece, defBody s__law_piece, defScope s__law_piece, [], []⟩
def d__law_kids : He.DefD := ⟨("_law_kids", none), "_law_kids", "_law_kids", defArgs s__law_kids, defBody s__law_kids, defScope s__law_kids, [], []⟩
def d__law_levels : He.DefD := ⟨("_law_levels", none), "_law_levels", "_law_levels", defArgs s__law_levels, defBody s__law_levels, defScope s__law_levels, [], []⟩
def d__law_pairs : He.DefD := ⟨("_law_pairs", none), "_law_pairs", "_law_pairs", defArgs s__law_pairs, defBody s__law_pairs, defScope s__law_pairs, [], []⟩
def d__law_steps : He.DefD := ⟨("_law_steps", none), "_law_steps", "_law_steps", defArgs s__law_steps, defBody s__law_steps, defScope s__law_steps, [], []⟩
def d__law_rowed : He.DefD := ⟨("_law_rowed", none), "_law_rowed", "_law_rowed", defArgs s__law_rowed, defBody s__law_rowed, defScope s__law_rowed, [], []⟩
def d_law : He.DefD := ⟨("law", none), "law", "law", defArgs s_law, defBody s_law, defScope s_law, [], []⟩
def hfn : List He.DefD := [d_kids, d_levels_of_parts, d_nodes, d_steps_of, d_row, d__law_stream, d__law_pick, d__law_next, d__law_callable, d__law_sorts, d__law_call, d__law_leaf, d__law_inner, d__law_pool, d__law_proc, d__law_common, d__law_joined, d__law_command, d__law_term, d__law_decls, d__law_scope, d__law_piece, d__law_kids, d__law_levels, d__law_pairs, d__law_steps, d__law_rowed, d_law]
def hfa : List He.Fa := [.glo "kids", .glo "levels_of_parts", .glo "nodes", .glo "steps_of", .glo "row", .glo "_law_stream", .glo "_law_pick", .glo "_law_next", .glo "_law_callable", .glo "_law_sorts", .glo "_law_call", .glo "_law_leaf", .glo "_law_inner", .glo "_law_pool", .glo "_law_proc", .glo "_law_common", .glo "_law_joined", .glo "_law_command", .glo "_law_term", .glo "_law_decls", .glo "_law_scope", .glo "_law_piece", .glo "_law_kids", .glo "_law_levels", .glo "_law_pairs", .glo "_law_steps", .glo "_law_rowed", .glo "law", .glo "FORMS", .free "dict", .free "int", .free "isinstance", .free "len", .free "list", .free "range", .free "reversed", .free "sorted", .free "tuple", .free "zip"]
def hts : List He.Tab := [(fun K => He.ga K "FORMS", ["skip", "seq", "set", "while", "block", "num", "read", "add", "sub", "mul", "equal", "less", "do", "stop", "fault", "exit", "if", "new", "call", "proc"])]
def hfu : List FaU := [.tab "FORMS" tab_FORMS, .con "KINDS" (.tup [(.str "com"), (.str "exp")])]
abbrev R : PySem.W.OpenRow := PySem.W.OpenLaw.row PySem.Challenge.rw_doppelganger_k01_parts_and_nodes
abbrev hk : PySem.W.Hook := hookU 5 hfa hfn hts hfu
def ob (s : PySem.W.SharedT) : AlU := obsUG 5 hfa hfn hts hfu (HandSHeadRun.getT s)
theorem ob_eq (s : PySem.W.SharedT) : ob s = hk.obs s.abs := obsUG_eq (HandSHeadRun.getT_eq s)
def hloose : List PySem.Str := (["KINDS", "FORMS", "kids", "levels_of_parts", "nodes", "steps_of", "row", "_law_stream", "_law_pick", "_law_next", "_law_callable", "_law_sorts", "_law_call", "_law_leaf", "_law_inner", "_law_pool", "_law_proc", "_law_common", "_law_joined", "_law_command", "_law_term", "_law_decls", "_law_scope", "_law_piece", "_law_kids", "_law_levels", "_law_pairs", "_law_steps", "_law_rowed"] : List PySem.Str)
theorem run (w : World) : HandSHeadRun.RunEq R (PySem.W.view R.prog [31]) hk ob 3000 hloose w :=
  PySem.W.byRow2 "special-get-raises" (P := fun w => HandSHeadRun.RunEq R (PySem.W.view R.prog [31]) hk ob 3000 hloose w)
    (fun w => by
      intro os
      kernel_rfl) (fun w => by
      intro os
      kernel_rfl) w
def adOf (K : PySem.W.Frag) : Nat → Addr
  | 0 => He.ga K "kids"
  | 1 => He.ga K "levels_of_parts"
  | 2 => He.ga K "nodes"
  | 3 => He.ga K "steps_of"
  | 4 => He.ga K "row"
  | 5 => He.ga K "_law_stream"
  | 6 => He.ga K "_law_pick"
  | 7 => He.ga K "_law_next"
  | 8 => He.ga K "_law_callable"
  | 9 => He.ga K "_law_sorts"
  | 10 => He.ga K "_law_call"
  | 11 => He.ga K "_law_leaf"
  | 12 => He.ga K "_law_inner"
  | 13 => He.ga K "_law_pool"
  | 14 => He.ga K "_law_proc"
  | 15 => He.ga K "_law_common"
  | 16 => He.ga K "_law_joined"
  | 17 => He.ga K "_law_command"
  | 18 => He.ga K "_law_term"
  | 19 => He.ga K "_law_decls"
  | 20 => He.ga K "_law_scope"
  | 21 => He.ga K "_law_piece"
  | 22 => He.ga K "_law_kids"
  | 23 => He.ga K "_law_levels"
  | 24 => He.ga K "_law_pairs"
  | 25 => He.ga K "_law_steps"
  | 26 => He.ga K "_law_rowed"
  | 27 => He.ga K "law"
  | _ => 0
theorem facts {w : World} {K : PySem.W.Frag} {h : Heap} {mg : Str → Option Value} (X : K.In h) (G : h.Ns mainGlobals mg) (c : SaysU hfa hfn hts hfu w K) : ∃ fd : Nat → FuncData, Facts K mg w (adOf K) fd := by
  obtain ⟨f0, F0⟩ := c.t.d.def_ 0 (d := d_kids) rfl
  obtain ⟨f1, F1⟩ := c.t.d.def_ 1 (d := d_levels_of_parts) rfl
  obtain ⟨f2, F2⟩ := c.t.d.def_ 2 (d := d_nodes) rfl
  obtain ⟨f3, F3⟩ := c.t.d.def_ 3 (d := d_steps_of) rfl
  obtain ⟨f4, F4⟩ := c.t.d.def_ 4 (d := d_row) rfl
  obtain ⟨f5, F5⟩ := c.t.d.def_ 5 (d := d__law_stream) rfl
  obtain ⟨f6, F6⟩ := c.t.d.def_ 6 (d := d__law_pick) rfl
  obtain ⟨f7, F7⟩ := c.t.d.def_ 7 (d := d__law_next) rfl
  obtain ⟨f8, F8⟩ := c.t.d.def_ 8 (d := d__law_callable) rfl
  obtain ⟨f9, F9⟩ := c.t.d.def_ 9 (d := d__law_sorts) rfl
  obtain ⟨f10, F10⟩ := c.t.d.def_ 10 (d := d__law_call) rfl
  obtain ⟨f11, F11⟩ := c.t.d.def_ 11 (d := d__law_leaf) rfl
  obtain ⟨f12, F12⟩ := c.t.d.def_ 12 (d := d__law_inner) rfl
  obtain ⟨f13, F13⟩ := c.t.d.def_ 13 (d := d__law_pool) rfl
  obtain ⟨f14, F14⟩ := c.t.d.def_ 14 (d := d__law_proc) rfl
  obtain ⟨f15, F15⟩ := c.t.d.def_ 15 (d := d__law_common) rfl
  obtain ⟨f16, F16⟩ := c.t.d.def_ 16 (d := d__law_joined) rfl
  obtain ⟨f17, F17⟩ := c.t.d.def_ 17 (d := d__law_command) rfl
  obtain ⟨f18, F18⟩ := c.t.d.def_ 18 (d := d__law_term) rfl
  obtain ⟨f19, F19⟩ := c.t.d.def_ 19 (d := d__law_decls) rfl
  obtain ⟨f20, F20⟩ := c.t.d.def_ 20 (d := d__law_scope) rfl
  obtain ⟨f21, F21⟩ := c.t.d.def_ 21 (d := d__law_piece) rfl
  obtain ⟨f22, F22⟩ := c.t.d.def_ 22 (d := d__law_kids) rfl
  obtain ⟨f23, F23⟩ := c.t.d.def_ 23 (d := d__law_levels) rfl
  obtain ⟨f24, F24⟩ := c.t.d.def_ 24 (d := d__law_pairs) rfl
  obtain ⟨f25, F25⟩ := c.t.d.def_ 25 (d := d__law_steps) rfl
  obtain ⟨f26, F26⟩ := c.t.d.def_ 26 (d := d__law_rowed) rfl
  obtain ⟨f27, F27⟩ := c.t.d.def_ 27 (d := d_law) rfl
  obtain ⟨es0, n0, D0⟩ := c.t.tab 0 (t := (fun K => He.ga K "FORMS", ["skip", "seq", "set", "while", "block", "num", "read", "add", "sub", "mul", "equal", "less", "do", "stop", "fault", "exit", "if", "new", "call", "proc"])) rfl
  refine ⟨fun i => match i with
    | 0 => f0
    | 1 => f1
    | 2 => f2
    | 3 => f3
    | 4 => f4
    | 5 => f5
    | 6 => f6
    | 7 => f7
    | 8 => f8
    | 9 => f9
    | 10 => f10
    | 11 => f11
    | 12 => f12
    | 13 => f13
    | 14 => f14
    | 15 => f15
    | 16 => f16
    | 17 => f17
    | 18 => f18
    | 19 => f19
    | 20 => f20
    | 21 => f21
    | 22 => f22
    | 23 => f23
    | 24 => f24
    | 25 => f25
    | 26 => f26
    | 27 => f27
    | _ => f0, ?_⟩
  exact {
    F0 := F0
    b0 := FunD.bindsN F0 fun _ _ _ _ _ _ us hl => match us, hl with | [_, _], _ => rfl
    m0 := He.glo_ok X G (c.t.d.fact 0 (f := .glo "kids") rfl)
    F1 := F1
    b1 := FunD.bindsN F1 fun _ _ _ _ _ _ us hl => match us, hl with | [_, _, _], _ => rfl
    m1 := He.glo_ok X G (c.t.d.fact 1 (f := .glo "levels_of_parts") rfl)
    F2 := F2
    b2 := FunD.bindsN F2 fun _ _ _ _ _ _ us hl => match us, hl with | [_, _], _ => rfl
    m2 := He.glo_ok X G (c.t.d.fact 2 (f := .glo "nodes") rfl)
    F3 := F3
    b3 := FunD.bindsN F3 fun _ _ _ _ _ _ us hl => match us, hl with | [_], _ => rfl
    m3 := He.glo_ok X G (c.t.d.fact 3 (f := .glo "steps_of") rfl)
    F4 := F4
    b4 := FunD.bindsN F4 fun _ _ _ _ _ _ us hl => match us, hl with | [_, _], _ => rfl
    m4 := He.glo_ok X G (c.t.d.fact 4 (f := .glo "row") rfl)
    F5 := F5
    b5 := FunD.bindsN F5 fun _ _ _ _ _ _ us hl => match us, hl with | [_], _ => rfl
    m5 := He.glo_ok X G (c.t.d.fact 5 (f := .glo "_law_stream") rfl)
    F6 := F6
    b6 := FunD.bindsN F6 fun _ _ _ _ _ _ us hl => match us, hl with | [_, _, _], _ => rfl
    m6 := He.glo_ok X G (c.t.d.fact 6 (f := .glo "_law_pick") rfl)
    F7 := F7
    b7 := FunD.bindsN F7 fun _ _ _ _ _ _ us hl => match us, hl with | [_, _], _ => rfl
    m7 := He.glo_ok X G (c.t.d.fact 7 (f := .glo "_law_next") rfl)
    F8 := F8
    b8 := FunD.bindsN F8 fun _ _ _ _ _ _ us hl => match us, hl with | [_, _, _], _ => rfl
    m8 := He.glo_ok X G (c.t.d.fact 8 (f := .glo "_law_callable") rfl)
    F9 := F9
    b9 := FunD.bindsN F9 fun _ _ _ _ _ _ us hl => match us, hl with | [_, _], _ => rfl
    m9 := He.glo_ok X G (c.t.d.fact 9 (f := .glo "_law_sorts") rfl)
    F10 := F10
    b10 := FunD.bindsN F10 fun _ _ _ _ _ _ us hl => match us, hl with | [_, _, _, _], _ => rfl
    m10 := He.glo_ok X G (c.t.d.fact 10 (f := .glo "_law_call") rfl)
    F11 := F11
    b11 := FunD.bindsN F11 fun _ _ _ _ _ _ us hl => match us, hl with | [_, _, _], _ => rfl
    m11 := He.glo_ok X G (c.t.d.fact 11 (f := .glo "_law_leaf") rfl)
    F12 := F12
    b12 := FunD.bindsN F12 fun _ _ _ _ _ _ us hl => match us, hl with | [_, _, _], _ => rfl
    m12 := He.glo_ok X G (c.t.d.fact 12 (f := .glo "_law_inner") rfl)
    F13 := F13
    b13 := FunD.bindsN F13 fun _ _ _ _ _ _ us hl => match us, hl with | [_], _ => rfl
    m13 := He.glo_ok X G (c.t.d.fact 13 (f := .glo "_law_pool") rfl)
    F14 := F14
    b14 := FunD.bindsN F14 fun _ _ _ _ _ _ us hl => match us, hl with | [_, _, _, _], _ => rfl
    m14 := He.glo_ok X G (c.t.d.fact 14 (f := .glo "_law_proc") rfl)
    F15 := F15
    b15 := FunD.bindsN F15 fun _ _ _ _ _ _ us hl => match us, hl with | [_, _, _, _, _], _ => rfl
    m15 := He.glo_ok X G (c.t.d.fact 15 (f := .glo "_law_common") rfl)
    F16 := F16
    b16 := FunD.bindsN F16 fun _ _ _ _ _ _ us hl => match us, hl with | [_, _], _ => rfl
    m16 := He.glo_ok X G (c.t.d.fact 16 (f := .glo "_law_joined") rfl)
    F17 := F17
    b17 := FunD.bindsN F17 fun _ _ _ _ _ _ us hl => match us, hl with | [_, _, _, _], _ => rfl
    m17 := He.glo_ok X G (c.t.d.fact 17 (f := .glo "_law_command") rfl)
    F18 := F18
    b18 := FunD.bindsN F18 fun _ _ _ _ _ _ us hl => match us, hl with | [_, _, _, _], _ => rfl
    m18 := He.glo_ok X G (c.t.d.fact 18 (f := .glo "_law_term") rfl)
    F19 := F19
    b19 := FunD.bindsN F19 fun _ _ _ _ _ _ us hl => match us, hl with | [_], _ => rfl
    m19 := He.glo_ok X G (c.t.d.fact 19 (f := .glo "_law_decls") rfl)
    F20 := F20
    b20 := FunD.bindsN F20 fun _ _ _ _ _ _ us hl => match us, hl with | [_], _ => rfl
    m20 := He.glo_ok X G (c.t.d.fact 20 (f := .glo "_law_scope") rfl)
    F21 := F21
    b21 := FunD.bindsN F21 fun _ _ _ _ _ _ us hl => match us, hl with | [_, _], _ => rfl
    m21 := He.glo_ok X G (c.t.d.fact 21 (f := .glo "_law_piece") rfl)
    F22 := F22
    b22 := FunD.bindsN F22 fun _ _ _ _ _ _ us hl => match us, hl with | [_, _], _ => rfl
    m22 := He.glo_ok X G (c.t.d.fact 22 (f := .glo "_law_kids") rfl)
    F23 := F23
    b23 := FunD.bindsN F23 fun _ _ _ _ _ _ us hl => match us, hl with | [_, _], _ => rfl
    m23 := He.glo_ok X G (c.t.d.fact 23 (f := .glo "_law_levels") rfl)
    F24 := F24
    b24 := FunD.bindsN F24 fun _ _ _ _ _ _ us hl => match us, hl with | [_, _], _ => rfl
    m24 := He.glo_ok X G (c.t.d.fact 24 (f := .glo "_law_pairs") rfl)
    F25 := F25
    b25 := FunD.bindsN F25 fun _ _ _ _ _ _ us hl => match us, hl with | [_], _ => rfl
    m25 := He.glo_ok X G (c.t.d.fact 25 (f := .glo "_law_steps") rfl)
    F26 := F26
    b26 := FunD.bindsN F26 fun _ _ _ _ _ _ us hl => match us, hl with | [_, _], _ => rfl
    m26 := He.glo_ok X G (c.t.d.fact 26 (f := .glo "_law_rowed") rfl)
    F27 := F27
    b27 := FunD.bindsN F27 fun _ _ _ _ _ _ us hl => match us, hl with | [_], _ => rfl
    m27 := He.glo_ok X G (c.t.d.fact 27 (f := .glo "law") rfl)
    z_dict := He.free_ok X G (c.t.d.fact 29 (f := .free "dict") rfl)
    z_int := He.free_ok X G (c.t.d.fact 30 (f := .free "int") rfl)
    z_isinstance := He.free_ok X G (c.t.d.fact 31 (f := .free "isinstance") rfl)
    z_len := He.free_ok X G (c.t.d.fact 32 (f := .free "len") rfl)
    z_list := He.free_ok X G (c.t.d.fact 33 (f := .free "list") rfl)
    z_range := He.free_ok X G (c.t.d.fact 34 (f := .free "range") rfl)
    z_reversed := He.free_ok X G (c.t.d.fact 35 (f := .free "reversed") rfl)
    z_sorted := He.free_ok X G (c.t.d.fact 36 (f := .free "sorted") rfl)
    z_tuple := He.free_ok X G (c.t.d.fact 37 (f := .free "tuple") rfl)
    z_zip := He.free_ok X G (c.t.d.fact 38 (f := .free "zip") rfl)
    c_FORMS := tab_ok X G (c.f 0 (f := .tab "FORMS" tab_FORMS) rfl) (c.t.d.fact 28 (f := .glo "FORMS") rfl) D0
    c_KINDS := con_ok X G (c.f 1 (f := .con "KINDS" (.tup [(.str "com"), (.str "exp")])) rfl)
  }
end Lw
namespace Lw
open PySem PySem.Spec PyProof.Rows L2 RZ Dg
local macro_rules | `(tactic| walk_at "go") => `(tactic| simp (config := {decide := true}) only [w_run, w_op, w_c, w_var, w_call, w_def, w_anil, w_acons, w_tup, w_lst, w_int, w_intB, w_lenT, w_addI, w_subI, w_modI, w_mulI, w_ltI, w_leI, w_gtI, w_geI, w_eq, w_ne, w_ixT, w_if, w_nt, w_an, w_or, w_all, w_tstB, w_tst, w_app, w_lc, w_for, w_iseqT, w_rg1, w_rev1, w_d0, Dg.eq_str, Dg.eq_int, s_seq, s_next, s_brk, s_cnt, s_expr, s_ret, s_retN, s_if, s_asg1, s_store, List.map_cons, List.map_nil, List.cons_append, List.nil_append, List.length_cons, List.length_nil, List.replicate_succ, List.replicate_zero, Nat.add_sub_cancel, Nat.sub_self, Nat.sub_zero, Nat.reduceAdd, Nat.reduceSub, Nat.zero_add, List.set_cons_succ, List.set_cons_zero, List.getElem?_cons_zero, List.getElem?_cons_succ, Option.some.injEq, exists_eq_left', exists_eq_left, exists_eq_right', U.bl.injEq, U.int.injEq, U.ref.injEq, U.str.injEq, atI_0, atI_1, atI_2, atI_3, atI_4, atI_5, if_true, if_false, true_and, and_true, decide_true, decide_false, Bool.not_true, Bool.not_false, reduceCtorEq, ite_true, ite_false, decide_eq_true_eq, Bool.true_eq_false, Bool.false_eq_true])
structure St (s n : Nat) (μ : Mem) : Prop where
  ne : s ≠ n
  ex : ∃ (c : Int) (nums : List Int), μ[s]? = some (.lst [.ref n, .int c]) ∧ μ[n]? = some (.lst (nums.map U.int)) ∧ nums ≠ []
structure G (s n : Nat) (μ μ' : Mem) : Prop where
  gr : Gr s μ μ'
  st0 : St s n μ
  st : St s n μ'
section
variable {s n : Nat} {μ μ' μ'' : Mem}
theorem G.refl (h : St s n μ) : G s n μ μ := ⟨.refl, h, h⟩
theorem G.trans (a : G s n μ μ') (b : G s n μ' μ'') : G s n μ μ'' := ⟨a.gr.trans b.gr, a.st0, b.st⟩
theorem G.le (a : G s n μ μ') : μ.length ≤ μ'.length := a.gr.le
theorem St.snoc {c : Cell} (h : St s n μ) : St s n (μ ++ [c]) := by
  obtain ⟨h4, k, nums, h1, h2, h3⟩ := h
  exact ⟨h4, k, nums, get_snoc_lt h1, get_snoc_lt h2, h3⟩
theorem G.snoc {c : Cell} (a : G s n μ μ') : G s n μ (μ' ++ [c]) := ⟨a.gr.trans .snoc, a.st0, a.st.snoc⟩
theorem G.put {c : Cell} {i : Nat} (a : G s n μ μ') (h : μ.length ≤ i) : G s n μ (μ'.set i c) := by
  refine ⟨a.gr.put h, a.st0, ?_⟩
  obtain ⟨ne, k0, nums0, e1, e2, e3⟩ := a.st0
  obtain ⟨_, k, nums, h1, h2, h3⟩ := a.st
  have l1 := get_lt e1
  have l2 := get_lt e2
  exact ⟨ne, k, nums, get_set_ne h1 (by omega), get_set_ne h2 (by omega), h3⟩
theorem G.get {i : Nat} {c : Cell} (a : G s n μ μ') (h : μ[i]? = some c) (hs : i ≠ s) : μ'[i]? = some c := a.gr.get h hs
end
def NextS (g : List U → Mem → Res U) : Prop := ∀ {s n : Nat} {μ0 μ : Mem} {many : Int} {Q : U → Mem → Prop} {E : Str → Mem → Prop}, G s n μ0 μ → 0 < many → (∀ v μ', 0 ≤ v → v < many → G s n μ0 μ' → G s n μ μ' → μ'.length = μ.length → Q (.int v) μ') → wpE (g [.ref s, .int many] μ) Q E
theorem next_s {C : Calls} : NextS (runDef 2 (b__law_next C)) := by
  intro s n μ0 μ many Q E h hm q
  obtain ⟨ne, c, nums, h1, h2, h3⟩ := h.st
  have hst : St s n (μ.set s (.lst [.ref n, .int (c + 1)])) := ⟨ne, c + 1, nums, get_set h1, get_set_ne h2 ne, h3⟩
  have hl : 0 < (nums.length : Int) := by
    have := List.length_pos_iff.mpr h3
    omega
  obtain ⟨a1, a2⟩ := Dg.fmod_in (x := c + 1) hl
  obtain ⟨w, b1, b2⟩ := Dg.atI_in (xs := nums.map U.int) a1 (by simpa using a2)
  obtain ⟨z, _, rfl⟩ := List.mem_map.mp b2
  obtain ⟨d1, d2⟩ := Dg.fmod_in (x := z) hm
  unfold b__law_next
  walk_at "go"
  rw [w_ixL h1]; walk_at "go"
  refine ⟨_, stU_L h1 (j := 1) rfl, ?_⟩
  have g1 : (μ.set s (.lst [.ref n, .int (c + 1)]))[s]? = some (.lst [.ref n, .int (c + 1)]) := get_set h1
  have g2 := get_set_ne (c := (.lst [.ref n, .int (c + 1)])) h2 ne
  simp only [List.set_cons_succ, List.set_cons_zero]
  rw [w_ixL g1]; walk_at "go"
  rw [w_ixL g1]; walk_at "go"
  rw [w_ixL g1]; walk_at "go"
  rw [w_lenL g2]; walk_at "go"
  simp only [List.length_map]
  refine ⟨by omega, ?_⟩
  rw [w_ixL g2]
  refine ⟨_, b1, ?_⟩
  walk_at "go"
  exact ⟨by omega, q _ _ d1 d2 (h.trans ⟨.set, h.st, hst⟩) ⟨.set, h.st, hst⟩ (by simp)⟩
def PoolS (g : List U → Mem → Res U) : Prop := ∀ {s n : Nat} {μ0 μ : Mem} {Q : U → Mem → Prop} {E : Str → Mem → Prop}, G s n μ0 μ → (∀ x μ', PyData.strOk x = true → G s n μ0 μ' → G s n μ μ' → Q (.str x) μ') → wpE (g [.ref s] μ) Q E
/-- picks of a displayed list of texts -/
theorem pick_l {s n r : Nat} {μ0 μ : Mem} {us : List U} {v : Int} {Q : U → Mem → Prop} {E : Str → Mem → Prop} (h : μ[r]? = some (.lst us)) (h0 : 0 ≤ v) (h1 : v < us.length) (q : ∀ u ∈ us, Q u μ) : wpE (ixU (.ref r) (.int v) μ) Q E := by
  rw [w_ixL h]
  obtain ⟨a, e, m⟩ := Dg.atI_in h0 h1
  exact ⟨a, e, q a m⟩
theorem pool_s {C : Calls} (h7 : NextS (C 7)) : PoolS (runDef 1 (b__law_pool C)) := by
  intro s n μ0 μ Q E h q
  have hs := (get_lt h.st.ex.choose_spec.choose_spec.1)
  unfold b__law_pool
  walk_at "go"
  refine h7 (many := 8) (G.snoc (G.refl h.st)) (by decide) fun v μ' h0 h1 g g' hl => ?_
  refine pick_l (s := s) (n := n) (μ0 := μ) (g'.get get_snoc (by omega)) h0 (by simpa using h1) ?_
  simp only [List.mem_cons, List.not_mem_nil, or_false, forall_eq_or_imp, forall_eq]
  refine ⟨?_, ?_, ?_, ?_, ?_, ?_, ?_, ?_⟩ <;> exact q _ _ (by decide +kernel) (h.trans g) g

/-! scopes -/
inductive Bd : U → Prop
  | var : Bd (.tup [.str "variable"])
  | lab : Bd (.tup [.str "label"])
  | call (ts : List Str) (k : Str) : ts.length ≤ 2 → Bd (.tup [.str "call", .tup (ts.map U.str), .str k])
def Sc (m : Nat) (μ : Mem) (sc : Nat) : Prop := ∃ kvs : List (Key × U), μ[sc]? = some (.dct kvs) ∧ kvs.length ≤ m ∧ m ≤ 60 ∧ ∀ p ∈ kvs, (∃ x, p.1 = .inr x ∧ PyData.strOk x = true) ∧ Bd p.2
theorem Sc.mono {m m' : Nat} {μ : Mem} {sc : Nat} (h : Sc m μ sc) (le : m ≤ m') (l2 : m' ≤ 60) : Sc m' μ sc := by
  obtain ⟨kvs, a, b, c, d⟩ := h
  exact ⟨kvs, a, by omega, l2, d⟩
theorem G.sc {s n m sc : Nat} {μ μ' : Mem} (g : G s n μ μ') (h : Sc m μ sc) : sc ≠ s → Sc m μ' sc := by
  intro hs
  obtain ⟨kvs, a, b⟩ := h
  exact ⟨kvs, g.get a hs, b⟩
theorem putU_all {kvs : List (Key × U)} {k : Key} {u : U} {P : Key × U → Prop} (h : ∀ p ∈ kvs, P p) (h2 : ∀ p, p.1 = k → p.2 = u → P p) : ∀ p ∈ putU kvs k u, P p := by
  unfold putU
  split
  · intro p hp
    obtain ⟨q, hq, rfl⟩ := List.mem_map.mp hp
    split
    · rename_i e
      exact h2 _ e rfl
    · exact h q hq
  · intro p hp
    rcases List.mem_append.mp hp with e | e
    · exact h p e
    · rw [List.mem_singleton.mp e]
      exact h2 _ rfl rfl
theorem putU_len {kvs : List (Key × U)} {k : Key} {u : U} : (putU kvs k u).length ≤ kvs.length + 1 := by
  unfold putU
  split <;> simp
theorem keysS_of : ∀ {kvs : List (Key × U)}, (∀ p ∈ kvs, (∃ x, p.1 = .inr x ∧ PyData.strOk x = true)) → ∃ ks, keysS kvs = some ks ∧ (∀ x ∈ ks, PyData.strOk x = true ∧ ∃ p ∈ kvs, p.1 = .inr x) ∧ ks.length = kvs.length
  | [], _ => ⟨[], rfl, by simp, rfl⟩
  | (k, u) :: r, h => by
    obtain ⟨x, e, ox⟩ := h _ (List.mem_cons_self)
    obtain ⟨ks, h1, h2, h3⟩ := keysS_of (kvs := r) fun p hp => h p (List.mem_cons_of_mem _ hp)
    simp only at e
    subst e
    refine ⟨x :: ks, by simp [keysS, h1], ?_, by simp [h3]⟩
    intro y hy
    rcases List.mem_cons.mp hy with rfl | hy
    · exact ⟨ox, _, List.mem_cons_self, rfl⟩
    · obtain ⟨a, p, b, c⟩ := h2 y hy
      exact ⟨a, p, List.mem_cons_of_mem _ b, c⟩
theorem valU_of {kvs : List (Key × U)} {k : Key} {P : U → Prop} (h : ∀ p ∈ kvs, P p.2) (hk : ∃ p ∈ kvs, p.1 = k) : ∃ u, valU kvs k = some u ∧ P u := by
  unfold valU
  cases e : kvs.find? fun kv => decide (kv.1 = k) with
  | none =>
    obtain ⟨p, hp, hk⟩ := hk
    have := List.find?_eq_none.mp e p hp
    simp [hk] at this
  | some q => exact ⟨q.2, rfl, h q (List.mem_of_find?_eq_some e)⟩
/-- sorted(scope) -/
theorem sorted_sc {m sc : Nat} {μ : Mem} {Q : U → Mem → Prop} {E : Str → Mem → Prop} (h : Sc m μ sc) (q : ∀ ks : List Str, ks.length ≤ 60 → (∀ x ∈ ks, PyData.strOk x = true ∧ ∃ kvs, μ[sc]? = some (.dct kvs) ∧ ∃ u, valU kvs (.inr x) = some u ∧ Bd u) → Q (.ref μ.length) (μ ++ [.lst (ks.map U.str)])) : wpE (bSorted [.ref sc] μ) Q E := by
  obtain ⟨kvs, h1, h2, h3, h4⟩ := h
  obtain ⟨ks, k1, k2, k3⟩ := keysS_of fun p hp => (h4 p hp).1
  unfold bSorted
  simp only [h1, k1]
  have hp := sortS_perm ks
  rw [if_pos ⟨by omega, by rw [List.all_eq_true]; exact fun x hx => (k2 x hx).1⟩]
  refine q (sortS ks) (by rw [hp.length_eq]; omega) fun x hx => ?_
  obtain ⟨a, b⟩ := k2 x (hp.mem_iff.mp hx)
  exact ⟨a, kvs, h1, valU_of (fun p hp => (h4 p hp).2) b⟩
def SortsS (g : List U → Mem → Res U) : Prop := ∀ {s n m sc : Nat} {μ0 μ : Mem} {z : Str} {Q : U → Mem → Prop} {E : Str → Mem → Prop}, G s n μ0 μ → sc ≠ s → Sc m μ sc →
  (∀ (r : Nat) (xs : List Str) μ', μ.length ≤ r → r < μ'.length → μ'[r]? = some (.lst (xs.map U.str)) → (∀ x ∈ xs, PyData.strOk x = true) → G s n μ0 μ' → G s n μ μ' → Q (.ref r) μ') → wpE (g [.ref sc, .str z] μ) Q E
theorem Bd.hd {u : U} (h : Bd u) : ∃ z r, u = .tup (.str z :: r) := by
  cases h <;> exact ⟨_, _, rfl⟩
theorem sorts_s {C : Calls} : SortsS (runDef 3 (b__law_sorts C)) := by
  intro s n m sc μ0 μ z Q E h hs hsc q
  have ls := (get_lt h.st.ex.choose_spec.choose_spec.1)
  obtain ⟨kvs, hk, _⟩ := id hsc
  unfold b__law_sorts
  walk_at "go"
  refine sorted_sc hsc fun ks l1 h1 => ?_
  simp only
  refine ⟨_, listAt_L get_snoc, ?_⟩
  have g0 : G s n μ (μ ++ [.lst (ks.map U.str)]) := (G.refl h.st).snoc
  refine lc_go (fun i μ' => i ≤ ks.length ∧ ∃ acc : List Str, acc.length ≤ i ∧ (∀ x ∈ acc, PyData.strOk x = true) ∧ μ'[μ.length + 1]? = some (.lst (acc.map U.str)) ∧ μ'[μ.length]? = some (.lst (ks.map U.str)) ∧ G s n μ μ') ks.length (by omega) ?_ (fun i μ h => h.1) ?_
  · exact ⟨Nat.zero_le _, [], by simp, by simp, by simp, by simp, g0.snoc⟩
  · rintro i μ' ⟨hi, acc, a1, a2, a3, a4, a5⟩
    rw [item_live a4]
    by_cases e : i < ks.length
    · right
      have hx := h1 ks[i] (List.getElem_mem e)
      obtain ⟨ox, kvs', hk', u, hv, hb⟩ := hx
      obtain ⟨zz, rr, rfl⟩ := hb.hd
      refine ⟨.str ks[i], _, by simp [e], rfl, ?_⟩
      simp only [wipeU]
      walk_at "go"
      rw [w_ixD (a5.get hk' hs)]
      refine ⟨_, hv, ?_⟩
      walk_at "go"
      by_cases ez : zz = z
      · simp only [ez, decide_true, if_true]
        refine ⟨_, by simpa using a3, by simp [lim]; omega, by omega, acc ++ [ks[i]], by simp; omega, ?_, ?_, ?_, a5.put (by simp)⟩
        · intro x hx
          rcases List.mem_append.mp hx with e | e
          · exact a2 x e
          · rw [List.mem_singleton.mp e]; exact ox
        · simpa using get_set (by simpa using a3)
        · exact get_set_ne a4 (by simp)
      · simp only [ez, decide_false]
        exact ⟨by omega, acc, by omega, a2, a3, a4, a5⟩
    · left
      refine ⟨by simp; omega, ?_⟩
      exact q _ acc μ' (by simp) (by simpa using get_lt a3) (by simpa using a3) a2 (h.trans a5) a5
mutual
def sz : U → Nat
  | .tup us => 1 + szs us
  | _ => 1
def szs : List U → Nat
  | [] => 0
  | u :: us => sz u + szs us
end
mutual
def dp : U → Nat
  | .tup us => dps us + 1
  | _ => 0
def dps : List U → Nat
  | [] => 0
  | u :: us => max (dp u) (dps us)
end
mutual
def pu : U → Bool
  | .tup us => pus us
  | .str _ => true
  | .int _ => true
  | _ => false
def pus : List U → Bool
  | [] => true
  | u :: us => pu u && pus us
end
mutual
theorem pu_data {u : U} (h : pu u = true) : ∃ d : PyData, (∀ g, toD g u = some d) ∧ PyData.eqv d d = true ∧ d.depth = dp u := by
  cases u with
  | tup us =>
    obtain ⟨ds, h1, h2, h3⟩ := pus_data (us := us) (by simpa [pu] using h)
    exact ⟨.tuple ds, fun g => by simp [toD, h1], by simpa [PyData.eqv] using h2, by simp [PyData.depth, dp, h3]⟩
  | str s => exact ⟨.str s, fun g => rfl, by simp [PyData.eqv], by simp [PyData.depth, dp]⟩
  | int i => exact ⟨.int i, fun g => rfl, by simp [PyData.eqv], by simp [PyData.depth, dp]⟩
  | _ => simp [pu] at h
theorem pus_data {us : List U} (h : pus us = true) : ∃ ds : List PyData, (∀ g, toDs g us = some ds) ∧ PyData.eqvAll ds ds = true ∧ PyData.depthAll ds = dps us := by
  cases us with
  | nil => exact ⟨[], fun g => rfl, by simp [PyData.eqvAll], by simp [PyData.depthAll, dps]⟩
  | cons u us =>
    have h' : pu u = true ∧ pus us = true := by simpa [pus] using h
    obtain ⟨d, a1, a2, a3⟩ := pu_data h'.1
    obtain ⟨ds, b1, b2, b3⟩ := pus_data h'.2
    exact ⟨d :: ds, fun g => by simp [toDs, a1, b1], by simp [PyData.eqvAll, a2, b2], by simp [PyData.depthAll, dps, a3, b3]⟩
end
/-- == of the same -/
theorem eq_self {u : U} {μ : Mem} (h : pu u = true) (hd : dp u ≤ 800) : eqU u u μ = some true := by
  obtain ⟨d, a, b, c⟩ := pu_data h
  unfold Dg.eqU datU
  simp only [a]
  rw [if_pos (by rw [c]; simp [eqLim]; omega), b]
/-- == of two lists of the same -/
theorem eq_lists {r1 r2 : Nat} {us : List U} {μ : Mem} (h1 : μ[r1]? = some (.lst us)) (h2 : μ[r2]? = some (.lst us)) (h : pus us = true) (hd : dps us ≤ 799) : eqU (.ref r1) (.ref r2) μ = some true := by
  obtain ⟨ds, a, b, c⟩ := pus_data h
  have e1 : datU μ (.ref r1) = some (.list ds) := by simp [datU, toD, refD, h1, a]
  have e2 : datU μ (.ref r2) = some (.list ds) := by simp [datU, toD, refD, h2, a]
  unfold Dg.eqU
  simp only [e1, e2]
  rw [if_pos (by simp [PyData.depth, c, eqLim]; omega)]
  simp [PyData.eqv, b]
def pr (p : Str × U) : U := .tup [.str p.1, p.2]
inductive Nd : U → (Str → List (Str × U)) → Prop
  | z (t : Str) : t ∈ (["skip", "stop", "fault"] : List Str) → Nd (.tup [.str t]) fun _ => []
  | x (t : Str) (e : U) : t ∈ (["exit", "num", "read"] : List Str) → Nd (.tup [.str t, e]) fun _ => []
  | seq (a b : U) : Nd (.tup [.str "seq", a, b]) fun _ => [("com", a), ("com", b)]
  | set (x : U) (e : U) : Nd (.tup [.str "set", x, e]) fun _ => [("exp", e)]
  | wh (a b : U) : Nd (.tup [.str "while", a, b]) fun _ => [("exp", a), ("com", b)]
  | blk (x : U) (e : U) : Nd (.tup [.str "block", x, e]) fun _ => [("com", e)]
  | dd (a b : U) : Nd (.tup [.str "do", a, b]) fun _ => [("com", a), ("exp", b)]
  | iff (e a b : U) : Nd (.tup [.str "if", e, a, b]) fun k => [("exp", e), (k, a), (k, b)]
  | nw (x : U) (e a : U) : Nd (.tup [.str "new", x, e, a]) fun k => [("exp", e), (k, a)]
  | cal (x : U) (as : List (Str × U)) : as.length ≤ 2 → Nd (.tup [.str "call", x, .tup (as.map pr)]) fun _ => as
  | prc (x ps : U) (r : Str) (a b : U) : Nd (.tup [.str "proc", x, ps, .str r, a, b]) fun k => [(r, a), (k, b)]
  | op (t : Str) (a b : U) : t ∈ (["add", "sub", "mul", "equal", "less"] : List Str) → Nd (.tup [.str t, a, b]) fun _ => [("exp", a), ("exp", b)]
def nsq (u : U) : Prop := ∃ (t : Str) (r : List U), u = .tup (.str t :: r) ∧ t ≠ "seq"
inductive WT : U → Prop
  | mk {u : U} {ks : Str → List (Str × U)} : Nd u ks → (∀ k p, p ∈ ks k → WT p.2) → (∀ a b, u = .tup [.str "seq", a, b] → nsq b) → WT u
theorem pus_pr {as : List (Str × U)} (h : pus (as.map pr) = true) : ∀ p ∈ as, pu p.2 = true := by
  induction as with
  | nil => simp
  | cons a as ih =>
    have h' : pu a.2 = true ∧ pus (as.map pr) = true := by simpa [pus, pr, pu] using h
    intro p hp
    rcases List.mem_cons.mp hp with rfl | hp
    · exact h'.1
    · exact ih h'.2 p hp
def szk : List (Str × U) → Nat
  | [] => 0
  | p :: r => sz p.2 + szk r
theorem szs_pr {as : List (Str × U)} : szk as ≤ szs (as.map pr) := by
  induction as with
  | nil => simp [szk]
  | cons a as ih =>
    simp only [szk, List.map_cons, szs, pr, sz]
    omega
theorem dps_pr {as : List (Str × U)} : ∀ p ∈ as, dp p.2 ≤ dps (as.map pr) := by
  induction as with
  | nil => simp
  | cons a as ih =>
    intro p hp
    simp only [List.map_cons, dps, pr, dp]
    rcases List.mem_cons.mp hp with rfl | hp
    · omega
    · have := ih p hp
      omega
theorem Nd.facts {u : U} {ks : Str → List (Str × U)} (h : Nd u ks) (hp : pu u = true) (k : Str) : (∀ p ∈ ks k, pu p.2 = true ∧ dp p.2 ≤ dp u) ∧ szk (ks k) < sz u ∧ (ks k).length ≤ 3 := by
  cases h with
  | cal x as hl =>
    have h1 : pus (as.map pr) = true := by simp [pu, pus] at hp; exact hp.2
    refine ⟨fun p m => ⟨pus_pr h1 p m, ?_⟩, ?_, by show as.length ≤ 3; omega⟩
    · have := dps_pr (as := as) p m
      simp only [dp, dps]
      omega
    · have := szs_pr (as := as)
      simp only [sz, szs]
      omega
  | _ =>
    simp [pu, pus] at hp
    refine ⟨?_, by simp [szk, sz, szs]; try omega, by simp⟩
    simp only [List.mem_cons, List.not_mem_nil, or_false, forall_eq_or_imp, forall_eq, dp, dps]
    simp [hp]
    try omega
/-! kids -/
theorem toDs_strs {g : Nat → Option PyData} : ∀ xs : List Str, toDs g (xs.map U.str) = some (xs.map PyData.str)
  | [] => rfl
  | x :: xs => by simp [toDs, toD, toDs_strs xs]
theorem in_strs {t : Str} {xs : List Str} {μ : Mem} : inU (.str t) (.tup (xs.map U.str)) μ = some (xs.any fun x => decide (x = t)) := by
  unfold inU
  simp only [dctU, seqU]
  have e : datU μ (.str t) = some (.str t) := rfl
  rw [e, toDs_strs]
  simp only
  rw [if_pos (by simp [PyData.depth])]
  congr 1
  rw [List.any_map]
  congr 1
theorem in2 {t a b : Str} {μ : Mem} : inU (.str t) (.tup [.str a, .str b]) μ = some (decide (a = t) || (decide (b = t) || false)) := in_strs (xs := [a, b])
theorem in6 {t a b c d e f : Str} {μ : Mem} : inU (.str t) (.tup [.str a, .str b, .str c, .str d, .str e, .str f]) μ = some (decide (a = t) || (decide (b = t) || (decide (c = t) || (decide (d = t) || (decide (e = t) || (decide (f = t) || false)))))) := in_strs (xs := [a, b, c, d, e, f])
theorem w_kget {tab : List (Str × U)} {i : FE} {s : Slots} {μ : Mem} {Q : U → Mem → Prop} {E : Str → Mem → Prop} : wpE (fKGet tab i s μ) Q E = wpE (i s μ) (fun u μ1 => ∃ z, u = .str z ∧ ∃ w, tab.lookup z = some w ∧ Q w μ1) E := by
  unfold fKGet; rw [w_bind]; congr 1; funext u μ1
  cases u with
  | str z => simp [w_res]
  | _ => simp [wpE]
theorem w_listT {us : List U} {μ : Mem} {Q : U → Mem → Prop} {E : Str → Mem → Prop} : wpE (bList [.tup us] μ) Q E = Q (.ref μ.length) (μ ++ [.lst us]) := rfl
theorem w_slT1 {u : U} {us : List U} {s : Slots} {μ : Mem} {a : FE} {Q : U → Mem → Prop} {E : Str → Mem → Prop} (h : a s μ = .ok (.tup (u :: us)) μ) : wpE (fSl a (oSome (fC (.int 1))) oNone s μ) Q E = Q (.tup us) μ := by
  have e : fSl a (oSome (fC (.int 1))) oNone s μ = .ok (.tup (cutU (u :: us) (some 1) none)) μ := by
    unfold fSl; rw [h]; rfl
  have e2 : cutU (u :: us) (some 1) none = us := by
    unfold cutU
    have h1 : HT.sIx (u :: us).length 0 (some 1) = 1 := by
      unfold HT.sIx
      simp
      try omega
    have h2 : HT.sIx (u :: us).length (u :: us).length none = (u :: us).length := rfl
    rw [h1, h2]
    simp
  rw [e, e2]; rfl
theorem w_zipT {a b : FE} {us ws : List U} {s : Slots} {μ : Mem} {Q : IterU → Mem → Prop} {E : Str → Mem → Prop} (h : a s μ = .ok (.tup us) μ) (h2 : wpE (b s μ) (fun w μ' => w = .tup ws ∧ μ' = μ) E) (q : Q (.seq (List.zipWith (fun u w => .tup [u, w]) us ws)) μ) : wpE (iZip a b s μ) Q E := by
  unfold Dg.iZip
  rw [h, w_bind]
  show wpE ((b s μ).bind _) Q E
  rw [w_bind]
  refine h2.mono ?_
  rintro w μ' ⟨rfl, rfl⟩
  exact q
def app (tm : List U) (k f : Str) (w : U) : Option (List U) :=
  if f = "com" ∨ f = "exp" then some [.tup [.str f, w]] else if f = "same" then some [.tup [.str k, w]] else if f = "body" then (tm[3]?).map fun x => [.tup [x, w]] else if f = "args" then (match w with | .tup ws => some ws | _ => none) else some []
def apps (tm : List U) (k : Str) : List U → Option (List U)
  | [] => some []
  | .tup [.str f, w] :: r => match app tm k f w, apps tm k r with
    | some a, some b => some (a ++ b)
    | _, _ => none
  | _ => none
theorem kids_ok {C : Calls} {t k : Str} {tl : List U} {home : U} {fs tot : List U} {μ : Mem} {Q : U → Mem → Prop} {E : Str → Mem → Prop} (h1 : tab_FORMS.lookup t = some (.tup [home, .tup fs])) (h2 : apps (.str t :: tl) k (List.zipWith (fun u w => .tup [u, w]) fs tl) = some tot) (hl : tot.length ≤ 10) (hf : fs.length ≤ 10)
    (q : Q (.ref μ.length) (μ ++ [.lst tot])) : wpE (runDef 7 (b_kids C) [.tup (.str t :: tl), .str k] μ) Q E := by
  unfold b_kids
  walk_at "go"
  simp only [s_asg, w_kget]
  walk_at "go"
  refine ⟨_, h1, _, rfl, ?_⟩
  simp only [setAll]
  walk_at "go"
  refine w_zipT rfl (by rw [w_slT1 rfl]; exact ⟨rfl, rfl⟩) ?_
  refine for_go (fun i s' μ' => i ≤ fs.length ∧ (∃ x y, s' = [some (.tup (.str t :: tl)), some (.str k), some (.ref μ.length), some home, some (.tup fs), x, y]) ∧ ∃ acc rest, μ' = μ ++ [.lst acc] ∧ apps (.str t :: tl) k ((List.zipWith (fun u w => .tup [u, w]) fs tl).drop i) = some rest ∧ acc ++ rest = tot) fs.length (by omega) ⟨by omega, ⟨_, _, rfl⟩, [], tot, rfl, by simpa using h2, rfl⟩ (fun i s μ h => h.1) ?_
  rintro i s' μ' ⟨hi, ⟨x, y, rfl⟩, acc, rest, rfl, hr, ht⟩
  rw [item_seq]
  cases e : (List.zipWith (fun u w => U.tup [u, w]) fs tl)[i]? with
  | none =>
    left
    rw [List.drop_eq_nil_of_le (List.getElem?_eq_none_iff.mp e)] at hr
    cases hr
    refine ⟨rfl, ?_⟩
    walk_at "go"
    rw [List.append_nil] at ht
    rw [ht]; exact q
  | some z =>
    right
    obtain ⟨hlt, ez⟩ := List.getElem?_eq_some_iff.mp e
    rw [List.drop_eq_getElem_cons hlt, ez] at hr
    have hi' : i < fs.length := by simp at hlt; omega
    have hz : ∃ f w, z = .tup [f, w] := by
      simp only [List.getElem_zipWith] at ez
      exact ⟨_, _, ez.symm⟩
    obtain ⟨f, w, rfl⟩ := hz
    unfold apps at hr
    split at hr
    · rename_i h0; cases h0
    · rename_i f' w' r' h0
      cases h0
      split at hr
      · rename_i a b ea eb
        cases hr
        have hla : acc.length + a.length + b.length = tot.length := by rw [← ht]; simp; omega
        refine ⟨_, _, rfl, rfl, ?_⟩
        simp only [setAll]
        have g1 : (μ ++ [Cell.lst acc])[μ.length]? = some (.lst acc) := get_snoc
        have g1' : (μ ++ [Cell.lst acc]).set μ.length (.lst (acc ++ a)) = μ ++ [.lst (acc ++ a)] := by simp
        have fin : ∀ sl : Slots, sl = [some (.tup (.str t :: tl)), some (.str k), some (.ref μ.length), some home, some (.tup fs), some (.str f'), some w] → (i + 1 ≤ fs.length ∧ (∃ x y, sl = [some (.tup (.str t :: tl)), some (.str k), some (.ref μ.length), some home, some (.tup fs), x, y]) ∧ ∃ acc' rest, (μ ++ [Cell.lst acc]).set μ.length (.lst (acc ++ a)) = μ ++ [.lst acc'] ∧ apps (.str t :: tl) k ((List.zipWith (fun u w => .tup [u, w]) fs tl).drop (i + 1)) = some rest ∧ acc' ++ rest = tot) := by
          intro sl hsl
          exact ⟨by omega, ⟨_, _, hsl⟩, acc ++ a, b, g1', eb, by simpa using ht⟩
        have hlim : acc.length < lim := by simp [lim]; omega
        unfold app at ea
        walk_at "go"
        simp only [w_in, in2, Option.some.injEq, exists_eq_left', Bool.or_false]
        split at ea
        · rename_i hc
          cases ea
          have hc' : (decide ("com" = f') || decide ("exp" = f')) = true := by rcases hc with rfl | rfl <;> decide
          simp only [hc', if_true]; walk_at "go"
          refine ⟨acc, lstU_L g1, ?_⟩
          rw [w_append g1 hlim]
          exact fin _ rfl
        · rename_i hc
          have hc' : (decide ("com" = f') || decide ("exp" = f')) = false := by
            simp only [not_or] at hc
            simp [Ne.symm hc.1, Ne.symm hc.2]
          simp only [hc', Bool.false_eq_true, if_false]; try walk_at "go"
          split at ea
          · rename_i hd
            cases ea
            simp only [hd, decide_true, if_true]; try walk_at "go"
            refine ⟨acc, lstU_L g1, ?_⟩
            rw [w_append g1 hlim]
            exact fin _ (by rw [hd])
          · rename_i hd
            simp only [hd, decide_false, Bool.false_eq_true, if_false]; try walk_at "go"
            split at ea
            · rename_i he
              obtain ⟨x, ex, rfl⟩ := Option.map_eq_some_iff.mp ea
              simp only [he, decide_true, if_true]; try walk_at "go"
              refine ⟨acc, lstU_L g1, ?_⟩
              refine ⟨x, (Dg.atI_nat 3).trans ex, ?_⟩
              rw [w_append g1 hlim]
              exact fin _ (by rw [he])
            · rename_i he
              simp only [he, decide_false, Bool.false_eq_true, if_false]; try walk_at "go"
              split at ea
              · rename_i hg
                split at ea
                · rename_i ws
                  cases ea
                  simp only [hg, decide_true, if_true]; try walk_at "go"
                  refine ⟨acc, lstU_L g1, ?_⟩
                  rw [w_extT g1 (by simp [lim]; omega)]
                  exact fin _ (by rw [hg])
                · cases ea
              · rename_i hg
                cases ea
                simp only [hg, decide_false, Bool.false_eq_true, if_false]; try walk_at "go"
                have := fin _ rfl
                rw [List.append_nil] at this
                rw [show (μ ++ [Cell.lst acc]).set μ.length (.lst acc) = μ ++ [.lst acc] by simp] at this
                exact this
      · cases hr
    · cases hr
def KidsS (g : List U → Mem → Res U) : Prop := ∀ {u : U} {ks : Str → List (Str × U)} {k : Str} {μ : Mem} {Q : U → Mem → Prop} {E : Str → Mem → Prop}, Nd u ks → Q (.ref μ.length) (μ ++ [.lst ((ks k).map pr)]) → wpE (g [u, .str k] μ) Q E
theorem kids_s {C : Calls} : KidsS (runDef 7 (b_kids C)) := by
  intro u ks k μ Q E h q
  cases h with
  | z t m =>
    simp only [List.mem_cons, List.not_mem_nil, or_false] at m
    rcases m with rfl | rfl | rfl <;> exact kids_ok rfl rfl (by simp) (by simp) q
  | x t e m =>
    simp only [List.mem_cons, List.not_mem_nil, or_false] at m
    rcases m with rfl | rfl | rfl <;> exact kids_ok rfl rfl (by simp) (by simp) q
  | op t a b m =>
    simp only [List.mem_cons, List.not_mem_nil, or_false] at m
    rcases m with rfl | rfl | rfl | rfl | rfl <;> exact kids_ok rfl rfl (by simp) (by simp) q
  | cal x as hl =>
    refine kids_ok rfl (tot := as.map pr) ?_ (by simp; omega) (by simp) q
    simp (config := {decide := true}) [apps, app]
  | _ => exact kids_ok rfl rfl (by simp) (by simp) q
theorem lkids_s {C : Calls} : KidsS (runDef 3 (b__law_kids C)) := by
  intro u ks k μ Q E h q
  unfold b__law_kids
  cases h with
  | z t m =>
    simp only [List.mem_cons, List.not_mem_nil, or_false] at m
    rcases m with rfl | rfl | rfl <;> (walk_at "go"; simp (config := {decide := true}) only [w_in, in6, Option.some.injEq, exists_eq_left']; walk_at "go"; exact q)
  | x t e m =>
    simp only [List.mem_cons, List.not_mem_nil, or_false] at m
    rcases m with rfl | rfl | rfl <;> (walk_at "go"; simp (config := {decide := true}) only [w_in, in6, Option.some.injEq, exists_eq_left']; walk_at "go"; exact q)
  | op t a b m =>
    simp only [List.mem_cons, List.not_mem_nil, or_false] at m
    rcases m with rfl | rfl | rfl | rfl | rfl <;> (walk_at "go"; simp (config := {decide := true}) only [w_in, in6, Option.some.injEq, exists_eq_left']; walk_at "go"; exact q)
  | cal x as hl =>
    walk_at "go"; simp (config := {decide := true}) only [w_in, in6, w_listT, Option.some.injEq, exists_eq_left']; walk_at "go"; exact q
  | _ => walk_at "go"; simp (config := {decide := true}) only [w_in, in6, Option.some.injEq, exists_eq_left']; walk_at "go"; exact q
/-! bounds of generated terms -/
def Tz : Nat → Nat
  | 0 => 8
  | d + 1 => 3 * Tz d + 13
def Dz : Nat → Nat
  | 0 => 3
  | d + 1 => 2 * Dz d + 4
theorem Tz_0 : Tz 0 = 8 := rfl
theorem Tz_s {d : Nat} : Tz (d + 1) = 3 * Tz d + 13 := rfl
theorem Dz_0 : Dz 0 = 3 := rfl
theorem Dz_s {d : Nat} : Dz (d + 1) = 2 * Dz d + 4 := rfl
/-- a generated term -/
structure TM (d : Nat) (u : U) : Prop where
  wt : WT u
  pure : pu u = true
  size : sz u ≤ Tz d
  deep : dp u ≤ Dz d
theorem TM.mono {d : Nat} {u : U} (h : TM d u) : TM (d + 1) u := ⟨h.wt, h.pure, by have := h.size; rw [Tz_s]; omega, by have := h.deep; rw [Dz_s]; omega⟩
theorem TM.up {d e : Nat} {u : U} (h : TM d u) (le : d ≤ e) : TM e u := by
  induction e with
  | zero => rwa [Nat.le_zero.mp le] at h
  | succ e ih =>
    rcases Nat.lt_or_ge d (e + 1) with l | l
    · exact (ih (by omega)).mono
    · rwa [show d = e + 1 by omega] at h
theorem str_ne {a b : Str} (h : (decide (a = b)) = false) : a ≠ b := by simpa using h
local macro_rules | `(tactic| walk_at "ns") => `(tactic| (intro a b e; (first | (injection e with e; injection e with e _; injection e with e; exact absurd e (by decide)) | (simp at e) )))
local macro_rules | `(tactic| walk_at "bnd") => `(tactic| (simp only [sz, szs, dp, dps, Tz_0, Dz_0, Tz_s, Dz_s, pu, pus] <;> (try simp) <;> (try omega)))
theorem tm_stop : TM 0 (.tup [.str "stop"]) := ⟨.mk (.z _ (by simp)) (by simp) (by walk_at "ns"), rfl, by walk_at "bnd", by walk_at "bnd"⟩
theorem tm_fault : TM 0 (.tup [.str "fault"]) := ⟨.mk (.z _ (by simp)) (by simp) (by walk_at "ns"), rfl, by walk_at "bnd", by walk_at "bnd"⟩
theorem tm_skip : TM 0 (.tup [.str "skip"]) := ⟨.mk (.z _ (by simp)) (by simp) (by walk_at "ns"), rfl, by walk_at "bnd", by walk_at "bnd"⟩
theorem tm_num {i : Int} : TM 0 (.tup [.str "num", .int i]) := ⟨.mk (.x _ _ (by simp)) (by simp) (by walk_at "ns"), rfl, by walk_at "bnd", by walk_at "bnd"⟩
theorem tm_exit {x : Str} : TM 0 (.tup [.str "exit", .str x]) := ⟨.mk (.x _ _ (by simp)) (by simp) (by walk_at "ns"), rfl, by walk_at "bnd", by walk_at "bnd"⟩
theorem tm_read {x : Str} : TM 0 (.tup [.str "read", .str x]) := ⟨.mk (.x _ _ (by simp)) (by simp) (by walk_at "ns"), rfl, by walk_at "bnd", by walk_at "bnd"⟩
theorem wt_of {u : U} {ks : Str → List (Str × U)} (n : Nd u ks) (h : ∀ k p, p ∈ ks k → WT p.2) (s : ∀ a b, u = .tup [.str "seq", a, b] → nsq b) : WT u := .mk n h s
theorem tm_set0 {x : Str} {i : Int} : TM 0 (.tup [.str "set", .str x, .tup [.str "num", .int i]]) := ⟨.mk (.set _ _) (by simpa using tm_num.wt) (by walk_at "ns"), rfl, by walk_at "bnd", by walk_at "bnd"⟩
section
variable {d : Nat} {a b e : U} {x r : Str}
theorem tm_set (h : TM d e) : TM (d + 1) (.tup [.str "set", .str x, e]) := by
  have := h.size; have := h.deep
  exact ⟨.mk (.set _ _) (by simpa using h.wt) (by walk_at "ns"), by simp [pu, pus, h.pure], by walk_at "bnd", by walk_at "bnd"⟩
theorem tm_blk (h : TM d e) : TM (d + 1) (.tup [.str "block", .str x, e]) := by
  have := h.size; have := h.deep
  exact ⟨.mk (.blk _ _) (by simpa using h.wt) (by walk_at "ns"), by simp [pu, pus, h.pure], by walk_at "bnd", by walk_at "bnd"⟩
theorem tm_wh (h : TM d a) (g : TM d b) : TM (d + 1) (.tup [.str "while", a, b]) := by
  have := h.size; have := h.deep; have := g.size; have := g.deep
  exact ⟨.mk (.wh _ _) (by simpa using ⟨h.wt, g.wt⟩) (by walk_at "ns"), by simp [pu, pus, h.pure, g.pure], by walk_at "bnd", by walk_at "bnd"⟩
theorem tm_do (h : TM d a) (g : TM d b) : TM (d + 1) (.tup [.str "do", a, b]) := by
  have := h.size; have := h.deep; have := g.size; have := g.deep
  exact ⟨.mk (.dd _ _) (by simpa using ⟨h.wt, g.wt⟩) (by walk_at "ns"), by simp [pu, pus, h.pure, g.pure], by walk_at "bnd", by walk_at "bnd"⟩
theorem tm_op {t : Str} (m : t ∈ (["add", "sub", "mul", "equal", "less"] : List Str)) (h : TM d a) (g : TM d b) : TM (d + 1) (.tup [.str t, a, b]) := by
  have := h.size; have := h.deep; have := g.size; have := g.deep
  refine ⟨.mk (.op _ _ _ m) (by simpa using ⟨h.wt, g.wt⟩) ?_, by simp [pu, pus, h.pure, g.pure], by walk_at "bnd", by walk_at "bnd"⟩
  simp only [List.mem_cons, List.not_mem_nil, or_false] at m
  rcases m with rfl | rfl | rfl | rfl | rfl <;> walk_at "ns"
theorem tm_if (h : TM d a) (g : TM d b) (k : TM d e) : TM (d + 1) (.tup [.str "if", a, b, e]) := by
  have := h.size; have := h.deep; have := g.size; have := g.deep; have := k.size; have := k.deep
  exact ⟨.mk (.iff _ _ _) (by simpa using ⟨h.wt, g.wt, k.wt⟩) (by walk_at "ns"), by simp [pu, pus, h.pure, g.pure, k.pure], by walk_at "bnd", by walk_at "bnd"⟩
theorem tm_new (h : TM d a) (g : TM d b) : TM (d + 1) (.tup [.str "new", .str x, a, b]) := by
  have := h.size; have := h.deep; have := g.size; have := g.deep
  exact ⟨.mk (.nw _ _ _) (by simpa using ⟨h.wt, g.wt⟩) (by walk_at "ns"), by simp [pu, pus, h.pure, g.pure], by walk_at "bnd", by walk_at "bnd"⟩
theorem tm_prc {ps : U} (hp : pu ps = true) (h1 : sz ps ≤ 9) (h2 : dp ps ≤ 2) (h : TM d a) (g : TM d b) : TM (d + 1) (.tup [.str "proc", .str x, ps, .str r, a, b]) := by
  have := h.size; have := h.deep; have := g.size; have := g.deep
  exact ⟨.mk (.prc _ _ _ _ _) (by simpa using ⟨h.wt, g.wt⟩) (by walk_at "ns"), by simp [pu, pus, h.pure, g.pure, hp], by walk_at "bnd", by walk_at "bnd"⟩
theorem tm_cal0 : TM 0 (.tup [.str "call", .str x, .tup []]) := ⟨.mk (.cal _ [] (by simp)) (by simp) (by walk_at "ns"), rfl, by walk_at "bnd", by walk_at "bnd"⟩
theorem tm_cal {as : List (Str × U)} (hl : as.length ≤ 2) (h : ∀ p ∈ as, TM d p.2) : TM (d + 1) (.tup [.str "call", .str x, .tup (as.map pr)]) := by
  have h1 : pus (as.map pr) = true ∧ szs (as.map pr) ≤ as.length * (2 + Tz d) ∧ dps (as.map pr) ≤ 1 + Dz d := by
    clear hl
    induction as with
    | nil => simp [pus, szs, dps]
    | cons p as ih =>
      obtain ⟨i1, i2, i3⟩ := ih fun q hq => h q (List.mem_cons_of_mem _ hq)
      have hp := h p List.mem_cons_self
      have := hp.size; have := hp.deep
      refine ⟨by simp [pus, pr, pu, i1, hp.pure], ?_, ?_⟩
      · simp only [List.map_cons, szs, pr, sz, List.length_cons, Nat.add_mul, Nat.one_mul]
        omega
      · simp only [List.map_cons, dps, pr, dp]
        omega
  obtain ⟨i1, i2, i3⟩ := h1
  have : as.length * (2 + Tz d) ≤ 2 * (2 + Tz d) := Nat.mul_le_mul_right _ hl
  exact ⟨.mk (.cal _ as hl) (fun k p hp => (h p hp).wt) (by walk_at "ns"), by simp [pu, pus, i1], by walk_at "bnd", by walk_at "bnd"⟩
end
/-! rows -/
def rowU (h : U) (ss : List U) : U := ss.foldl (fun a s => .tup [.str "seq", a, s]) h
theorem rowU_snoc {h s : U} {ss : List U} : rowU h (ss ++ [s]) = .tup [.str "seq", rowU h ss, s] := by simp [rowU]
theorem rowU_app {h : U} {ss ts : List U} : rowU (rowU h ss) ts = rowU h (ss ++ ts) := by simp [rowU]
/-- a term is a row of steps -/
theorem WT.row {u : U} (h : WT u) : ∃ hd ss, u = rowU hd ss ∧ nsq hd ∧ ∀ s ∈ ss, nsq s := by
  induction h with
  | mk n hk hs ih =>
    cases n with
    | seq a b =>
      obtain ⟨hd, ss, rfl, h1, h2⟩ := ih "" _ List.mem_cons_self
      refine ⟨hd, ss ++ [b], rowU_snoc.symm, h1, ?_⟩
      intro s m
      rcases List.mem_append.mp m with m | m
      · exact h2 s m
      · rw [List.mem_singleton.mp m]; exact hs _ _ rfl
    | z t m => exact ⟨_, [], rfl, ⟨_, _, rfl, by simp only [List.mem_cons, List.not_mem_nil, or_false] at m; rcases m with rfl | rfl | rfl <;> decide⟩, by simp⟩
    | x t e m => exact ⟨_, [], rfl, ⟨_, _, rfl, by simp only [List.mem_cons, List.not_mem_nil, or_false] at m; rcases m with rfl | rfl | rfl <;> decide⟩, by simp⟩
    | op t a b m => exact ⟨_, [], rfl, ⟨_, _, rfl, by simp only [List.mem_cons, List.not_mem_nil, or_false] at m; rcases m with rfl | rfl | rfl | rfl | rfl <;> decide⟩, by simp⟩
    | _ => exact ⟨_, [], rfl, ⟨_, _, rfl, by decide⟩, by simp⟩
theorem wt_seq {a b : U} (ha : WT a) (hb : WT b) (n : nsq b) : WT (.tup [.str "seq", a, b]) := .mk (.seq a b) (by simpa using ⟨ha, hb⟩) (by rintro x y e; cases e; exact n)
theorem WT.parts {a b : U} (h : WT (.tup [.str "seq", a, b])) : WT a ∧ WT b ∧ nsq b := by
  generalize e : U.tup [.str "seq", a, b] = u at h
  cases h with
  | mk n hk hs =>
    have hb := hs a b e.symm
    subst e
    cases n with
    | seq a b => exact ⟨hk "" ("com", a) (by simp), hk "" ("com", b) (by simp), hb⟩
    | op t a b m =>
      exact absurd m (by decide)
theorem row_cons {hd s : U} {ss : List U} : rowU hd (s :: ss) = rowU (.tup [.str "seq", hd, s]) ss := rfl
theorem row_wt : ∀ {ss : List U} {hd : U}, WT (rowU hd ss) → WT hd ∧ ∀ s ∈ ss, WT s ∧ nsq s
  | [], hd, h => ⟨h, by simp⟩
  | s :: ss, hd, h => by
    obtain ⟨h1, h2⟩ := row_wt (ss := ss) h
    obtain ⟨a, b, c⟩ := h1.parts
    exact ⟨a, by simpa using ⟨⟨b, c⟩, h2⟩⟩
theorem row_wt' : ∀ {ss : List U} {hd : U}, WT hd → (∀ s ∈ ss, WT s ∧ nsq s) → WT (rowU hd ss)
  | [], hd, h, _ => h
  | s :: ss, hd, h, k => row_wt' (ss := ss) (wt_seq h (k s List.mem_cons_self).1 (k s List.mem_cons_self).2) fun t m => k t (List.mem_cons_of_mem _ m)
theorem row_pu : ∀ {ss : List U} {hd : U}, pu (rowU hd ss) = (pu hd && pus ss)
  | [], hd => by simp [rowU, pus]
  | s :: ss, hd => by rw [row_cons, row_pu]; simp [pu, pus, Bool.and_assoc]
theorem row_sz : ∀ {ss : List U} {hd : U}, sz (rowU hd ss) = sz hd + szs ss + 2 * ss.length
  | [], hd => by simp [rowU, szs]
  | s :: ss, hd => by rw [row_cons, row_sz]; simp [sz, szs]; omega
theorem row_dp : ∀ {ss : List U} {hd : U}, dp hd + ss.length ≤ dp (rowU hd ss) ∧ dps ss ≤ dp (rowU hd ss) ∧ dp (rowU hd ss) ≤ max (dp hd) (dps ss) + ss.length
  | [], hd => by simp [rowU, dps]
  | s :: ss, hd => by
    obtain ⟨a, b, c⟩ := row_dp (ss := ss) (hd := .tup [.str "seq", hd, s])
    rw [row_cons]
    simp only [dp, dps, List.length_cons] at *
    refine ⟨by omega, by omega, by omega⟩
theorem tm_row {d : Nat} {a hd : U} {ss : List U} (h : TM d a) (g : TM d (rowU hd ss)) (n : nsq hd) : TM (d + 1) (rowU a (hd :: ss)) := by
  have := h.size; have := h.deep; have := g.size; have := g.deep
  obtain ⟨w1, w2⟩ := row_wt g.wt
  obtain ⟨a1, a2, a3⟩ := row_dp (ss := ss) (hd := hd)
  obtain ⟨b1, b2, b3⟩ := row_dp (ss := hd :: ss) (hd := a)
  have e1 := row_sz (ss := ss) (hd := hd)
  have e2 := row_sz (ss := hd :: ss) (hd := a)
  have p := g.pure
  rw [row_pu] at p
  refine ⟨row_wt' h.wt (by simpa using ⟨⟨w1, n⟩, w2⟩), ?_, ?_, ?_⟩
  · rw [row_pu]; simp only [pus, h.pure, p, Bool.and_self]
  · simp only [szs, List.length_cons] at e2
    rw [Tz_s]; omega
  · simp only [dps, List.length_cons] at b3
    rw [Dz_s]; omega
theorem St.lt {s n : Nat} {μ : Mem} (h : St s n μ) : s < μ.length := get_lt h.ex.choose_spec.choose_spec.1
theorem big2 : big64 2 = true := by decide
def CallableS (g : List U → Mem → Res U) : Prop := ∀ {s n m sc : Nat} {μ : Mem} {kd : Str} {most : Int} {Q : U → Mem → Prop} {E : Str → Mem → Prop}, St s n μ → sc ≠ s → Sc m μ sc →
  (∀ (r : Nat) (xs : List Str) μ', μ.length ≤ r → r < μ'.length → μ'[r]? = some (.lst (xs.map U.str)) → (∀ x ∈ xs, PyData.strOk x = true ∧ ∃ kvs, μ[sc]? = some (.dct kvs) ∧ ∃ (ts : List Str) (k : Str), valU kvs (.inr x) = some (.tup [.str "call", .tup (ts.map U.str), .str k]) ∧ ts.length ≤ 2 ∧ (ts.length : Int) ≤ most) → G s n μ μ' → Q (.ref r) μ') → wpE (g [.ref sc, .str kd, .int most] μ) Q E
theorem callable_s {C : Calls} : CallableS (runDef 5 (b__law_callable C)) := by
  intro s n m sc μ kd most Q E h hs hsc q
  have ls := h.lt
  unfold b__law_callable
  try walk_at "go"
  have g1 : G s n μ (μ ++ [.lst []]) := (G.refl h).snoc
  refine sorted_sc (g1.sc hsc hs) fun ks l1 h1 => ?_
  simp only
  refine ⟨_, listAt_L get_snoc, ?_⟩
  have g0 := g1.snoc (c := .lst (ks.map U.str))
  have e1 : (μ ++ [Cell.lst []]).length = μ.length + 1 := by simp
  refine for_go (fun i s' μ' => i ≤ ks.length ∧ (∃ x, s' = [some (.ref sc), some (.str kd), some (.int most), some (.ref μ.length), x]) ∧ ∃ acc : List Str, acc.length ≤ i ∧ (∀ x ∈ acc, PyData.strOk x = true ∧ ∃ kvs, μ[sc]? = some (.dct kvs) ∧ ∃ (ts : List Str) (k : Str), valU kvs (.inr x) = some (.tup [.str "call", .tup (ts.map U.str), .str k]) ∧ ts.length ≤ 2 ∧ (ts.length : Int) ≤ most) ∧ μ'[μ.length]? = some (.lst (acc.map U.str)) ∧ μ'[μ.length + 1]? = some (.lst (ks.map U.str)) ∧ G s n μ μ') ks.length (by omega) ?_ (fun i _ μ h => h.1) ?_
  · exact ⟨Nat.zero_le _, ⟨_, rfl⟩, [], by simp, by simp, get_snoc_lt get_snoc, by simp, g0⟩
  · rintro i s' μ' ⟨hi, ⟨x, rfl⟩, acc, a1, a2, a3, a4, a5⟩
    rw [e1, item_live a4]
    by_cases e : i < ks.length
    · right
      obtain ⟨ox, kvs', hk', u, hv, hb⟩ := h1 ks[i] (List.getElem_mem e)
      have hkμ : μ'[sc]? = some (.dct kvs') := by
        obtain ⟨kv, hk, _⟩ := hsc
        have := g1.get hk hs
        rw [hk'] at this
        cases this
        exact a5.get hk hs
      have hk0 : μ[sc]? = some (.dct kvs') := by
        obtain ⟨kv, hk, _⟩ := hsc
        have := g1.get hk hs
        rw [hk'] at this
        cases this
        exact hk
      refine ⟨.str ks[i], _, by simp [e], rfl, ?_⟩
      try walk_at "go"
      rw [w_ixD hkμ]
      have skip : ∀ sl : Slots, (∃ x, sl = [some (.ref sc), some (.str kd), some (.int most), some (.ref μ.length), x]) → (i + 1 ≤ ks.length ∧ (∃ x, sl = [some (.ref sc), some (.str kd), some (.int most), some (.ref μ.length), x]) ∧ ∃ acc : List Str, acc.length ≤ i + 1 ∧ (∀ x ∈ acc, PyData.strOk x = true ∧ ∃ kvs, μ[sc]? = some (.dct kvs) ∧ ∃ (ts : List Str) (k : Str), valU kvs (.inr x) = some (.tup [.str "call", .tup (ts.map U.str), .str k]) ∧ ts.length ≤ 2 ∧ (ts.length : Int) ≤ most) ∧ μ'[μ.length]? = some (.lst (acc.map U.str)) ∧ μ'[μ.length + 1]? = some (.lst (ks.map U.str)) ∧ G s n μ μ') := fun sl hx => ⟨by omega, hx, acc, by omega, a2, a3, a4, a5⟩
      cases hb with
      | var => refine ⟨_, hv, ?_⟩; walk_at "go"; exact skip _ ⟨_, rfl⟩
      | lab => refine ⟨_, hv, ?_⟩; walk_at "go"; exact skip _ ⟨_, rfl⟩
      | call ts k hts =>
        refine ⟨_, hv, ?_⟩; walk_at "go"
        rw [w_ixD hkμ]; refine ⟨_, hv, ?_⟩; walk_at "go"
        split
        · rw [w_ixD hkμ]; refine ⟨_, hv, ?_⟩; walk_at "go"
          simp only [List.length_map]
          split
          · rename_i hle
            refine ⟨_, lstU_L a3, ?_⟩
            rw [w_append a3 (by simp [lim]; omega)]
            refine ⟨by omega, ⟨_, rfl⟩, acc ++ [ks[i]], by simp; omega, ?_, by simpa using get_set a3, get_set_ne a4 (by omega), a5.put (by omega)⟩
            intro x hx
            rcases List.mem_append.mp hx with e | e
            · exact a2 x e
            · rw [List.mem_singleton.mp e]; exact ⟨ox, kvs', hk0, ts, k, hv, hts, by first | exact hle | simpa using hle⟩
          · exact skip _ ⟨_, rfl⟩
        · exact skip _ ⟨_, rfl⟩
    · left
      refine ⟨by simp; omega, ?_⟩
      try walk_at "go"
      exact q _ acc μ' (by omega) (get_lt a3) a3 a2 a5
def InnerS (g : List U → Mem → Res U) : Prop := ∀ {s n m sc : Nat} {μ : Mem} {x : Str} {b : U} {Q : U → Mem → Prop} {E : Str → Mem → Prop}, St s n μ → sc ≠ s → Sc m μ sc → m + 1 ≤ 60 → PyData.strOk x = true → Bd b →
  (∀ (r : Nat) μ', r ≠ s → Sc (m + 1) μ' r → G s n μ μ' → Q (.ref r) μ') → wpE (g [.ref sc, .str x, b] μ) Q E
theorem inner_s {C : Calls} : InnerS (runDef 4 (b__law_inner C)) := by
  intro s n m sc μ x b Q E h hs hsc hm hx hb q
  have ls := h.lt
  obtain ⟨kvs, h1, h2, h3, h4⟩ := hsc
  unfold b__law_inner
  try walk_at "go"
  rw [w_dictD h1]
  try walk_at "go"
  have g1 : G s n μ (μ ++ [.dct kvs]) := (G.refl h).snoc
  refine ⟨_, stU_D get_snoc (by simp [lim]; omega), ?_⟩
  refine q _ _ (by omega) ⟨putU kvs (.inr x) b, get_set get_snoc, by have := putU_len (kvs := kvs) (k := .inr x) (u := b); omega, hm, ?_⟩ (g1.put (by omega))
  exact putU_all h4 fun p e1 e2 => ⟨⟨x, e1, hx⟩, e2 ▸ hb⟩
/-- a def that makes a term -/
def TermS (d : Nat) (g : List U → Mem → Res U) : Prop := ∀ {s n m sc : Nat} {μ : Mem} {kd : Str} {Q : U → Mem → Prop} {E : Str → Mem → Prop}, St s n μ → sc ≠ s → Sc m μ sc → m + 2 * d ≤ 60 → kd ∈ (["com", "exp"] : List Str) →
  (∀ u μ', TM d u → G s n μ μ' → Q u μ') → wpE (g [.ref s, .str kd, .ref sc, .int d] μ) Q E
/-- the same, and no row -/
def CallS (d : Nat) (g : List U → Mem → Res U) : Prop := ∀ {s n m sc : Nat} {μ : Mem} {kd : Str} {Q : U → Mem → Prop} {E : Str → Mem → Prop}, St s n μ → sc ≠ s → Sc m μ sc → m + 2 * d ≤ 60 → kd ∈ (["com", "exp"] : List Str) →
  (∀ u μ', TM d u → nsq u → G s n μ μ' → Q u μ') → wpE (g [.ref s, .str kd, .ref sc, .int d] μ) Q E
theorem cast1 {d : Nat} : ((d + 1 : Nat) : Int) - 1 = d := by omega
theorem call_s {C : Calls} {d : Nat} (h7 : NextS (C 7)) (h8 : CallableS (C 8)) (h18 : ∀ d', d = d' + 1 → TermS d' (C 18)) : CallS d (runDef 9 (b__law_call C)) := by
  intro s n m sc μ kd Q E h hs hsc hm hk q
  have ls := h.lt
  unfold b__law_call
  try walk_at "go"
  simp only [big2, Bool.true_or, true_and]
  refine h8 h hs hsc fun r xs μ1 hr1 hr2 hr3 hxs g1 => ?_
  try walk_at "go"
  rw [w_lenL hr3]
  try walk_at "go"
  simp only [List.length_map]
  split
  · refine h7 g1 (by decide) fun v μ2 v0 v1 g2 g3 _ => ?_
    try walk_at "go"
    simp only [List.mem_cons, List.not_mem_nil, or_false] at hk
    rcases hk with rfl | rfl
    · walk_at "go"
      rw [w_ixL get_snoc]; walk_at "go"
      exact q _ _ (tm_skip.up (Nat.zero_le _)) ⟨_, _, rfl, by decide⟩ g2.snoc
    · walk_at "go"
      rw [w_ixL get_snoc]; walk_at "go"
      exact q _ _ (tm_num.up (Nat.zero_le _)) ⟨_, _, rfl, by decide⟩ g2.snoc
  · rename_i hne
    try walk_at "go"
    rw [w_lenL hr3]
    simp only [List.length_map]
    refine h7 g1 (by omega) fun v μ2 v0 v1 g2 g3 _ => ?_
    have hr4 := g3.get hr3 (by omega)
    rw [w_ixL hr4]
    obtain ⟨j, rfl⟩ := Int.eq_ofNat_of_zero_le v0
    have hj : j < xs.length := by omega
    refine ⟨.str xs[j], by rw [Dg.atI_nat]; simp [hj], ?_⟩
    obtain ⟨ox, kvs, hk0, ts, k, hv, ht2, htm⟩ := hxs xs[j] (List.getElem_mem hj)
    try walk_at "go"
    have g4 := g2.snoc (c := .lst [])
    rw [w_ixD (g4.get hk0 hs)]
    refine ⟨_, hv, ?_⟩
    try walk_at "go"
    refine for_go (fun i s' μ' => i ≤ ts.length ∧ (∃ x y, s' = [some (.ref s), some (.str kd), some (.ref sc), some (.int d), some (.ref r), some (.str xs[j]), some (.ref μ2.length), x, y]) ∧ ∃ acc : List (Str × U), acc.length = i ∧ (∀ d', d = d' + 1 → ∀ p ∈ acc, TM d' p.2) ∧ μ'[μ2.length]? = some (.lst (acc.map pr)) ∧ G s n μ μ') ts.length (by omega) ⟨Nat.zero_le _, ⟨_, _, rfl⟩, [], rfl, by simp, get_snoc, g4⟩ (fun i _ μ h => h.1) ?_
    rintro i s' μ' ⟨hi, ⟨x, y, rfl⟩, acc, a1, a2, a3, a4⟩
    rw [item_seq]
    by_cases e : i < ts.length
    · right
      refine ⟨.str ts[i], _, by simp [e], rfl, ?_⟩
      obtain ⟨d', rfl⟩ : ∃ d', d = d' + 1 := by
        cases d with
        | zero =>
          have h0 : (ts.length : Int) ≤ 0 := by simpa using htm
          omega
        | succ d' => exact ⟨d', rfl⟩
      try walk_at "go"
      simp only [cast1]
      have hl3 := get_lt a3
      have l2 := g2.le
      rw [w_ixL get_snoc]
      have key : ∀ pt : Str, pt ∈ (["com", "exp"] : List Str) → wpE (C 18 [U.ref s, U.str pt, U.ref sc, U.int ↑d'] (μ' ++ [Cell.lst [U.str "exp", U.str "com"]])) (fun u μ1 => wpE (gAppend (.ref μ2.length) [.tup [.str pt, u]] μ1) (fun u μ1 => i + 1 ≤ ts.length ∧ (∃ x y, ([some (.ref s), some (.str kd), some (.ref sc), some (.int (d' + 1 : Nat)), some (.ref r), some (.str xs[j]), some (.ref μ2.length), some (.str ts[i]), some (.str pt)] : Slots) = [some (.ref s), some (.str kd), some (.ref sc), some (.int (d' + 1 : Nat)), some (.ref r), some (.str xs[j]), some (.ref μ2.length), x, y]) ∧ ∃ acc : List (Str × U), acc.length = i + 1 ∧ (∀ d'', d' + 1 = d'' + 1 → ∀ p ∈ acc, TM d'' p.2) ∧ μ1[μ2.length]? = some (.lst (acc.map pr)) ∧ G s n μ μ1) fun c μ => E c μ) fun c μ => E c μ := by
        intro pt hpt
        have g5 := a4.snoc (c := Cell.lst [U.str "exp", U.str "com"])
        refine h18 d' rfl g5.st hs (g5.sc hsc hs) (by omega) hpt fun u μ3 tu g6 => ?_
        have a3' := g6.get (get_snoc_lt a3) (by omega)
        rw [w_append a3' (by simp [lim]; omega)]
        refine ⟨by omega, ⟨_, _, rfl⟩, acc ++ [(pt, u)], by simp [a1], ?_, by simpa [pr] using get_set a3', (g5.trans g6).put (by omega)⟩
        intro d'' ed p hp
        obtain rfl : d' = d'' := by omega
        rcases List.mem_append.mp hp with e | e
        · exact a2 _ rfl p e
        · rw [List.mem_singleton.mp e]; exact tu
      by_cases et : ts[i] = "com"
      · simp only [et, decide_true, if_true]
        refine ⟨_, Dg.atI_1, _, lstU_L (get_snoc_lt a3), ?_⟩
        have := key "com" (by simp)
        rw [et] at this
        exact this
      · simp only [et, decide_false]
        try walk_at "go"
        refine ⟨_, lstU_L (get_snoc_lt a3), ?_⟩
        exact key "exp" (by simp)
    · left
      refine ⟨by simp; omega, ?_⟩
      try walk_at "go"
      rw [w_tupleL a3]
      try walk_at "go"
      refine q _ _ ?_ ⟨_, _, rfl, by decide⟩ a4
      cases d with
      | zero =>
        have h0 : (ts.length : Int) ≤ 0 := by simpa using htm
        have : ts.length = 0 := by omega
        have : acc = [] := List.length_eq_zero_iff.mp (by omega)
        subst this
        exact tm_cal0
      | succ d' => exact tm_cal (by omega) (a2 d' rfl)
def nsqT (u : U) : Prop := nsq u
/-- a leaf: a term of depth 0 that is no row -/
def LeafS (g : List U → Mem → Res U) : Prop := ∀ {s n m sc : Nat} {μ : Mem} {kd : Str} {Q : U → Mem → Prop} {E : Str → Mem → Prop}, St s n μ → sc ≠ s → Sc m μ sc → kd ∈ (["com", "exp"] : List Str) →
  (∀ u μ', TM 0 u → nsq u → G s n μ μ' → Q u μ') → wpE (g [.ref s, .str kd, .ref sc] μ) Q E
theorem leaf_s {C : Calls} (h7 : NextS (C 7)) (h9 : SortsS (C 9)) (h10 : CallS 0 (C 10)) : LeafS (runDef 7 (b__law_leaf C)) := by
  intro s n m sc μ kd Q E h hs hsc hk q
  have ls := h.lt
  have hm : m ≤ 60 := by obtain ⟨_, _, _, x, _⟩ := hsc; exact x
  unfold b__law_leaf
  try walk_at "go"
  refine h7 (G.refl h) (by decide) fun v μ1 v0 v1 g1 _ _ => ?_
  try walk_at "go"
  refine h9 g1 hs (g1.sc hsc hs) fun r1 xs1 μ2 l1 l2 e1 o1 g2 g2' => ?_
  try walk_at "go"
  refine h9 g2 hs (g2.sc hsc hs) fun r2 xs2 μ3 l3 l4 e2 o2 g3 g3' => ?_
  have e1' := g3'.get e1 (by have := g1.le; omega)
  try walk_at "go"
  split
  · refine h7 (g3.snoc) (by decide) fun v μ4 v0 v1 g4 g4' hl4 => ?_
    refine pick_l (s := s) (n := n) (μ0 := μ) (g4'.get get_snoc (by have := g3.le; omega)) v0 (by simpa using v1) ?_
    simp only [List.mem_cons, List.not_mem_nil, or_false, forall_eq_or_imp, forall_eq]
    exact ⟨q _ _ tm_stop ⟨_, _, rfl, by decide⟩ g4, q _ _ tm_fault ⟨_, _, rfl, by decide⟩ g4⟩
  · try walk_at "go"
    have last : wpE (C 7 [U.ref s, U.int 3] μ3) (fun u μ1 => wpE (ixU (U.ref (List.length μ1)) (U.int (if kd = "com" then 1 else 0)) (μ1 ++ [Cell.lst [U.tup [U.str "num", u], U.tup [U.str "skip"]]])) (fun u μ1 => Q u μ1) fun c μ => E c μ) (fun c μ => E c μ) := by
      refine h7 g3 (by decide) fun v μ5 v0 v1 g5 _ _ => ?_
      rw [w_ixL get_snoc]
      simp only [List.mem_cons, List.not_mem_nil, or_false] at hk
      rcases hk with rfl | rfl
      · try walk_at "go"
        exact q _ _ tm_skip ⟨_, _, rfl, by decide⟩ g5.snoc
      · try walk_at "go"
        exact q _ _ tm_num ⟨_, _, rfl, by decide⟩ g5.snoc
    have mid : (if v < 5 then wpE (C 10 [U.ref s, U.str kd, U.ref sc, U.int 0] μ3) (fun u μ1 => Q u μ1) fun c μ => E c μ
      else if v < 8 then if 0 < (xs1.length : Int) then wpE (C 7 [U.ref s, U.int xs1.length] μ3)
                (fun w μ2 => wpE (ixU (U.ref r1) w μ2) (fun u μ1 => wpE (C 7 [U.ref s, U.int 3] μ1) (fun u_1 μ1 =>
                        wpE (ixU (U.ref (List.length μ1)) (U.int (if kd = "com" then 1 else 0)) (μ1 ++ [Cell.lst [U.tup [U.str "read", u], U.tup [U.str "set", u, U.tup [U.str "num", u_1]]]]))
                          (fun u μ1 => Q u μ1) fun c μ => E c μ) fun c μ => E c μ) fun c μ => E c μ) fun c μ => E c μ
          else wpE (C 7 [U.ref s, U.int 3] μ3) (fun u μ1 => wpE (ixU (U.ref (List.length μ1)) (U.int (if kd = "com" then 1 else 0)) (μ1 ++ [Cell.lst [U.tup [U.str "num", u], U.tup [U.str "skip"]]])) (fun u μ1 => Q u μ1) fun c μ => E c μ) (fun c μ => E c μ)
        else wpE (C 7 [U.ref s, U.int 3] μ3) (fun u μ1 => wpE (ixU (U.ref (List.length μ1)) (U.int (if kd = "com" then 1 else 0)) (μ1 ++ [Cell.lst [U.tup [U.str "num", u], U.tup [U.str "skip"]]])) (fun u μ1 => Q u μ1) fun c μ => E c μ) (fun c μ => E c μ)) := by
      split
      · exact h10 g3.st hs (g3.sc hsc hs) (by omega) hk fun u μ4 t nn g4 => q _ _ t nn (g3.trans g4)
      · split
        · split
          · rename_i hp
            refine h7 g3 hp fun v μ4 v0 v1 g4 g4' _ => ?_
            refine pick_l (s := s) (n := n) (μ0 := μ) (g4'.get e1' (by have := g1.le; omega)) v0 (by simpa using v1) ?_
            intro u hu
            obtain ⟨x, hx, rfl⟩ := List.mem_map.mp hu
            refine h7 g4 (by decide) fun v μ5 v0 v1 g5 _ _ => ?_
            rw [w_ixL get_snoc]
            simp only [List.mem_cons, List.not_mem_nil, or_false] at hk
            rcases hk with rfl | rfl
            · try walk_at "go"
              exact q _ _ tm_set0 ⟨_, _, rfl, by decide⟩ g5.snoc
            · try walk_at "go"
              exact q _ _ tm_read ⟨_, _, rfl, by decide⟩ g5.snoc
          · exact last
        · exact last
    simp (config := {decide := true}) only [w_lenL e2, w_lenL e1', List.length_map, w_run, w_op, w_c, w_var, w_call, w_def, w_anil, w_acons, w_tup, w_lst, w_int, w_intB, w_lenT, w_addI, w_subI, w_modI, w_mulI, w_ltI, w_leI, w_gtI, w_geI, w_eq, w_ne, w_ixT, w_if, w_nt, w_an, w_or, w_all, w_tstB, w_tst, w_app, w_lc, w_for, w_iseqT, w_rg1, w_rev1, w_d0, Dg.eq_str, Dg.eq_int, s_seq, s_next, s_brk, s_cnt, s_expr, s_ret, s_retN, s_if, s_asg1, s_store, List.map_cons, List.map_nil, List.cons_append, List.nil_append, List.length_cons, List.length_nil, List.replicate_succ, List.replicate_zero, Nat.add_sub_cancel, Nat.sub_self, Nat.sub_zero, Nat.reduceAdd, Nat.reduceSub, Nat.zero_add, List.set_cons_succ, List.set_cons_zero, List.getElem?_cons_zero, List.getElem?_cons_succ, Option.some.injEq, exists_eq_left', exists_eq_left, exists_eq_right', U.bl.injEq, U.int.injEq, U.ref.injEq, U.str.injEq, atI_0, atI_1, atI_2, atI_3, atI_4, atI_5, if_true, if_false, true_and, and_true, decide_true, decide_false, Bool.not_true, Bool.not_false, reduceCtorEq, ite_true, ite_false, decide_eq_true_eq, Bool.true_eq_false, Bool.false_eq_true]
    split
    · split
      · rename_i hp
        refine h7 g3 hp fun v μ4 v0 v1 g4 g4' _ => ?_
        refine pick_l (s := s) (n := n) (μ0 := μ) (g4'.get e2 (by have := g1.le; have := g2'.le; omega)) v0 (by simpa using v1) ?_
        intro u hu
        obtain ⟨x, hx, rfl⟩ := List.mem_map.mp hu
        exact q _ _ tm_exit ⟨_, _, rfl, by decide⟩ g4
      · exact mid
    · exact mid
/-! joined -/
theorem head_seq {a b : U} {r : List U} : rowU a (b :: r) = rowU (.tup [.str "seq", a, b]) r := rfl
/-- the walk down a row: steps from the last to the first -/
def JoinS (g : List U → Mem → Res U) : Prop := ∀ {s n : Nat} {μ : Mem} {a hd : U} {ss : List U} {Q : U → Mem → Prop} {E : Str → Mem → Prop}, St s n μ → nsq hd → ss.length < 2000 →
  (∀ μ', G s n μ μ' → Q (rowU a (hd :: ss)) μ') → wpE (g [a, rowU hd ss] μ) Q E
theorem joined_s {C : Calls} : JoinS (runDef 6 (b__law_joined C)) := by
  intro s n μ a hd ss Q E h nh hl q
  have ls := h.lt
  unfold b__law_joined
  try walk_at "go"
  have g0 : G s n μ (μ ++ [.lst []]) := (G.refl h).snoc
  refine for_go (fun i s' μ' => i ≤ ss.length ∧ ∃ pre post, ss = pre ++ post ∧ post.length = i ∧ (∃ x, s' = [some a, some (rowU hd ss), some (.ref μ.length), some (rowU hd pre), x, none]) ∧ μ'[μ.length]? = some (.lst post.reverse) ∧ G s n μ μ') ss.length (by omega) ⟨by omega, ss, [], by simp, rfl, ⟨_, rfl⟩, by simp, g0⟩ (fun i _ μ h => h.1) ?_
  rintro i s' μ' ⟨hi, pre, post, es, el, ⟨x, rfl⟩, a3, a4⟩
  rw [item_rng]
  right
  refine ⟨_, _, by rw [if_pos (show i < (2000 : Int).toNat by simp; omega)], rfl, ?_⟩
  rcases List.eq_nil_or_concat pre with rfl | ⟨p, z, rfl⟩
  · obtain ⟨t, r, rfl, ht⟩ := nh
    have es' : post = ss := by simpa using es.symm
    subst es'
    simp (config := {decide := true}) only [show rowU (.tup (.str t :: r)) [] = .tup (.str t :: r) from rfl, ht, w_run, w_op, w_c, w_var, w_call, w_def, w_anil, w_acons, w_tup, w_lst, w_int, w_intB, w_lenT, w_addI, w_subI, w_modI, w_mulI, w_ltI, w_leI, w_gtI, w_geI, w_eq, w_ne, w_ixT, w_if, w_nt, w_an, w_or, w_all, w_tstB, w_tst, w_app, w_lc, w_for, w_iseqT, w_rg1, w_rev1, w_d0, Dg.eq_str, Dg.eq_int, s_seq, s_next, s_brk, s_cnt, s_expr, s_ret, s_retN, s_if, s_asg1, s_store, List.map_cons, List.map_nil, List.cons_append, List.nil_append, List.length_cons, List.length_nil, List.replicate_succ, List.replicate_zero, Nat.add_sub_cancel, Nat.sub_self, Nat.sub_zero, Nat.reduceAdd, Nat.reduceSub, Nat.zero_add, List.set_cons_succ, List.set_cons_zero, List.getElem?_cons_zero, List.getElem?_cons_succ, Option.some.injEq, exists_eq_left', exists_eq_left, exists_eq_right', U.bl.injEq, U.int.injEq, U.ref.injEq, U.str.injEq, atI_0, atI_1, atI_2, atI_3, atI_4, atI_5, if_true, if_false, true_and, and_true, decide_true, decide_false, Bool.not_true, Bool.not_false, reduceCtorEq, ite_true, ite_false, decide_eq_true_eq, Bool.true_eq_false, Bool.false_eq_true]
    simp (config := {decide := true}) only [w_lenL a3, w_run, w_op, w_c, w_var, w_call, w_def, w_anil, w_acons, w_tup, w_lst, w_int, w_intB, w_lenT, w_addI, w_subI, w_modI, w_mulI, w_ltI, w_leI, w_gtI, w_geI, w_eq, w_ne, w_ixT, w_if, w_nt, w_an, w_or, w_all, w_tstB, w_tst, w_app, w_lc, w_for, w_iseqT, w_rg1, w_rev1, w_d0, Dg.eq_str, Dg.eq_int, s_seq, s_next, s_brk, s_cnt, s_expr, s_ret, s_retN, s_if, s_asg1, s_store, List.map_cons, List.map_nil, List.cons_append, List.nil_append, List.length_cons, List.length_nil, List.replicate_succ, List.replicate_zero, Nat.add_sub_cancel, Nat.sub_self, Nat.sub_zero, Nat.reduceAdd, Nat.reduceSub, Nat.zero_add, List.set_cons_succ, List.set_cons_zero, List.getElem?_cons_zero, List.getElem?_cons_succ, Option.some.injEq, exists_eq_left', exists_eq_left, exists_eq_right', U.bl.injEq, U.int.injEq, U.ref.injEq, U.str.injEq, atI_0, atI_1, atI_2, atI_3, atI_4, atI_5, if_true, if_false, true_and, and_true, decide_true, decide_false, Bool.not_true, Bool.not_false, reduceCtorEq, ite_true, ite_false, decide_eq_true_eq, Bool.true_eq_false, Bool.false_eq_true]
    first | refine ⟨by unfold okR; simp; omega, ?_⟩ | skip
    refine for_go (fun i s' μ' => i ≤ post.length ∧ (∃ x y z w, s' = [some x, some y, some (.ref μ.length), some z, w, some (rowU a (.tup (.str t :: r) :: post.take i))]) ∧ μ'[μ.length]? = some (.lst post.reverse) ∧ G s n μ μ') post.length (by omega) ⟨by omega, ⟨_, _, _, _, rfl⟩, a3, a4⟩ (fun i _ μ h => h.1) ?_
    rintro j s' μ'' ⟨hj, ⟨x, y, z, w, rfl⟩, b3, b4⟩
    rw [item_rng]
    by_cases e : j < post.length
    · right
      refine ⟨_, _, by rw [if_pos (by simpa using e)], rfl, ?_⟩
      simp (config := {decide := true}) only [w_lenL b3, w_ixL b3, w_run, w_op, w_c, w_var, w_call, w_def, w_anil, w_acons, w_tup, w_lst, w_int, w_intB, w_lenT, w_addI, w_subI, w_modI, w_mulI, w_ltI, w_leI, w_gtI, w_geI, w_eq, w_ne, w_ixT, w_if, w_nt, w_an, w_or, w_all, w_tstB, w_tst, w_app, w_lc, w_for, w_iseqT, w_rg1, w_rev1, w_d0, Dg.eq_str, Dg.eq_int, s_seq, s_next, s_brk, s_cnt, s_expr, s_ret, s_retN, s_if, s_asg1, s_store, List.map_cons, List.map_nil, List.cons_append, List.nil_append, List.length_cons, List.length_nil, List.replicate_succ, List.replicate_zero, Nat.add_sub_cancel, Nat.sub_self, Nat.sub_zero, Nat.reduceAdd, Nat.reduceSub, Nat.zero_add, List.set_cons_succ, List.set_cons_zero, List.getElem?_cons_zero, List.getElem?_cons_succ, Option.some.injEq, exists_eq_left', exists_eq_left, exists_eq_right', U.bl.injEq, U.int.injEq, U.ref.injEq, U.str.injEq, atI_0, atI_1, atI_2, atI_3, atI_4, atI_5, if_true, if_false, true_and, and_true, decide_true, decide_false, Bool.not_true, Bool.not_false, reduceCtorEq, ite_true, ite_false, decide_eq_true_eq, Bool.true_eq_false, Bool.false_eq_true]
      refine ⟨post[j], ?_, by omega, ⟨x, y, z, some (U.int (0 + (j : Int) * 1)), ?_⟩, b3, b4⟩
      · have : ((post.reverse.length : Int) - 1 - (0 + (j : Int) * 1)) = ((post.length - 1 - j : Nat) : Int) := by simp; omega
        rw [this, Dg.atI_nat, List.getElem?_reverse (by omega)]
        simp [show post.length - 1 - (post.length - 1 - j) = j by omega, e]
      · have : post.take (j + 1) = post.take j ++ [post[j]] := by simp
        rw [this, ← List.cons_append, rowU_snoc]
    · left
      refine ⟨by rw [if_neg (by simpa using e)], ?_⟩
      walk_at "go"
      have : post.take j = post := List.take_of_length_le (by omega)
      rw [this]
      exact q _ b4
  · rw [List.concat_eq_append] at es
    rw [List.concat_eq_append, rowU_snoc]
    walk_at "go"
    simp (config := {decide := true}) only [lstU_L a3, w_run, w_op, w_c, w_var, w_call, w_def, w_anil, w_acons, w_tup, w_lst, w_int, w_intB, w_lenT, w_addI, w_subI, w_modI, w_mulI, w_ltI, w_leI, w_gtI, w_geI, w_eq, w_ne, w_ixT, w_if, w_nt, w_an, w_or, w_all, w_tstB, w_tst, w_app, w_lc, w_for, w_iseqT, w_rg1, w_rev1, w_d0, Dg.eq_str, Dg.eq_int, s_seq, s_next, s_brk, s_cnt, s_expr, s_ret, s_retN, s_if, s_asg1, s_store, List.map_cons, List.map_nil, List.cons_append, List.nil_append, List.length_cons, List.length_nil, List.replicate_succ, List.replicate_zero, Nat.add_sub_cancel, Nat.sub_self, Nat.sub_zero, Nat.reduceAdd, Nat.reduceSub, Nat.zero_add, List.set_cons_succ, List.set_cons_zero, List.getElem?_cons_zero, List.getElem?_cons_succ, Option.some.injEq, exists_eq_left', exists_eq_left, exists_eq_right', U.bl.injEq, U.int.injEq, U.ref.injEq, U.str.injEq, atI_0, atI_1, atI_2, atI_3, atI_4, atI_5, if_true, if_false, true_and, and_true, decide_true, decide_false, Bool.not_true, Bool.not_false, reduceCtorEq, ite_true, ite_false, decide_eq_true_eq, Bool.true_eq_false, Bool.false_eq_true]
    have hlen : ss.length = p.length + 1 + post.length := by rw [es]; simp; omega
    rw [w_append a3 (by simp [lim]; omega)]
    refine ⟨by omega, p, z :: post, by simpa using es, by simp [el], ⟨_, rfl⟩, by simpa using get_set a3, a4.put (by omega)⟩
theorem mem2 {x : Str} : x ∈ (["com", "exp"] : List Str) ↔ x = "com" ∨ x = "exp" := by simp
/-- a def that makes a command -/
def CmdS (d : Nat) (g : List U → Mem → Res U) : Prop := ∀ {s n m sc : Nat} {μ : Mem} {w : Int} {Q : U → Mem → Prop} {E : Str → Mem → Prop}, St s n μ → sc ≠ s → Sc m μ sc → m + 2 * (d + 1) ≤ 60 →
  (∀ u μ', TM (d + 1) u → G s n μ μ' → Q u μ') → wpE (g [.ref s, .ref sc, .int (d + 1 : Nat), .int w] μ) Q E
theorem Dz_le {d : Nat} (h : d ≤ 6) : Dz d ≤ 444 := by
  have : d = 0 ∨ d = 1 ∨ d = 2 ∨ d = 3 ∨ d = 4 ∨ d = 5 ∨ d = 6 := by omega
  rcases this with rfl | rfl | rfl | rfl | rfl | rfl | rfl <;> decide
theorem Tz_le {d : Nat} (h : d ≤ 5) : Tz d ≤ 3600 := by
  have : d = 0 ∨ d = 1 ∨ d = 2 ∨ d = 3 ∨ d = 4 ∨ d = 5 := by omega
  rcases this with rfl | rfl | rfl | rfl | rfl | rfl <;> decide
theorem command_s {C : Calls} {d : Nat} (hd5 : d ≤ 5) (h7 : NextS (C 7)) (h9 : SortsS (C 9)) (h12 : InnerS (C 12)) (h13 : PoolS (C 13)) (h16 : JoinS (C 16)) (h18 : TermS d (C 18)) : CmdS d (runDef 7 (b__law_command C)) := by
  intro s n m sc μ w Q E h hs hsc hm q
  have ls := h.lt
  unfold b__law_command
  simp (config := {decide := true}) only [cast1, w_run, w_op, w_c, w_var, w_call, w_def, w_anil, w_acons, w_tup, w_lst, w_int, w_intB, w_lenT, w_addI, w_subI, w_modI, w_mulI, w_ltI, w_leI, w_gtI, w_geI, w_eq, w_ne, w_ixT, w_if, w_nt, w_an, w_or, w_all, w_tstB, w_tst, w_app, w_lc, w_for, w_iseqT, w_rg1, w_rev1, w_d0, Dg.eq_str, Dg.eq_int, s_seq, s_next, s_brk, s_cnt, s_expr, s_ret, s_retN, s_if, s_asg1, s_store, List.map_cons, List.map_nil, List.cons_append, List.nil_append, List.length_cons, List.length_nil, List.replicate_succ, List.replicate_zero, Nat.add_sub_cancel, Nat.sub_self, Nat.sub_zero, Nat.reduceAdd, Nat.reduceSub, Nat.zero_add, List.set_cons_succ, List.set_cons_zero, List.getElem?_cons_zero, List.getElem?_cons_succ, Option.some.injEq, exists_eq_left', exists_eq_left, exists_eq_right', U.bl.injEq, U.int.injEq, U.ref.injEq, U.str.injEq, atI_0, atI_1, atI_2, atI_3, atI_4, atI_5, if_true, if_false, true_and, and_true, decide_true, decide_false, Bool.not_true, Bool.not_false, reduceCtorEq, ite_true, ite_false, decide_eq_true_eq, Bool.true_eq_false, Bool.false_eq_true]
  split
  · refine h18 h hs hsc (by omega) (by simp) fun a μ1 ta g1 => ?_
    refine h18 g1.st hs (g1.sc hsc hs) (by omega) (by simp) fun b μ2 tb g2 => ?_
    obtain ⟨hd, ss, rfl, nh, nss⟩ := tb.wt.row
    have := row_dp (ss := ss) (hd := hd)
    have := tb.deep
    have := Dz_le (d := d) (by omega)
    exact h16 g2.st nh (by omega) fun μ3 g3 => q _ _ (tm_row ta tb nh) ((g1.trans g2).trans g3)
  · refine h9 (G.refl h) hs hsc fun r xs μ1 l1 l2 e1 o1 g1 _ => ?_
    have tail8 : ∀ Q' : U → Mem → Prop, (∀ x μ2, PyData.strOk x = true → G s n μ μ2 → Q' (.str x) μ2) → wpE (C 13 [.ref s] μ1) Q' (fun c μ => E c μ) := fun Q' hq => h13 g1 fun x μ2 ox g2 _ => hq x μ2 ox g2
    have rest : (if w = 8 then wpE (C 13 [U.ref s] μ1) (fun u μ1 => wpE (C 12 [U.ref sc, u, U.tup [U.str "label"]] μ1) (fun u_1 μ1 => wpE (C 18 [U.ref s, U.str "com", u_1, U.int ↑d] μ1) (fun u_2 μ1 => Q (U.tup [U.str "block", u, u_2]) μ1) fun c μ => E c μ) fun c μ => E c μ) fun c μ => E c μ
       else wpE (C 18 [U.ref s, U.str "exp", U.ref sc, U.int ↑d] μ1) (fun u μ1 => wpE (C 18 [U.ref s, U.str "com", U.ref sc, U.int ↑d] μ1) (fun u_1 μ1 => Q (U.tup [U.str "while", u, u_1]) μ1) fun c μ => E c μ) fun c μ => E c μ) := by
      split
      · refine h13 g1 fun x μ2 ox g2 _ => ?_
        refine h12 g2.st hs (g2.sc hsc hs) (by omega) ox .lab fun r2 μ3 hr sc3 g3 => ?_
        exact h18 g3.st hr sc3 (by omega) (by simp) fun u μ4 tu g4 => q _ _ (tm_blk tu) ((g2.trans g3).trans g4)
      · refine h18 g1.st hs (g1.sc hsc hs) (by omega) (by simp) fun a μ2 ta g2 => ?_
        have g2' := g1.trans g2
        exact h18 g2'.st hs (g2'.sc hsc hs) (by omega) (by simp) fun b μ3 tb g3 => q _ _ (tm_wh ta tb) (g2'.trans g3)
    simp (config := {decide := true}) only [w_lenL e1, List.length_map, cast1, w_run, w_op, w_c, w_var, w_call, w_def, w_anil, w_acons, w_tup, w_lst, w_int, w_intB, w_lenT, w_addI, w_subI, w_modI, w_mulI, w_ltI, w_leI, w_gtI, w_geI, w_eq, w_ne, w_ixT, w_if, w_nt, w_an, w_or, w_all, w_tstB, w_tst, w_app, w_lc, w_for, w_iseqT, w_rg1, w_rev1, w_d0, Dg.eq_str, Dg.eq_int, s_seq, s_next, s_brk, s_cnt, s_expr, s_ret, s_retN, s_if, s_asg1, s_store, List.map_cons, List.map_nil, List.cons_append, List.nil_append, List.length_cons, List.length_nil, List.replicate_succ, List.replicate_zero, Nat.add_sub_cancel, Nat.sub_self, Nat.sub_zero, Nat.reduceAdd, Nat.reduceSub, Nat.zero_add, List.set_cons_succ, List.set_cons_zero, List.getElem?_cons_zero, List.getElem?_cons_succ, Option.some.injEq, exists_eq_left', exists_eq_left, exists_eq_right', U.bl.injEq, U.int.injEq, U.ref.injEq, U.str.injEq, atI_0, atI_1, atI_2, atI_3, atI_4, atI_5, if_true, if_false, true_and, and_true, decide_true, decide_false, Bool.not_true, Bool.not_false, reduceCtorEq, ite_true, ite_false, decide_eq_true_eq, Bool.true_eq_false, Bool.false_eq_true]
    split
    · split
      · rename_i hp
        refine h7 g1 hp fun v μ2 v0 v1 g2 g2' _ => ?_
        refine pick_l (s := s) (n := n) (μ0 := μ) (g2'.get e1 (by omega)) v0 (by simpa using v1) ?_
        intro u hu
        obtain ⟨x, hx, rfl⟩ := List.mem_map.mp hu
        exact h18 g2.st hs (g2.sc hsc hs) (by omega) (by simp) fun e μ3 te g3 => q _ _ (tm_set te) (g2.trans g3)
      · exact rest
    · exact rest
/-- a def that makes a term by a way -/
def CommonS (d : Nat) (g : List U → Mem → Res U) : Prop := ∀ {s n m sc : Nat} {μ : Mem} {kd : Str} {w : Int} {Q : U → Mem → Prop} {E : Str → Mem → Prop}, St s n μ → sc ≠ s → Sc m μ sc → m + 2 * (d + 1) ≤ 60 → kd ∈ (["com", "exp"] : List Str) →
  (∀ u μ', TM (d + 1) u → G s n μ μ' → Q u μ') → wpE (g [.ref s, .str kd, .ref sc, .int (d + 1 : Nat), .int w] μ) Q E
theorem common_s {C : Calls} {d : Nat} (h10 : CallS (d + 1) (C 10)) (h11 : LeafS (C 11)) (h12 : InnerS (C 12)) (h13 : PoolS (C 13)) (h14 : TermS (d + 1) (C 14)) (h18 : TermS d (C 18)) : CommonS d (runDef 8 (b__law_common C)) := by
  intro s n m sc μ kd w Q E h hs hsc hm hk q
  have ls := h.lt
  unfold b__law_common
  simp (config := {decide := true}) only [cast1, w_run, w_op, w_c, w_var, w_call, w_def, w_anil, w_acons, w_tup, w_lst, w_int, w_intB, w_lenT, w_addI, w_subI, w_modI, w_mulI, w_ltI, w_leI, w_gtI, w_geI, w_eq, w_ne, w_ixT, w_if, w_nt, w_an, w_or, w_all, w_tstB, w_tst, w_app, w_lc, w_for, w_iseqT, w_rg1, w_rev1, w_d0, Dg.eq_str, Dg.eq_int, s_seq, s_next, s_brk, s_cnt, s_expr, s_ret, s_retN, s_if, s_asg1, s_store, List.map_cons, List.map_nil, List.cons_append, List.nil_append, List.length_cons, List.length_nil, List.replicate_succ, List.replicate_zero, Nat.add_sub_cancel, Nat.sub_self, Nat.sub_zero, Nat.reduceAdd, Nat.reduceSub, Nat.zero_add, List.set_cons_succ, List.set_cons_zero, List.getElem?_cons_zero, List.getElem?_cons_succ, Option.some.injEq, exists_eq_left', exists_eq_left, exists_eq_right', U.bl.injEq, U.int.injEq, U.ref.injEq, U.str.injEq, atI_0, atI_1, atI_2, atI_3, atI_4, atI_5, if_true, if_false, true_and, and_true, decide_true, decide_false, Bool.not_true, Bool.not_false, reduceCtorEq, ite_true, ite_false, decide_eq_true_eq, Bool.true_eq_false, Bool.false_eq_true]
  split
  · exact h11 h hs hsc hk fun u μ' t _ g => q u μ' (t.up (by omega)) g
  · split
    · exact h10 h hs hsc hm hk fun u μ' t _ g => q u μ' t g
    · split
      · exact h14 h hs hsc hm hk fun u μ' t g => q u μ' t g
      · refine h18 h hs hsc (by omega) (by simp) fun a μ1 ta g1 => ?_
        skip
        split
        · refine h18 g1.st hs (g1.sc hsc hs) (by omega) hk fun b μ2 tb g2 => ?_
          have g2' := g1.trans g2
          refine h18 g2'.st hs (g2'.sc hsc hs) (by omega) hk fun c μ3 tc g3 => ?_
          exact q _ _ (tm_if ta tb tc) (g2'.trans g3)
        · refine h13 g1 fun x μ2 ox g2 _ => ?_
          refine h12 g2.st hs (g2.sc hsc hs) (by omega) ox .var fun r2 μ3 hr sc3 g3 => ?_
          exact h18 g3.st hr sc3 (by omega) hk fun u μ4 tu g4 => q _ _ (tm_new ta tu) ((g2.trans g3).trans g4)
theorem term0_s {C : Calls} (h11 : LeafS (C 11)) : TermS 0 (runDef 7 (b__law_term C)) := by
  intro s n m sc μ kd Q E h hs hsc hm hk q
  unfold b__law_term
  walk_at "go"
  exact h11 h hs hsc hk fun u μ' t _ g => q u μ' t g
theorem term_s {C : Calls} {d : Nat} (h7 : NextS (C 7)) (h15 : CommonS d (C 15)) (h17 : CmdS d (C 17)) (h18 : TermS d (C 18)) : TermS (d + 1) (runDef 7 (b__law_term C)) := by
  intro s n m sc μ kd Q E h hs hsc hm hk q
  have ls := h.lt
  unfold b__law_term
  simp (config := {decide := true}) only [cast1, show ¬ ((d + 1 : Nat) : Int) ≤ 0 by omega, w_run, w_op, w_c, w_var, w_call, w_def, w_anil, w_acons, w_tup, w_lst, w_int, w_intB, w_lenT, w_addI, w_subI, w_modI, w_mulI, w_ltI, w_leI, w_gtI, w_geI, w_eq, w_ne, w_ixT, w_if, w_nt, w_an, w_or, w_all, w_tstB, w_tst, w_app, w_lc, w_for, w_iseqT, w_rg1, w_rev1, w_d0, Dg.eq_str, Dg.eq_int, s_seq, s_next, s_brk, s_cnt, s_expr, s_ret, s_retN, s_if, s_asg1, s_store, List.map_cons, List.map_nil, List.cons_append, List.nil_append, List.length_cons, List.length_nil, List.replicate_succ, List.replicate_zero, Nat.add_sub_cancel, Nat.sub_self, Nat.sub_zero, Nat.reduceAdd, Nat.reduceSub, Nat.zero_add, List.set_cons_succ, List.set_cons_zero, List.getElem?_cons_zero, List.getElem?_cons_succ, Option.some.injEq, exists_eq_left', exists_eq_left, exists_eq_right', U.bl.injEq, U.int.injEq, U.ref.injEq, U.str.injEq, atI_0, atI_1, atI_2, atI_3, atI_4, atI_5, if_true, if_false, true_and, and_true, decide_true, decide_false, Bool.not_true, Bool.not_false, reduceCtorEq, ite_true, ite_false, decide_eq_true_eq, Bool.true_eq_false, Bool.false_eq_true]
  refine h7 (G.refl h) (by decide) fun v μ1 v0 v1 g1 _ _ => ?_
  simp (config := {decide := true}) only [cast1, w_run, w_op, w_c, w_var, w_call, w_def, w_anil, w_acons, w_tup, w_lst, w_int, w_intB, w_lenT, w_addI, w_subI, w_modI, w_mulI, w_ltI, w_leI, w_gtI, w_geI, w_eq, w_ne, w_ixT, w_if, w_nt, w_an, w_or, w_all, w_tstB, w_tst, w_app, w_lc, w_for, w_iseqT, w_rg1, w_rev1, w_d0, Dg.eq_str, Dg.eq_int, s_seq, s_next, s_brk, s_cnt, s_expr, s_ret, s_retN, s_if, s_asg1, s_store, List.map_cons, List.map_nil, List.cons_append, List.nil_append, List.length_cons, List.length_nil, List.replicate_succ, List.replicate_zero, Nat.add_sub_cancel, Nat.sub_self, Nat.sub_zero, Nat.reduceAdd, Nat.reduceSub, Nat.zero_add, List.set_cons_succ, List.set_cons_zero, List.getElem?_cons_zero, List.getElem?_cons_succ, Option.some.injEq, exists_eq_left', exists_eq_left, exists_eq_right', U.bl.injEq, U.int.injEq, U.ref.injEq, U.str.injEq, atI_0, atI_1, atI_2, atI_3, atI_4, atI_5, if_true, if_false, true_and, and_true, decide_true, decide_false, Bool.not_true, Bool.not_false, reduceCtorEq, ite_true, ite_false, decide_eq_true_eq, Bool.true_eq_false, Bool.false_eq_true]
  split
  · exact h15 g1.st hs (g1.sc hsc hs) hm hk fun u μ' t g => q u μ' t (g1.trans g)
  · split
    · exact h17 g1.st hs (g1.sc hsc hs) hm fun u μ' t g => q u μ' t (g1.trans g)
    · split
      · refine h18 g1.st hs (g1.sc hsc hs) (by omega) (by simp) fun a μ2 ta g2 => ?_
        have g2' := g1.trans g2
        exact h18 g2'.st hs (g2'.sc hsc hs) (by omega) (by simp) fun b μ3 tb g3 => q _ _ (tm_do ta tb) (g2'.trans g3)
      · refine h18 g1.st hs (g1.sc hsc hs) (by omega) (by simp) fun a μ2 ta g2 => ?_
        have g2' := g1.trans g2
        skip
        refine h7 g2'.snoc (by decide) fun v μ3 v0 v1 g3 g3' _ => ?_
        refine pick_l (s := s) (n := n) (μ0 := μ) (g3'.get get_snoc (by have := g2'.le; omega)) v0 (by simpa using v1) ?_
        intro t ht
        obtain ⟨z, hz, rfl⟩ : ∃ z : Str, z ∈ (["add", "sub", "mul", "equal", "less"] : List Str) ∧ t = .str z := by
          simp only [List.mem_cons, List.not_mem_nil, or_false] at ht
          rcases ht with rfl | rfl | rfl | rfl | rfl <;> exact ⟨_, by simp, rfl⟩
        try walk_at "go"
        exact h18 g3.st hs (g3.sc hsc hs) (by omega) (by simp) fun b μ4 tb g4 => q _ _ (tm_op hz ta tb) (g3.trans g4)
def prm (p : Str × Str) : U := .tup [.str p.1, .str p.2]
theorem prm_facts : ∀ ps : List (Str × Str), pus (ps.map prm) = true ∧ szs (ps.map prm) = 3 * ps.length ∧ dps (ps.map prm) ≤ 1
  | [] => by simp [pus, szs, dps]
  | p :: ps => by
    obtain ⟨a, b, c⟩ := prm_facts ps
    simp [pus, szs, dps, prm, pu, sz, dp, a, b]
    omega
/-- a walk over parameters for their items -/
theorem lc_prm {s : Slots} {μ : Mem} {P v : Nat} {j : Int} {ps : List (Str × Str)} {f : Str × Str → Str} {Q : U → Mem → Prop} {E : Str → Mem → Prop} (hv : v < s.length) (h : μ[P]? = some (.lst (ps.map prm))) (hl : ps.length ≤ 60)
    (hj : ∀ p : Str × Str, atI [U.str p.1, .str p.2] j = some (.str (f p))) (q : Q (.ref μ.length) (μ ++ [.lst ((ps.map f).map U.str)])) : wpE (lcGo (.live P) [v] (.one v) tAll (fOp ixU (fVar v) (fC (.int j))) s μ.length fuelF 0 (μ ++ [.lst []])) Q E := by
  have hP := get_lt h
  refine lc_go (fun i μ' => i ≤ ps.length ∧ μ' = μ ++ [.lst (((ps.take i).map f).map U.str)]) ps.length (by omega) ⟨by omega, by simp⟩ (fun i μ h => h.1) ?_
  rintro i μ' ⟨hi, rfl⟩
  rw [item_live (get_snoc_lt h)]
  by_cases e : i < ps.length
  · right
    refine ⟨prm ps[i], _, by simp [e], rfl, ?_⟩
    simp only [wipeU, prm]
    have gs : ((s.set v none).set v (some (.tup [U.str ps[i].1, .str ps[i].2])))[v]? = some (some (.tup [U.str ps[i].1, .str ps[i].2])) := by simp [hv]
    simp (config := {decide := true}) only [gs, w_run, w_op, w_c, w_var, w_call, w_def, w_anil, w_acons, w_tup, w_lst, w_int, w_intB, w_lenT, w_addI, w_subI, w_modI, w_mulI, w_ltI, w_leI, w_gtI, w_geI, w_eq, w_ne, w_ixT, w_if, w_nt, w_an, w_or, w_all, w_tstB, w_tst, w_app, w_lc, w_for, w_iseqT, w_rg1, w_rev1, w_d0, Dg.eq_str, Dg.eq_int, s_seq, s_next, s_brk, s_cnt, s_expr, s_ret, s_retN, s_if, s_asg1, s_store, List.map_cons, List.map_nil, List.cons_append, List.nil_append, List.length_cons, List.length_nil, List.replicate_succ, List.replicate_zero, Nat.add_sub_cancel, Nat.sub_self, Nat.sub_zero, Nat.reduceAdd, Nat.reduceSub, Nat.zero_add, List.set_cons_succ, List.set_cons_zero, List.getElem?_cons_zero, List.getElem?_cons_succ, Option.some.injEq, exists_eq_left', exists_eq_left, exists_eq_right', U.bl.injEq, U.int.injEq, U.ref.injEq, U.str.injEq, atI_0, atI_1, atI_2, atI_3, atI_4, atI_5, if_true, if_false, true_and, and_true, decide_true, decide_false, Bool.not_true, Bool.not_false, reduceCtorEq, ite_true, ite_false, decide_eq_true_eq, Bool.true_eq_false, Bool.false_eq_true]
    refine ⟨_, hj _, _, get_snoc, by simp [lim]; omega, by omega, ?_⟩
    have : ps.take (i + 1) = ps.take i ++ [ps[i]] := by simp
    rw [this, List.map_append, List.map_append, List.set_append_right _ _ (Nat.le_refl _), Nat.sub_self]
    rfl
  · left
    refine ⟨by simp; omega, ?_⟩
    rw [List.take_of_length_le (by omega)]
    exact q
theorem in_strsL {t : Str} {r : Nat} {xs : List Str} {μ : Mem} (h : μ[r]? = some (.lst (xs.map U.str))) : inU (.str t) (.ref r) μ = some (xs.any fun x => decide (x = t)) := by
  unfold inU
  simp only [dctU, seqU, h]
  have e : datU μ (.str t) = some (.str t) := rfl
  have e2 : ∀ {g : Nat → Option PyData}, ∀ xs : List Str, toDs g (xs.map U.str) = some (xs.map PyData.str) := by
    intro g xs
    induction xs with
    | nil => rfl
    | cons x xs ih => simp [toDs, toD, ih]
  rw [e, e2]
  simp only
  rw [if_pos (by simp [PyData.depth])]
  congr 1
  rw [List.any_map]
  congr 1
theorem Sc.putc {m sc : Nat} {μ : Mem} {x : Str} {b : U} {kvs : List (Key × U)} (h : μ[sc]? = some (.dct kvs)) (hs : Sc m μ sc) (hm : m + 1 ≤ 60) (hx : PyData.strOk x = true) (hb : Bd b) : Sc (m + 1) (μ.set sc (.dct (putU kvs (.inr x) b))) sc := by
  obtain ⟨kvs', h1, h2, h3, h4⟩ := hs
  rw [h] at h1
  cases h1
  exact ⟨_, get_set h, by have := putU_len (kvs := kvs) (k := .inr x) (u := b); omega, hm, putU_all h4 fun p e1 e2 => ⟨⟨x, e1, hx⟩, e2 ▸ hb⟩⟩
theorem putU_two {kvs : List (Key × U)} {k : Key} {u w : U} : (putU (putU kvs k u) k w).length = (putU kvs k u).length := by
  have : (putU kvs k u).any (fun kv => decide (kv.1 = k)) = true := by
    unfold putU
    split
    · rename_i h
      obtain ⟨p, hp, hk⟩ := List.any_eq_true.mp h
      refine List.any_eq_true.mpr ⟨_, List.mem_map.mpr ⟨p, hp, rfl⟩, ?_⟩
      have hk' : p.1 = k := by simpa using hk
      simp [hk']
    · simp
  rw [putU, if_pos this, List.length_map]
theorem proc_s {C : Calls} {d : Nat} (h7 : NextS (C 7)) (h12 : InnerS (C 12)) (h13 : PoolS (C 13)) (h18 : TermS d (C 18)) : TermS (d + 1) (runDef 14 (b__law_proc C)) := by
  intro s n m sc μ kd Q E h hs hsc hm hk q
  have ls := h.lt
  obtain ⟨kvs, hkv, hk2, hk3, hk4⟩ := id hsc
  unfold b__law_proc
  simp (config := {decide := true}) only [cast1, w_run, w_op, w_c, w_var, w_call, w_def, w_anil, w_acons, w_tup, w_lst, w_int, w_intB, w_lenT, w_addI, w_subI, w_modI, w_mulI, w_ltI, w_leI, w_gtI, w_geI, w_eq, w_ne, w_ixT, w_if, w_nt, w_an, w_or, w_all, w_tstB, w_tst, w_app, w_lc, w_for, w_iseqT, w_rg1, w_rev1, w_d0, Dg.eq_str, Dg.eq_int, s_seq, s_next, s_brk, s_cnt, s_expr, s_ret, s_retN, s_if, s_asg1, s_store, List.map_cons, List.map_nil, List.cons_append, List.nil_append, List.length_cons, List.length_nil, List.replicate_succ, List.replicate_zero, Nat.add_sub_cancel, Nat.sub_self, Nat.sub_zero, Nat.reduceAdd, Nat.reduceSub, Nat.zero_add, List.set_cons_succ, List.set_cons_zero, List.getElem?_cons_zero, List.getElem?_cons_succ, Option.some.injEq, exists_eq_left', exists_eq_left, exists_eq_right', U.bl.injEq, U.int.injEq, U.ref.injEq, U.str.injEq, atI_0, atI_1, atI_2, atI_3, atI_4, atI_5, if_true, if_false, true_and, and_true, decide_true, decide_false, Bool.not_true, Bool.not_false, reduceCtorEq, ite_true, ite_false, decide_eq_true_eq, Bool.true_eq_false, Bool.false_eq_true]
  have g1 := (G.refl h).snoc (c := .lst [])
  rw [w_dictD (g1.get hkv hs)]
  have g2 := g1.snoc (c := .dct kvs)
  refine h7 g2 (by decide) fun v μ1 v0 v1 g3 g3' _ => ?_
  refine ⟨v, rfl, by unfold okR; simp; omega, ?_⟩
  have l3 := g3'.le
  simp at l3
  refine for_go (fun i s' μ' => i ≤ v.toNat ∧ (∃ x y z, s' = [some (.ref s), some (.str kd), some (.ref sc), some (.int (d + 1 : Nat)), some (.ref μ.length), some (.ref (μ.length + 1)), x, y, z, none, none, none, none, none]) ∧ ∃ ps : List (Str × Str), ps.length ≤ i ∧ μ'[μ.length]? = some (.lst (ps.map prm)) ∧ Sc (m + i) μ' (μ.length + 1) ∧ G s n μ μ') v.toNat (by omega) ⟨by omega, ⟨none, none, none, by simp⟩, [], by simp, g3'.get (get_snoc_lt get_snoc) (by omega), g3'.sc ⟨kvs, by simpa using (get_snoc (μ := μ ++ [Cell.lst []]) (c := .dct kvs)), by omega, by omega, hk4⟩ (by omega), g3⟩ (fun i _ μ h => h.1) ?_
  rintro i s' μ2 ⟨hi, ⟨x, y, z, rfl⟩, ps, p1, p2, p3, p4⟩
  rw [item_rng]
  by_cases e : i < v.toNat
  · right
    refine ⟨_, _, by rw [if_pos e], rfl, ?_⟩
    walk_at "go"
    refine h13 p4 fun nm μ3 onm g5 g5' => ?_
    try walk_at "go"
    have l5 := g5'.le
    have lP := get_lt p2
    refine h7 g5.snoc (by decide) fun w μ4 w0 w1 g6 g6' _ => ?_
    have l6 := g6'.le
    simp at l6
    refine pick_l (s := s) (n := n) (μ0 := μ) (g6'.get get_snoc (by omega)) w0 (by simpa using w1) ?_
    have g7 : G s n μ2 μ4 := g5'.trans (G.snoc (G.refl g5.st) |>.trans g6')
    intro t ht
    obtain ⟨o, rfl⟩ : ∃ o : Str, t = .str o := by
      simp only [List.mem_cons, List.not_mem_nil, or_false] at ht
      rcases ht with rfl | rfl | rfl <;> exact ⟨_, rfl⟩
    walk_at "go"
    have pP := g7.get p2 (by omega)
    refine ⟨_, listAt_L pP, ?_⟩
    refine lc_prm (by simp) pP (by omega) (f := Prod.fst) (fun p => Dg.atI_0) ?_
    simp only [w_nin, in_strsL get_snoc]
    walk_at "go"
    have g8 := g6.snoc (c := .lst ((ps.map Prod.fst).map U.str))
    have g8' := g7.snoc (c := .lst ((ps.map Prod.fst).map U.str))
    have pP' := g8'.get p2 (by omega)
    have pS := g8'.sc p3 (by omega)
    split
    · simp (config := {decide := true}) only [lstU_L pP', w_run, w_op, w_c, w_var, w_call, w_def, w_anil, w_acons, w_tup, w_lst, w_int, w_intB, w_lenT, w_addI, w_subI, w_modI, w_mulI, w_ltI, w_leI, w_gtI, w_geI, w_eq, w_ne, w_ixT, w_if, w_nt, w_an, w_or, w_all, w_tstB, w_tst, w_app, w_lc, w_for, w_iseqT, w_rg1, w_rev1, w_d0, Dg.eq_str, Dg.eq_int, s_seq, s_next, s_brk, s_cnt, s_expr, s_ret, s_retN, s_if, s_asg1, s_store, List.map_cons, List.map_nil, List.cons_append, List.nil_append, List.length_cons, List.length_nil, List.replicate_succ, List.replicate_zero, Nat.add_sub_cancel, Nat.sub_self, Nat.sub_zero, Nat.reduceAdd, Nat.reduceSub, Nat.zero_add, List.set_cons_succ, List.set_cons_zero, List.getElem?_cons_zero, List.getElem?_cons_succ, Option.some.injEq, exists_eq_left', exists_eq_left, exists_eq_right', U.bl.injEq, U.int.injEq, U.ref.injEq, U.str.injEq, atI_0, atI_1, atI_2, atI_3, atI_4, atI_5, if_true, if_false, true_and, and_true, decide_true, decide_false, Bool.not_true, Bool.not_false, reduceCtorEq, ite_true, ite_false, decide_eq_true_eq, Bool.true_eq_false, Bool.false_eq_true]
      rw [w_append pP' (by simp [lim]; omega)]
      obtain ⟨kv2, q1, q2, q3, q4⟩ := id pS
      have q1' := get_set_ne (i := μ.length) (c := .lst (ps.map prm ++ [.tup [.str nm, .str o]])) q1 (by omega)
      have hlP := get_lt pP'
      refine ⟨_, stU_D q1' (by simp [lim]; omega), ?_⟩
      have g9 : G s n μ ((μ4 ++ [Cell.lst ((ps.map Prod.fst).map U.str)]).set μ.length (.lst (ps.map prm ++ [.tup [.str nm, .str o]]))) := g8.put (by omega)
      have g10 := g9.put (i := μ.length + 1) (c := .dct (putU kv2 (.inr nm) (.tup [.str "call", .tup [], .str o]))) (by omega)
      have fin : ∀ (μ5 : Mem) (sl : Slots), (∃ x y z, sl = [some (.ref s), some (.str kd), some (.ref sc), some (.int (d + 1 : Nat)), some (.ref μ.length), some (.ref (μ.length + 1)), x, y, z, none, none, none, none, none]) → μ5[μ.length]? = some (.lst (ps.map prm ++ [.tup [.str nm, .str o]])) → Sc (m + (i + 1)) μ5 (μ.length + 1) → G s n μ μ5 → (i + 1 ≤ v.toNat ∧ (∃ x y z, sl = [some (.ref s), some (.str kd), some (.ref sc), some (.int (d + 1 : Nat)), some (.ref μ.length), some (.ref (μ.length + 1)), x, y, z, none, none, none, none, none]) ∧ ∃ ps : List (Str × Str), ps.length ≤ i + 1 ∧ μ5[μ.length]? = some (.lst (ps.map prm)) ∧ Sc (m + (i + 1)) μ5 (μ.length + 1) ∧ G s n μ μ5) := by
        intro μ5 sl hsl a b c
        exact ⟨by omega, hsl, ps ++ [(nm, o)], by simp; omega, by simpa [prm] using a, b, c⟩
      have pS2 : Sc (m + i) ((μ4 ++ [Cell.lst ((ps.map Prod.fst).map U.str)]).set μ.length (.lst (ps.map prm ++ [.tup [.str nm, .str o]]))) (μ.length + 1) := ⟨kv2, q1', q2, q3, q4⟩
      split
      · refine ⟨_, stU_D (get_set q1') (by have := putU_len (kvs := kv2) (k := .inr nm) (u := (.tup [.str "call", .tup [], .str o])); simp [lim]; omega), ?_⟩
        refine fin _ _ ⟨_, _, _, rfl⟩ (get_set_ne (get_set_ne (get_set pP') (by omega)) (by omega)) ?_ (g10.put (by omega))
        refine ⟨_, get_set (get_set q1'), by rw [putU_two]; have := putU_len (kvs := kv2) (k := .inr nm) (u := (.tup [.str "call", .tup [], .str o])); omega, by omega, ?_⟩
        exact putU_all (putU_all q4 fun p e1 e2 => ⟨⟨nm, e1, onm⟩, e2 ▸ .call [] o (by simp)⟩) fun p e1 e2 => ⟨⟨nm, e1, onm⟩, e2 ▸ .var⟩
      · exact fin _ _ ⟨_, _, _, rfl⟩ (get_set_ne (get_set pP') (by omega)) (Sc.putc (m := m + i) q1' pS2 (by omega) onm (.call [] o (by simp))) g10
    · exact ⟨by omega, ⟨_, _, _, rfl⟩, ps, by omega, pP', pS.mono (by omega) (by omega), g8⟩
  · left
    refine ⟨by rw [if_neg e], ?_⟩
    simp (config := {decide := true}) only [cast1, w_run, w_op, w_c, w_var, w_call, w_def, w_anil, w_acons, w_tup, w_lst, w_int, w_intB, w_lenT, w_addI, w_subI, w_modI, w_mulI, w_ltI, w_leI, w_gtI, w_geI, w_eq, w_ne, w_ixT, w_if, w_nt, w_an, w_or, w_all, w_tstB, w_tst, w_app, w_lc, w_for, w_iseqT, w_rg1, w_rev1, w_d0, Dg.eq_str, Dg.eq_int, s_seq, s_next, s_brk, s_cnt, s_expr, s_ret, s_retN, s_if, s_asg1, s_store, List.map_cons, List.map_nil, List.cons_append, List.nil_append, List.length_cons, List.length_nil, List.replicate_succ, List.replicate_zero, Nat.add_sub_cancel, Nat.sub_self, Nat.sub_zero, Nat.reduceAdd, Nat.reduceSub, Nat.zero_add, List.set_cons_succ, List.set_cons_zero, List.getElem?_cons_zero, List.getElem?_cons_succ, Option.some.injEq, exists_eq_left', exists_eq_left, exists_eq_right', U.bl.injEq, U.int.injEq, U.ref.injEq, U.str.injEq, atI_0, atI_1, atI_2, atI_3, atI_4, atI_5, if_true, if_false, true_and, and_true, decide_true, decide_false, Bool.not_true, Bool.not_false, reduceCtorEq, ite_true, ite_false, decide_eq_true_eq, Bool.true_eq_false, Bool.false_eq_true]
    have lP := get_lt p2
    refine h7 p4.snoc (by decide) fun w μ4 w0 w1 g6 g6' _ => ?_
    have l6 := g6'.le
    simp at l6
    refine pick_l (s := s) (n := n) (μ0 := μ) (g6'.get get_snoc (by omega)) w0 (by simpa using w1) ?_
    have g7 : G s n μ2 μ4 := (G.refl p4.st).snoc.trans g6'
    intro t ht
    obtain ⟨o, ho, rfl⟩ : ∃ o : Str, o ∈ (["com", "exp"] : List Str) ∧ t = .str o := by
      simp only [List.mem_cons, List.not_mem_nil, or_false] at ht
      rcases ht with rfl | rfl <;> exact ⟨_, by simp, rfl⟩
    refine h13 g6 fun nm μ5 onm g8 g8' => ?_
    skip
    have g9 := g7.trans g8'
    have pP := g9.get p2 (by omega)
    refine ⟨_, listAt_L pP, ?_⟩
    refine lc_prm (by simp) pP (by omega) (f := Prod.snd) (fun p => Dg.atI_1) ?_
    rw [w_tupleL get_snoc]
    have g10 := g8.snoc (c := .lst ((ps.map Prod.snd).map U.str))
    have g11 := g9.snoc (c := .lst ((ps.map Prod.snd).map U.str))
    refine h12 g10.st hs (g10.sc hsc hs) (by omega) onm (.call (ps.map Prod.snd) o (by simp; omega)) fun r μ6 hr sc6 g12 => ?_
    skip
    have g13 := g11.trans g12
    refine h18 g12.st (by omega) (g13.sc p3 (by omega)) (by omega) ho fun a μ7 ta g14 => ?_
    skip
    have g15 := g13.trans g14
    rw [w_tupleL (g15.get p2 (by omega))]
    refine h18 g14.st hr (g14.sc sc6 hr) (by omega) hk fun b μ8 tb g16 => ?_
    obtain ⟨f1, f2, f3⟩ := prm_facts ps
    exact q _ _ (tm_prc (by simpa [pu] using f1) (by simp [sz, f2]; omega) (by simp [dp]; omega) ta tb) (((g10.trans g12).trans g14).trans g16)
/-- a declaration -/
structure Dcl (x : Str) (u : U) : Prop where
  ok : PyData.strOk x = true
  ex : ∃ (ts : List Str) (k : Str), u = .tup [.str x, .tup (ts.map U.str), .str k] ∧ ts.length ≤ 2
def DsOk (ds : List U) : Prop := ds.length ≤ 3 ∧ ∀ u ∈ ds, ∃ x, Dcl x u
def ScopeS (g : List U → Mem → Res U) : Prop := ∀ {s n : Nat} {μ : Mem} {ds : List U} {Q : U → Mem → Prop} {E : Str → Mem → Prop}, St s n μ → DsOk ds →
  (∀ r μ', r ≠ s → Sc 3 μ' r → G s n μ μ' → Q (.ref r) μ') → wpE (g [.tup ds] μ) Q E
theorem scope_s {C : Calls} : ScopeS (runDef 3 (b__law_scope C)) := by
  intro s n μ ds Q E h hds q
  have ls := h.lt
  unfold b__law_scope
  try walk_at "go"
  refine for_go (fun i s' μ' => i ≤ ds.length ∧ (∃ x, s' = [some (.tup ds), some (.ref μ.length), x]) ∧ Sc i μ' μ.length ∧ G s n μ μ') ds.length (by have := hds.1; omega) ⟨by omega, ⟨_, rfl⟩, ⟨[], get_snoc, by simp, by omega, by simp⟩, (G.refl h).snoc⟩ (fun i _ μ h => h.1) ?_
  rintro i s' μ' ⟨hi, ⟨x, rfl⟩, hsc, g⟩
  rw [item_seq]
  by_cases e : i < ds.length
  · right
    obtain ⟨x, ox, ts, k, hu, ht⟩ := hds.2 ds[i] (List.getElem_mem e)
    refine ⟨ds[i], _, by simp [e], rfl, ?_⟩
    obtain ⟨kvs, h1, h2, h3, h4⟩ := id hsc
    have h31 := hds.1
    rw [hu]
    try walk_at "go"
    refine ⟨_, stU_D h1 (by simp [lim]; omega), ?_⟩
    exact ⟨by omega, ⟨_, rfl⟩, Sc.putc h1 hsc (by omega) ox (.call ts k ht), g.put (by omega)⟩
  · left
    refine ⟨by simp; omega, ?_⟩
    try walk_at "go"
    exact q _ _ (by omega) (hsc.mono (by have := hds.1; omega) (by omega)) g
def DeclsS (g : List U → Mem → Res U) : Prop := ∀ {s n : Nat} {μ : Mem} {Q : U → Mem → Prop} {E : Str → Mem → Prop}, St s n μ → (∀ ds μ', DsOk ds → G s n μ μ' → Q (.tup ds) μ') → wpE (g [.ref s] μ) Q E
theorem decls_s {C : Calls} (h7 : NextS (C 7)) (h13 : PoolS (C 13)) : DeclsS (runDef 6 (b__law_decls C)) := by
  intro s n μ Q E h q
  have ls := h.lt
  unfold b__law_decls
  try walk_at "go"
  have g1 := (G.refl h).snoc (c := .dct [])
  refine h7 g1 (by decide) fun v μ1 v0 v1 g3 g3' _ => ?_
  refine ⟨v, rfl, by unfold okR; simp; omega, ?_⟩
  have l3 := g3'.le
  simp at l3
  refine for_go (fun i s' μ' => i ≤ v.toNat ∧ (∃ x y z, s' = [some (.ref s), some (.ref μ.length), x, y, z, none]) ∧ (∃ kvs : List (Key × U), μ'[μ.length]? = some (.dct kvs) ∧ kvs.length ≤ i ∧ ∀ p ∈ kvs, ∃ x, p.1 = .inr x ∧ Dcl x p.2) ∧ G s n μ μ') v.toNat (by omega) ⟨by omega, ⟨none, none, none, by simp⟩, ⟨[], g3'.get get_snoc (by omega), by simp, by simp⟩, g3⟩ (fun i _ μ h => h.1) ?_
  rintro i s' μ2 ⟨hi, ⟨x, y, z, rfl⟩, ⟨kvs, k1, k2, k3⟩, p4⟩
  have lk := get_lt k1
  rw [item_rng]
  by_cases e : i < v.toNat
  · right
    refine ⟨_, _, by rw [if_pos e], rfl, ?_⟩
    try walk_at "go"
    refine h13 p4 fun nm μ3 onm g5 g5' => ?_
    have l5 := g5'.le
    try walk_at "go"
    refine h7 g5 (by decide) fun w μ4 w0 w1 g6 g6' _ => ?_
    refine ⟨w, rfl, by unfold okR; simp; omega, ?_⟩
    have l6 := g6'.le
    have gA : G s n μ2 μ4 := g5'.trans g6'
    refine lc_go (fun j μ' => j ≤ w.toNat ∧ (∃ ts : List Str, ts.length = j ∧ μ'[μ4.length]? = some (.lst (ts.map U.str))) ∧ G s n μ2 μ') w.toNat (by omega) ⟨by omega, ⟨[], rfl, get_snoc⟩, gA.snoc⟩ (fun i μ h => h.1) ?_
    rintro j μ5 ⟨hj, ⟨ts, t1, t2⟩, g7⟩
    have lt5 := get_lt t2
    rw [item_rng]
    by_cases ej : j < w.toNat
    · right
      refine ⟨_, _, by rw [if_pos ej], rfl, ?_⟩
      simp only [wipeU]
      try walk_at "go"
      refine h7 g7.snoc (by decide) fun a μ6 a0 a1 g8 g8' _ => ?_
      refine pick_l (s := s) (n := n) (μ0 := μ) (g8'.get get_snoc (by omega)) a0 (by simpa using a1) ?_
      intro t ht
      obtain ⟨o, rfl⟩ : ∃ o : Str, t = .str o := by
        simp only [List.mem_cons, List.not_mem_nil, or_false] at ht
        rcases ht with rfl | rfl | rfl <;> exact ⟨_, rfl⟩
      have t2' := g8'.get (get_snoc_lt t2) (by omega)
      refine ⟨_, t2', by simp [lim]; omega, by omega, ⟨ts ++ [o], by simp [t1], by simpa using get_set t2'⟩, g8.put (by omega)⟩
    · left
      refine ⟨by rw [if_neg ej], ?_⟩
      rw [w_tupleL t2]
      try walk_at "go"
      have g9 := p4.trans g7
      refine h7 (g7.snoc (c := .lst [U.str "com", U.str "exp"])) (by decide) fun a μ6 a0 a1 g10 g10' _ => ?_
      refine pick_l (s := s) (n := n) (μ0 := μ) (g10'.get get_snoc (by omega)) a0 (by simpa using a1) ?_
      intro t ht
      obtain ⟨o, rfl⟩ : ∃ o : Str, t = .str o := by
        simp only [List.mem_cons, List.not_mem_nil, or_false] at ht
        rcases ht with rfl | rfl <;> exact ⟨_, rfl⟩
      try walk_at "go"
      have k1' := g10.get k1 (by omega)
      refine ⟨_, stU_D k1' (by simp [lim]; omega), by omega, ⟨_, _, _, rfl⟩, ⟨_, get_set k1', by have := putU_len (kvs := kvs) (k := .inr nm) (u := (.tup [.str nm, .tup (ts.map U.str), .str o])); omega, ?_⟩, (p4.trans g10).put (by omega)⟩
      exact putU_all k3 fun p e1 e2 => ⟨nm, e1, onm, ts, o, e2, by omega⟩
  · left
    refine ⟨by rw [if_neg e], ?_⟩
    try walk_at "go"
    obtain ⟨ks, q1, q2, q3⟩ := keysS_of (kvs := kvs) fun p hp => by obtain ⟨x, e, d⟩ := k3 p hp; exact ⟨x, e, d.ok⟩
    have hp := sortS_perm ks
    have es : bSorted [.ref μ.length] μ2 = .ok (.ref μ2.length) (μ2 ++ [.lst ((sortS ks).map U.str)]) := by
      unfold bSorted
      simp only [k1, q1]
      rw [if_pos ⟨by omega, by rw [List.all_eq_true]; exact fun x hx => (q2 x hx).1⟩]
    refine wpE.of es ?_
    simp only
    refine ⟨_, listAt_L get_snoc, ?_⟩
    have hlen := hp.length_eq
    have e1 : (μ2 ++ [Cell.lst ((sortS ks).map U.str)]).length = μ2.length + 1 := by simp
    refine lc_go (fun j μ' => j ≤ (sortS ks).length ∧ (∃ acc : List U, acc.length = j ∧ (∀ u ∈ acc, ∃ x, Dcl x u) ∧ μ'[μ2.length + 1]? = some (.lst acc)) ∧ μ'[μ2.length]? = some (.lst ((sortS ks).map U.str)) ∧ G s n μ2 μ') (sortS ks).length (by omega) ⟨by omega, ⟨[], rfl, by simp, by simp⟩, get_snoc_lt get_snoc, ((G.refl p4.st).snoc).snoc⟩ (fun i μ h => h.1) ?_
    rintro j μ5 ⟨hj, ⟨acc, t1, t3, t2⟩, t4, g7⟩
    rw [item_live t4]
    by_cases ej : j < (sortS ks).length
    · right
      refine ⟨.str (sortS ks)[j], _, by simp [ej], rfl, ?_⟩
      simp only [wipeU]
      try walk_at "go"
      rw [w_ixD (g7.get k1 (by omega))]
      obtain ⟨_, hex⟩ := q2 (sortS ks)[j] (hp.mem_iff.mp (List.getElem_mem ej))
      obtain ⟨u, hu, x, dx⟩ := valU_of (P := fun u => ∃ x, Dcl x u) (fun p hp => by obtain ⟨x, e, d⟩ := k3 p hp; exact ⟨x, d⟩) hex
      refine ⟨u, hu, acc, by simpa using t2, by simp [lim]; omega, by omega, ⟨acc ++ [u], by simp [t1], ?_, by simpa using get_set t2⟩, get_set_ne t4 (by simp), g7.put (by simp)⟩
      intro w hw
      rcases List.mem_append.mp hw with e | e
      · exact t3 w e
      · rw [List.mem_singleton.mp e]; exact ⟨x, dx⟩
    · left
      refine ⟨by simp; omega, ?_⟩
      rw [w_tupleL (by simpa using t2)]
      exact q _ _ ⟨by omega, t3⟩ (p4.trans g7)
def PieceS (d : Nat) (g : List U → Mem → Res U) : Prop := ∀ {s n : Nat} {μ : Mem} {Q : U → Mem → Prop} {E : Str → Mem → Prop}, St s n μ →
  (∀ ds kd u μ', DsOk ds → kd ∈ (["com", "exp"] : List Str) → TM d u → G s n μ μ' → Q (.tup [.tup ds, .str kd, u]) μ') → wpE (g [.ref s, .int d] μ) Q E
theorem piece_s {C : Calls} {d : Nat} (hd : d ≤ 20) (h7 : NextS (C 7)) (h18 : TermS d (C 18)) (h19 : DeclsS (C 19)) (h20 : ScopeS (C 20)) : PieceS d (runDef 4 (b__law_piece C)) := by
  intro s n μ Q E h q
  have ls := h.lt
  unfold b__law_piece
  try walk_at "go"
  refine h19 h fun ds μ1 hds g1 => ?_
  have l1 := g1.le
  refine h7 g1.snoc (by decide) fun a μ2 a0 a1 g2 g2' _ => ?_
  refine pick_l (s := s) (n := n) (μ0 := μ) (g2'.get get_snoc (by omega)) a0 (by simpa using a1) ?_
  intro t ht
  obtain ⟨o, ho, rfl⟩ : ∃ o : Str, o ∈ (["com", "exp"] : List Str) ∧ t = .str o := by
    simp only [List.mem_cons, List.not_mem_nil, or_false] at ht
    rcases ht with rfl | rfl <;> exact ⟨_, by simp, rfl⟩
  try walk_at "go"
  refine h20 g2.st hds fun r μ3 hr sc g3 => ?_
  exact h18 g3.st hr sc (by omega) ho fun u μ4 tu g4 => q _ _ _ _ hds ho tu ((g2.trans g3).trans g4)
/-- all that there was stays -/
structure Fr (μ μ' : Mem) : Prop where
  le : μ.length ≤ μ'.length
  at_ : ∀ (i : Nat) (c : Cell), μ[i]? = some c → μ'[i]? = some c
section
variable {μ μ' μ'' : Mem}
theorem Fr.refl : Fr μ μ := ⟨Nat.le_refl _, fun _ _ h => h⟩
theorem Fr.trans (a : Fr μ μ') (b : Fr μ' μ'') : Fr μ μ'' := ⟨Nat.le_trans a.le b.le, fun i c h => b.at_ i c (a.at_ i c h)⟩
theorem Fr.snoc {c : Cell} (a : Fr μ μ') : Fr μ (μ' ++ [c]) := ⟨by have := a.le; simp; omega, fun i d h => get_snoc_lt (a.at_ i d h)⟩
theorem Fr.put {c : Cell} {i : Nat} (a : Fr μ μ') (h : μ.length ≤ i) : Fr μ (μ'.set i c) := ⟨by simpa using a.le, fun j d hj => get_set_ne (a.at_ j d hj) (by have := get_lt hj; omega)⟩
theorem Fr.g {s n : Nat} (a : Fr μ μ') (h : St s n μ) : G s n μ μ' := by
  obtain ⟨ne, c, nums, h1, h2, h3⟩ := id h
  refine ⟨⟨a.le, fun i hi _ => ?_⟩, h, ⟨ne, c, nums, a.at_ _ _ h1, a.at_ _ _ h2, h3⟩⟩
  rw [List.getElem?_eq_getElem hi]
  exact a.at_ _ _ (List.getElem?_eq_getElem hi)
end
def isq : U → Bool
  | .tup (.str t :: _) => decide (t = "seq")
  | _ => false
def ssq : U → Bool
  | .tup [.str t, a, _] => decide (t = "seq") && isq a
  | _ => false
theorem WT.hd {u : U} (h : WT u) : ∃ t r, u = .tup (.str t :: r) ∧ isq u = decide (t = "seq") := by
  cases h with
  | mk n _ _ => cases n <;> exact ⟨_, _, rfl, rfl⟩
def lv (u : U) (l : Int) (i : Nat) : Int := if i = 0 ∧ ssq u = true then l else l + 1
theorem lv_s {u : U} {l : Int} {i : Nat} (h : i ≠ 0) : lv u l i = l + 1 := by simp [lv, h]
abbrev Tr := Str × U × Int
def tri (x : Tr) : U := .tup [.str x.1, x.2.1, .int x.2.2]
def nx (u : U) (l : Int) (ps : List (Str × U)) : List Tr := ps.zipIdx.map fun p => (p.1.1, p.1.2, lv u l p.2)
theorem nx_len {u : U} {l : Int} {ps : List (Str × U)} : (nx u l ps).length = ps.length := by simp [nx]
theorem nx_at {u : U} {l : Int} {ps : List (Str × U)} {i : Nat} (h : i < ps.length) : (nx u l ps)[i]'(by rw [nx_len]; exact h) = (ps[i].1, ps[i].2, lv u l i) := by simp [nx]
inductive Wk : List Tr → List Tr → Prop
  | nil : Wk [] []
  | cons {k : Str} {u : U} {l : Int} {ks : Str → List (Str × U)} {rest out : List Tr} : Nd u ks → WT u → (∀ p ∈ ks k, WT p.2) → (ks k).length ≤ 3 → Wk (rest ++ (nx u l (ks k)).reverse) out → Wk (rest ++ [(k, u, l)]) ((k, u, l) :: out)
def szt : List Tr → Nat
  | [] => 0
  | x :: r => sz x.2.1 + szt r
theorem szt_app {a b : List Tr} : szt (a ++ b) = szt a + szt b := by
  induction a with
  | nil => simp [szt]
  | cons x a ih => simp [szt, ih]; omega
theorem szt_rev {a : List Tr} : szt a.reverse = szt a := by
  induction a with
  | nil => rfl
  | cons x a ih => simp [szt_app, szt, ih]; omega
theorem szt_nx {u : U} {l : Int} {ps : List (Str × U)} : szt (nx u l ps) = szk ps := by
  unfold nx
  suffices h : ∀ n, szt ((ps.zipIdx n).map fun p => (p.1.1, p.1.2, lv u l p.2)) = szk ps from h 0
  induction ps with
  | nil => intro n; rfl
  | cons p ps ih => intro n; simp [List.zipIdx_cons, szt, szk, ih]
theorem mem_nx {u : U} {l : Int} {ps : List (Str × U)} {x : Tr} (h : x ∈ nx u l ps) : (x.1, x.2.1) ∈ ps := by
  obtain ⟨i, hi, rfl⟩ := List.mem_iff_getElem.mp h
  rw [nx_len] at hi
  rw [nx_at hi]
  exact List.getElem_mem hi
def NdOk (D : Nat) (x : Tr) : Prop := WT x.2.1 ∧ pu x.2.1 = true ∧ dp x.2.1 ≤ D
theorem wk_all {D : Nat} : ∀ (N : Nat) (st : List Tr), szt st ≤ N → (∀ x ∈ st, NdOk D x) → ∃ out, Wk st out ∧ out.length ≤ szt st ∧ ∀ x ∈ out, NdOk D x := by
  intro N
  induction N with
  | zero =>
    intro st h hs
    rcases List.eq_nil_or_concat st with rfl | ⟨r, x, rfl⟩
    · exact ⟨[], .nil, by simp, by simp⟩
    · rw [List.concat_eq_append, szt_app] at h
      obtain ⟨w, _, _⟩ := hs x (by simp)
      obtain ⟨t, r, e, _⟩ := w.hd
      simp only [szt] at h
      rw [e] at h
      simp [sz] at h
  | succ N ih =>
    intro st h hs
    rcases List.eq_nil_or_concat st with rfl | ⟨r, ⟨k, u, l⟩, rfl⟩
    · exact ⟨[], .nil, by simp, by simp⟩
    · rw [List.concat_eq_append] at *
      obtain ⟨w, p, d⟩ := hs (k, u, l) (by simp)
      obtain ⟨ks, nd, hk⟩ : ∃ ks, Nd u ks ∧ ∀ k p, p ∈ ks k → WT p.2 := by
        cases w with
        | mk n a b => exact ⟨_, n, a⟩
      obtain ⟨f1, f2, f3⟩ := nd.facts p k
      have e1 : szt (r ++ [(k, u, l)]) = szt r + sz u := by rw [szt_app]; simp [szt]
      have e2 : szt (r ++ (nx u l (ks k)).reverse) = szt r + szk (ks k) := by rw [szt_app, szt_rev, szt_nx]
      obtain ⟨out, o1, o2, o3⟩ := ih (r ++ (nx u l (ks k)).reverse) (by omega) (by
        intro x hx
        rcases List.mem_append.mp hx with m | m
        · exact hs x (by simp [m])
        · have := mem_nx (List.mem_reverse.mp m)
          obtain ⟨a, b⟩ := f1 _ this
          exact ⟨hk k _ this, a, Nat.le_trans b d⟩)
      refine ⟨_, .cons nd w (hk k) f3 o1, by simp only [List.length_cons]; omega, ?_⟩
      intro x hx
      rcases List.mem_cons.mp hx with rfl | hx
      · exact ⟨w, p, d⟩
      · exact o3 x hx
def KidsS' (g : List U → Mem → Res U) : Prop := ∀ {u : U} {ks : Str → List (Str × U)} {k : Str} {μ : Mem} {Q : U → Mem → Prop} {E : Str → Mem → Prop}, Nd u ks → Q (.ref μ.length) (μ ++ [.lst ((ks k).map pr)]) → wpE (g [u, .str k] μ) Q E
theorem w_mulL {a : Nat} {m : Nat} {x : U} {μ : Mem} {Q : U → Mem → Prop} {E : Str → Mem → Prop} (h : μ[a]? = some (.lst [x])) (hm : m ≤ 10) (q : Q (.ref μ.length) (μ ++ [.lst (List.replicate m x)])) : wpE (uMul (.ref a) (.int m) μ) Q E := by
  unfold uMul
  simp only [h]
  rw [if_pos ⟨by omega, by omega, by simp [lim]; omega⟩]
  have : repU (m : Int).toNat [x] = List.replicate m x := by
    simp [repU]
  rw [this]
  exact q
def LvS (g : List U → Mem → Res U) : Prop := ∀ {u : U} {l : Int} {ks : Str → List (Str × U)} {k : Str} {μ : Mem} {Q : U → Mem → Prop} {E : Str → Mem → Prop}, Nd u ks → WT u → (ks k).length ≤ 3 →
  (∀ r μ', Fr μ μ' → μ.length ≤ r → μ'[r]? = some (.lst ((List.range (ks k).length).map fun i => U.int (lv u l i))) → Q (.ref r) μ') → wpE (g [u, .int l, .int (ks k).length] μ) Q E
theorem lv_ok {C : Calls} : LvS (runDef 4 (b_levels_of_parts C)) := by
  intro u l ks k μ Q E nd w h3 q
  unfold b_levels_of_parts
  walk_at "go"
  refine w_mulL get_snoc (by omega) ?_
  obtain ⟨t, r, rfl, hq⟩ := w.hd
  walk_at "go"
  have fr : Fr μ (μ ++ [Cell.lst [U.int (l + 1)]] ++ [Cell.lst (List.replicate (ks k).length (U.int (l + 1)))]) := (Fr.refl.snoc).snoc
  have plain : ssq (.tup (.str t :: r)) = false → List.replicate (ks k).length (U.int (l + 1)) = (List.range (ks k).length).map fun i => U.int (lv (.tup (.str t :: r)) l i) := by
    intro hs
    apply List.ext_getElem
    · simp
    · intro i h1 h2
      simp [lv, hs]
  split
  · rename_i ht
    subst ht
    cases nd with
    | seq a b =>
      obtain ⟨wa, _, _⟩ := w.parts
      obtain ⟨ta, ra, rfl, ha⟩ := wa.hd
      walk_at "go"
      split
      · rename_i hta
        subst hta
        refine ⟨_, stU_L get_snoc (j := 0) rfl, ?_⟩
        refine q _ _ (fr.put (by simp)) (by simp) ?_
        rw [get_set get_snoc]
        rfl
      · rename_i hta
        refine q _ _ fr (by simp) ?_
        have hs : ssq (.tup [.str "seq", .tup (.str ta :: ra), b]) = false := by simp [ssq, isq, hta]
        have := plain hs
        rw [← this]
        exact get_snoc
    | op t a b m => exact absurd m (by decide)
    | z t m => exact absurd m (by decide)
    | x t e m => exact absurd m (by decide)
  · rename_i ht
    refine q _ _ fr (by simp) ?_
    have hs : ssq (.tup (.str t :: r)) = false := by
      unfold ssq
      split
      · rename_i h0
        injection h0 with h0
        injection h0 with h1 h2
        injection h1 with h1
        subst h1
        simp [ht]
      · rfl
    rw [← plain hs]
    exact get_snoc
theorem truL {r : Nat} {us : List U} {μ : Mem} (h : μ[r]? = some (.lst us)) : truU μ (.ref r) = some (!us.isEmpty) := by
  unfold truU; simp only [h]
def WalkS (lim0 : Nat) (g : Str → U → Mem → Res U) : Prop := ∀ {k : Str} {u : U} {out : List Tr} {μ : Mem} {Q : U → Mem → Prop} {E : Str → Mem → Prop}, Wk [(k, u, 1)] out → out.length < lim0 →
  (∀ r μ', Fr μ μ' → μ.length ≤ r → μ'[r]? = some (.lst (out.map tri)) → Q (.ref r) μ') → wpE (g k u μ) Q E
theorem drop_rev {α : Type} {xs : List α} {i : Nat} (h : i < xs.length) : (xs.drop (xs.length - (i + 1))).reverse = (xs.drop (xs.length - i)).reverse ++ [xs[xs.length - 1 - i]] := by
  rw [List.drop_eq_getElem_cons (by omega), List.reverse_cons]
  congr 3
  · omega
  · omega
theorem wk_len {st out : List Tr} (h : Wk st out) : st.length ≤ out.length := by
  induction h with
  | nil => simp
  | cons _ _ _ _ _ ih =>
    simp at ih ⊢
    omega
theorem wk_ne {st out : List Tr} (h : Wk st out) : (st = [] ↔ out = []) := by
  cases h <;> simp
theorem nodes_s {C : Calls} (h0 : ∀ {u : U} {ks : Str → List (Str × U)} {k : Str} {μ : Mem} {Q : U → Mem → Prop} {E : Str → Mem → Prop}, Nd u ks → Q (.ref μ.length) (μ ++ [.lst ((ks k).map pr)]) → wpE (C 0 [u, .str k] μ) Q E) (h1 : LvS (C 1)) : WalkS 900000 fun k u => runDef 12 (b_nodes C) [u, .str k] := by
  intro k u out μ Q E wk hl q
  show wpE (runDef 12 (b_nodes C) [u, .str k] μ) Q E
  unfold b_nodes
  walk_at "go"
  refine while_go (fun m s' μ' => (∃ x1 x2 x3 x4 x5 x6 x7 x8, s' = [some u, some (.str k), some (.ref μ.length), some (.ref (μ.length + 1)), x1, x2, x3, x4, x5, x6, x7, x8]) ∧ ∃ fo st o, Wk st o ∧ m = o.length ∧ fo ++ o = out ∧ μ'[μ.length]? = some (.lst (fo.map tri)) ∧ μ'[μ.length + 1]? = some (.lst (st.map tri)) ∧ Fr μ μ') (m := out.length) (by omega) ⟨⟨none, none, none, none, none, none, none, none, by simp⟩, [], [(k, u, 1)], out, wk, rfl, rfl, get_snoc_lt get_snoc, by simp [tri], (Fr.refl.snoc).snoc⟩ ?_
  rintro m s' μ' ⟨⟨x1, x2, x3, x4, x5, x6, x7, x8, rfl⟩, fo, st, o, wk', rfl, ho, c1, c2, fr⟩
  walk_at "go"
  refine ⟨_, truL c2, ?_⟩
  cases wk' with
  | nil =>
    simp only [List.map_nil, List.isEmpty_nil, Bool.not_true, Bool.false_eq_true, if_false]
    rw [List.append_nil] at ho
    subst ho
    exact q _ _ fr (Nat.le_refl _) c1
  | @cons k' u' l ks rest o nd w hk h3 wk2 =>
    simp only [List.map_append, List.map_cons, List.map_nil] at c2
    have ne : (!(List.map tri (rest ++ [(k', u', l)])).isEmpty) = true := by simp
    simp only [ne, if_true]
    refine ⟨o.length, rfl, ?_⟩
    rw [s_asg]
    walk_at "go"
    refine ⟨_, lstU_L c2, ?_⟩
    rw [w_pop c2]
    refine ⟨_, rfl, ?_⟩
    simp only [setAll]
    have c2' := get_set (c := .lst (rest.map tri)) c2
    have c1' := get_set_ne (i := μ.length + 1) (c := .lst (rest.map tri)) c1 (by omega)
    have fr1 := fr.put (i := μ.length + 1) (c := .lst (rest.map tri)) (by omega)
    have hfo : fo.length < lim := by
      have : fo.length ≤ out.length := by rw [← ho]; simp
      simp [lim]; omega
    simp (config := {decide := true}) only [lstU_L c1', w_run, w_op, w_c, w_var, w_call, w_def, w_anil, w_acons, w_tup, w_lst, w_int, w_intB, w_lenT, w_addI, w_subI, w_modI, w_mulI, w_ltI, w_leI, w_gtI, w_geI, w_eq, w_ne, w_ixT, w_if, w_nt, w_an, w_or, w_all, w_tstB, w_tst, w_app, w_lc, w_for, w_iseqT, w_rg1, w_rev1, w_d0, Dg.eq_str, Dg.eq_int, s_seq, s_next, s_brk, s_cnt, s_expr, s_ret, s_retN, s_if, s_asg1, s_store, List.map_cons, List.map_nil, List.cons_append, List.nil_append, List.length_cons, List.length_nil, List.replicate_succ, List.replicate_zero, Nat.add_sub_cancel, Nat.sub_self, Nat.sub_zero, Nat.reduceAdd, Nat.reduceSub, Nat.zero_add, List.set_cons_succ, List.set_cons_zero, List.getElem?_cons_zero, List.getElem?_cons_succ, Option.some.injEq, exists_eq_left', exists_eq_left, exists_eq_right', U.bl.injEq, U.int.injEq, U.ref.injEq, U.str.injEq, atI_0, atI_1, atI_2, atI_3, atI_4, atI_5, if_true, if_false, true_and, and_true, decide_true, decide_false, Bool.not_true, Bool.not_false, reduceCtorEq, ite_true, ite_false, decide_eq_true_eq, Bool.true_eq_false, Bool.false_eq_true]
    rw [w_append c1' (by simpa using hfo)]
    try walk_at "go"
    refine h0 (k := k') nd ?_
    try walk_at "go"
    have c1'' := get_set (c := .lst (fo.map tri ++ [.tup [.str k', u', .int l]])) c1'
    have c2'' := get_set_ne (i := μ.length) (c := .lst (fo.map tri ++ [.tup [.str k', u', .int l]])) c2' (by omega)
    have fr2 := fr1.put (i := μ.length) (c := .lst (fo.map tri ++ [.tup [.str k', u', .int l]])) (by omega)
    rw [w_lenL get_snoc]
    simp only [List.length_map]
    refine h1 (k := k') nd w h3 fun L μ2 fr3 hL cL => ?_
    have cP := fr3.at_ _ _ get_snoc
    try walk_at "go"
    rw [w_lenL cP]
    simp only [List.length_map]
    refine ⟨_, rfl, by unfold okR; simp; omega, ?_⟩
    have lw := get_lt c2
    simp only [List.length_append, List.length_set, List.length_cons, List.length_nil] at hL cP
    have d1 := fr3.at_ _ _ (get_snoc_lt c1'')
    have d2 := fr3.at_ _ _ (get_snoc_lt c2'')
    have fr4 := fr2.snoc.trans fr3
    have hfm : fo.map tri ++ [.tup [.str k', u', .int l]] = (fo ++ [(k', u', l)]).map tri := by simp [tri]
    rw [hfm] at d1
    have hn := nx_len (u := u') (l := l) (ps := ks k')
    refine for_go (fun i s' μ3 => i ≤ (ks k').length ∧ (∃ x1 x2 x3, s' = [some u, some (.str k), some (.ref μ.length), some (.ref (μ.length + 1)), some (.str k'), some u', some (.int l), some (.ref μ'.length), some (.ref L), x1, x2, x3]) ∧ μ3[μ.length]? = some (.lst ((fo ++ [(k', u', l)]).map tri)) ∧ μ3[μ.length + 1]? = some (.lst ((rest ++ ((nx u' l (ks k')).drop ((nx u' l (ks k')).length - i)).reverse).map tri)) ∧ μ3[μ'.length]? = some (.lst ((ks k').map pr)) ∧ μ3[L]? = some (.lst ((List.range (ks k').length).map fun i => U.int (lv u' l i))) ∧ Fr μ μ3) (ks k').length (by omega) ⟨by omega, ⟨x6, x7, x8, by simp⟩, d1, by simpa using d2, cP, cL, fr4⟩ (fun i _ μ h => h.1) ?_
    rintro i s' μ3 ⟨hi, ⟨y1, y2, y3, rfl⟩, e1, e2, e3, e4, e5⟩
    rw [item_rng]
    by_cases e : i < (ks k').length
    · right
      refine ⟨_, _, by rw [if_pos (by simpa using e)], rfl, ?_⟩
      have hat : ((((ks k').length : Int).toNat - 1 : Nat) : Int) + (i : Int) * -1 = (((ks k').length - 1 - i : Nat) : Int) := by omega
      have hat' : (((((ks k').length : Int).toNat : Nat) : Int) - 1) + (i : Int) * -1 = (((ks k').length - 1 - i : Nat) : Int) := by omega
      rw [s_seq, s_asg]
      try walk_at "go"
      rw [w_ixL e3]
      simp only [hat, hat', Dg.atI_nat]
      refine ⟨pr (ks k')[(ks k').length - 1 - i], by simp [show (ks k').length - 1 - i < (ks k').length by omega], ?_⟩
      simp only [pr, setT, List.length_cons, List.length_nil, if_true, Option.some.injEq, exists_eq_left', setAll]
      simp (config := {decide := true}) only [lstU_L e2, w_ixL e4, Dg.atI_nat, hat, hat', w_run, w_op, w_c, w_var, w_call, w_def, w_anil, w_acons, w_tup, w_lst, w_int, w_intB, w_lenT, w_addI, w_subI, w_modI, w_mulI, w_ltI, w_leI, w_gtI, w_geI, w_eq, w_ne, w_ixT, w_if, w_nt, w_an, w_or, w_all, w_tstB, w_tst, w_app, w_lc, w_for, w_iseqT, w_rg1, w_rev1, w_d0, Dg.eq_str, Dg.eq_int, s_seq, s_next, s_brk, s_cnt, s_expr, s_ret, s_retN, s_if, s_asg1, s_store, List.map_cons, List.map_nil, List.cons_append, List.nil_append, List.length_cons, List.length_nil, List.replicate_succ, List.replicate_zero, Nat.add_sub_cancel, Nat.sub_self, Nat.sub_zero, Nat.reduceAdd, Nat.reduceSub, Nat.zero_add, List.set_cons_succ, List.set_cons_zero, List.getElem?_cons_zero, List.getElem?_cons_succ, Option.some.injEq, exists_eq_left', exists_eq_left, exists_eq_right', U.bl.injEq, U.int.injEq, U.ref.injEq, U.str.injEq, atI_0, atI_1, atI_2, atI_3, atI_4, atI_5, if_true, if_false, true_and, and_true, decide_true, decide_false, Bool.not_true, Bool.not_false, reduceCtorEq, ite_true, ite_false, decide_eq_true_eq, Bool.true_eq_false, Bool.false_eq_true]
      refine ⟨.int (lv u' l ((ks k').length - 1 - i)), by simp [show (ks k').length - 1 - i < (ks k').length by omega], ?_⟩
      have hlen := wk_len wk2
      have hlo : o.length ≤ out.length := by rw [← ho]; simp; omega
      rw [List.length_append, List.length_reverse, hn] at hlen
      rw [w_append e2 (by simp [lim, hn]; omega)]
      have hlP := get_lt cP
      refine ⟨by omega, ⟨_, _, _, rfl⟩, get_set_ne e1 (by omega), ?_, get_set_ne e3 (by omega), get_set_ne e4 (by omega), e5.put (by omega)⟩
      rw [get_set e2, drop_rev (by omega)]
      simp [tri, nx]
    · left
      refine ⟨by rw [if_neg (by simpa using e)], ?_⟩
      try walk_at "go"
      have hie : i = (ks k').length := by omega
      subst hie
      refine ⟨⟨_, _, _, _, _, _, _, _, rfl⟩, fo ++ [(k', u', l)], _, o, wk2, rfl, by simpa using ho, e1, ?_, e5⟩
      simpa [hn] using e2
theorem lv_of {u : U} {ks : Str → List (Str × U)} {k : Str} {l : Int} (nd : Nd u ks) (w : WT u) (hw : ∀ p ∈ ks k, WT p.2) {t : Str} {r : List U} (hu : u = .tup (.str t :: r)) (h0 : 0 < (ks k).length) : ∃ ta ra, (ks k)[0].2 = .tup (.str ta :: ra) ∧ (lv u l 0 = if t = "seq" ∧ ta = "seq" then l else l + 1) := by
  obtain ⟨ta, ra, e, hq⟩ := (hw (ks k)[0] (List.getElem_mem h0)).hd
  refine ⟨ta, ra, e, ?_⟩
  subst hu
  by_cases ht : t = "seq"
  · subst ht
    cases nd with
    | seq a b =>
      simp only [List.getElem_cons_zero] at e
      subst e
      simp [lv, ssq, isq]
    | op t a b m => exact absurd m (by decide)
    | z t m => exact absurd m (by decide)
    | x t e m => exact absurd m (by decide)
  · have hs : ssq (.tup (.str t :: r)) = false := by
      unfold ssq
      split
      · rename_i h0
        injection h0 with h0
        injection h0 with h1 h2
        injection h1 with h1
        subst h1
        simp [ht]
      · rfl
    simp [lv, hs, ht]
theorem levels_s {C : Calls} (h0 : ∀ {u : U} {ks : Str → List (Str × U)} {k : Str} {μ : Mem} {Q : U → Mem → Prop} {E : Str → Mem → Prop}, Nd u ks → Q (.ref μ.length) (μ ++ [.lst ((ks k).map pr)]) → wpE (C 22 [u, .str k] μ) Q E) : WalkS 9000 fun k u => runDef 10 (b__law_levels C) [.str k, u] := by
  intro k u out μ Q E wk hl q
  show wpE (runDef 10 (b__law_levels C) [.str k, u] μ) Q E
  unfold b__law_levels
  walk_at "go"
  refine for_go (fun i s' μ' => i ≤ out.length ∧ (∃ x1 x2 x3 x4 x5 x6, s' = [some (.str k), some u, some (.ref μ.length), some (.ref (μ.length + 1)), x1, x2, x3, x4, x5, x6]) ∧ ∃ fo st o, Wk st o ∧ i = fo.length ∧ fo ++ o = out ∧ μ'[μ.length]? = some (.lst (fo.map tri)) ∧ μ'[μ.length + 1]? = some (.lst (st.map tri)) ∧ Fr μ μ') out.length (by omega) ⟨by omega, ⟨none, none, none, none, none, none, by simp⟩, [], [(k, u, 1)], out, wk, rfl, rfl, get_snoc_lt get_snoc, by simp [tri], (Fr.refl.snoc).snoc⟩ (fun i _ μ h => h.1) ?_
  rintro i s' μ' ⟨hi, ⟨x1, x2, x3, x4, x5, x6, rfl⟩, fo, st, o, wk', rfl, ho, c1, c2, fr⟩
  rw [item_rng]
  right
  refine ⟨_, _, by rw [if_pos (show fo.length < (9000 : Int).toNat by simp; omega)], rfl, ?_⟩
  walk_at "go"
  rw [w_lenL c2]
  cases wk' with
  | nil =>
    walk_at "go"
    rw [List.append_nil] at ho
    subst ho
    exact q _ _ fr (Nat.le_refl _) c1
  | @cons k' u' l ks rest o nd w hk h3 wk2 =>
    simp only [List.map_append, List.map_cons, List.map_nil] at c2
    have ne : ¬ ((List.map tri (rest ++ [(k', u', l)])).length : Int) = 0 := by simp; omega
    simp (config := {decide := true}) only [ne, lstU_L c2, w_run, w_op, w_c, w_var, w_call, w_def, w_anil, w_acons, w_tup, w_lst, w_int, w_intB, w_lenT, w_addI, w_subI, w_modI, w_mulI, w_ltI, w_leI, w_gtI, w_geI, w_eq, w_ne, w_ixT, w_if, w_nt, w_an, w_or, w_all, w_tstB, w_tst, w_app, w_lc, w_for, w_iseqT, w_rg1, w_rev1, w_d0, Dg.eq_str, Dg.eq_int, s_seq, s_next, s_brk, s_cnt, s_expr, s_ret, s_retN, s_if, s_asg1, s_store, List.map_cons, List.map_nil, List.cons_append, List.nil_append, List.length_cons, List.length_nil, List.replicate_succ, List.replicate_zero, Nat.add_sub_cancel, Nat.sub_self, Nat.sub_zero, Nat.reduceAdd, Nat.reduceSub, Nat.zero_add, List.set_cons_succ, List.set_cons_zero, List.getElem?_cons_zero, List.getElem?_cons_succ, Option.some.injEq, exists_eq_left', exists_eq_left, exists_eq_right', U.bl.injEq, U.int.injEq, U.ref.injEq, U.str.injEq, atI_0, atI_1, atI_2, atI_3, atI_4, atI_5, if_true, if_false, true_and, and_true, decide_true, decide_false, Bool.not_true, Bool.not_false, reduceCtorEq, ite_true, ite_false, decide_eq_true_eq, Bool.true_eq_false, Bool.false_eq_true]
    rw [w_pop c2]
    have c2' := get_set (c := .lst (rest.map tri)) c2
    have c1' := get_set_ne (i := μ.length + 1) (c := .lst (rest.map tri)) c1 (by omega)
    have fr1 := fr.put (i := μ.length + 1) (c := .lst (rest.map tri)) (by omega)
    have hlo : fo.length + (o.length + 1) = out.length := by rw [← ho]; simp
    simp (config := {decide := true}) only [lstU_L c1', w_run, w_op, w_c, w_var, w_call, w_def, w_anil, w_acons, w_tup, w_lst, w_int, w_intB, w_lenT, w_addI, w_subI, w_modI, w_mulI, w_ltI, w_leI, w_gtI, w_geI, w_eq, w_ne, w_ixT, w_if, w_nt, w_an, w_or, w_all, w_tstB, w_tst, w_app, w_lc, w_for, w_iseqT, w_rg1, w_rev1, w_d0, Dg.eq_str, Dg.eq_int, s_seq, s_next, s_brk, s_cnt, s_expr, s_ret, s_retN, s_if, s_asg1, s_store, List.map_cons, List.map_nil, List.cons_append, List.nil_append, List.length_cons, List.length_nil, List.replicate_succ, List.replicate_zero, Nat.add_sub_cancel, Nat.sub_self, Nat.sub_zero, Nat.reduceAdd, Nat.reduceSub, Nat.zero_add, List.set_cons_succ, List.set_cons_zero, List.getElem?_cons_zero, List.getElem?_cons_succ, Option.some.injEq, exists_eq_left', exists_eq_left, exists_eq_right', U.bl.injEq, U.int.injEq, U.ref.injEq, U.str.injEq, atI_0, atI_1, atI_2, atI_3, atI_4, atI_5, if_true, if_false, true_and, and_true, decide_true, decide_false, Bool.not_true, Bool.not_false, reduceCtorEq, ite_true, ite_false, decide_eq_true_eq, Bool.true_eq_false, Bool.false_eq_true]
    rw [w_append c1' (by simp [lim]; omega)]
    simp only [tri]
    walk_at "go"
    refine h0 (k := k') nd ?_
    have c1'' := get_set (c := .lst (fo.map tri ++ [.tup [.str k', u', .int l]])) c1'
    have c2'' := get_set_ne (i := μ.length) (c := .lst (fo.map tri ++ [.tup [.str k', u', .int l]])) c2' (by omega)
    have fr2 := fr1.put (i := μ.length) (c := .lst (fo.map tri ++ [.tup [.str k', u', .int l]])) (by omega)
    simp (config := {decide := true}) only [w_lenL get_snoc, w_run, w_op, w_c, w_var, w_call, w_def, w_anil, w_acons, w_tup, w_lst, w_int, w_intB, w_lenT, w_addI, w_subI, w_modI, w_mulI, w_ltI, w_leI, w_gtI, w_geI, w_eq, w_ne, w_ixT, w_if, w_nt, w_an, w_or, w_all, w_tstB, w_tst, w_app, w_lc, w_for, w_iseqT, w_rg1, w_rev1, w_d0, Dg.eq_str, Dg.eq_int, s_seq, s_next, s_brk, s_cnt, s_expr, s_ret, s_retN, s_if, s_asg1, s_store, List.map_cons, List.map_nil, List.cons_append, List.nil_append, List.length_cons, List.length_nil, List.replicate_succ, List.replicate_zero, Nat.add_sub_cancel, Nat.sub_self, Nat.sub_zero, Nat.reduceAdd, Nat.reduceSub, Nat.zero_add, List.set_cons_succ, List.set_cons_zero, List.getElem?_cons_zero, List.getElem?_cons_succ, Option.some.injEq, exists_eq_left', exists_eq_left, exists_eq_right', U.bl.injEq, U.int.injEq, U.ref.injEq, U.str.injEq, atI_0, atI_1, atI_2, atI_3, atI_4, atI_5, if_true, if_false, true_and, and_true, decide_true, decide_false, Bool.not_true, Bool.not_false, reduceCtorEq, ite_true, ite_false, decide_eq_true_eq, Bool.true_eq_false, Bool.false_eq_true]
    simp only [List.length_map]
    refine ⟨by unfold okR; simp; omega, ?_⟩
    have lw := get_lt c2
    have hfm : fo.map tri ++ [.tup [.str k', u', .int l]] = (fo ++ [(k', u', l)]).map tri := by simp [tri]
    have hn := nx_len (u := u') (l := l) (ps := ks k')
    have d1 := get_snoc_lt (c := .lst ((ks k').map pr)) c1''
    have d2 := get_snoc_lt (c := .lst ((ks k').map pr)) c2''
    rw [hfm] at d1
    refine for_go (fun i s' μ3 => i ≤ (ks k').length ∧ (∃ x1 x2 x3, s' = [some (.str k), some u, some (.ref μ.length), some (.ref (μ.length + 1)), some (.int (0 + (fo.length : Int) * 1)), some (.tup [.str k', u', .int l]), some (.ref μ'.length), x1, x2, x3]) ∧ μ3[μ.length]? = some (.lst ((fo ++ [(k', u', l)]).map tri)) ∧ μ3[μ.length + 1]? = some (.lst ((rest ++ ((nx u' l (ks k')).drop ((nx u' l (ks k')).length - i)).reverse).map tri)) ∧ μ3[μ'.length]? = some (.lst ((ks k').map pr)) ∧ Fr μ μ3) (ks k').length (by omega) ⟨by omega, ⟨x4, x5, x6, by simp⟩, by rw [← hfm] at d1 ⊢; exact d1, by rw [← hfm] at *; simpa using d2, by simp, fr2.snoc⟩ (fun i _ μ h => h.1) ?_
    rintro i s' μ3 ⟨hi, ⟨y1, y2, y3, rfl⟩, e1, e2, e3, e5⟩
    rw [item_rng]
    by_cases e : i < (ks k').length
    · right
      refine ⟨_, _, by rw [if_pos (by simpa using e)], rfl, ?_⟩
      obtain ⟨A, hA⟩ : ∃ A, (ks k').length - 1 - i = A := ⟨_, rfl⟩
      have hAl : A < (ks k').length := by omega
      have hat : ((ks k').length : Int) - 1 - (0 + (i : Int) * 1) = (A : Int) := by omega
      have hit : ((ks k').map pr)[A]? = some (.tup [.str (ks k')[A].1, (ks k')[A].2]) := by simp [hAl, pr]
      simp (config := {decide := true}) only [w_lenL e3, List.length_map, hat, w_run, w_op, w_c, w_var, w_call, w_def, w_anil, w_acons, w_tup, w_lst, w_int, w_intB, w_lenT, w_addI, w_subI, w_modI, w_mulI, w_ltI, w_leI, w_gtI, w_geI, w_eq, w_ne, w_ixT, w_if, w_nt, w_an, w_or, w_all, w_tstB, w_tst, w_app, w_lc, w_for, w_iseqT, w_rg1, w_rev1, w_d0, Dg.eq_str, Dg.eq_int, s_seq, s_next, s_brk, s_cnt, s_expr, s_ret, s_retN, s_if, s_asg1, s_store, List.map_cons, List.map_nil, List.cons_append, List.nil_append, List.length_cons, List.length_nil, List.replicate_succ, List.replicate_zero, Nat.add_sub_cancel, Nat.sub_self, Nat.sub_zero, Nat.reduceAdd, Nat.reduceSub, Nat.zero_add, List.set_cons_succ, List.set_cons_zero, List.getElem?_cons_zero, List.getElem?_cons_succ, Option.some.injEq, exists_eq_left', exists_eq_left, exists_eq_right', U.bl.injEq, U.int.injEq, U.ref.injEq, U.str.injEq, atI_0, atI_1, atI_2, atI_3, atI_4, atI_5, if_true, if_false, true_and, and_true, decide_true, decide_false, Bool.not_true, Bool.not_false, reduceCtorEq, ite_true, ite_false, decide_eq_true_eq, Bool.true_eq_false, Bool.false_eq_true]
      obtain ⟨t, r, hu, hq⟩ := w.hd
      subst hu
      have hlen := wk_len wk2
      have hlo2 : o.length ≤ out.length := by omega
      rw [List.length_append, List.length_reverse, hn] at hlen
      have e1' := fun c => get_set_ne (i := μ.length + 1) (c := c) e1 (by omega)
      have e3' := fun c => get_set_ne (i := μ.length + 1) (c := c) e3 (by omega)
      have hlim : ((rest ++ ((nx (.tup (.str t :: r)) l (ks k')).drop ((nx (.tup (.str t :: r)) l (ks k')).length - i)).reverse).map tri).length < lim := by simp [lim, hn]; omega
      have hend : ∀ l', lv (.tup (.str t :: r)) l A = l' → (rest ++ ((nx (.tup (.str t :: r)) l (ks k')).drop ((nx (.tup (.str t :: r)) l (ks k')).length - i)).reverse).map tri ++ [.tup [.str (ks k')[A].1, (ks k')[A].2, .int l']] = (rest ++ ((nx (.tup (.str t :: r)) l (ks k')).drop ((nx (.tup (.str t :: r)) l (ks k')).length - (i + 1))).reverse).map tri := by
        intro l' hl'
        subst hl'
        subst hA
        rw [drop_rev (by omega)]
        simp [tri, nx]
      have one : (A : Int) ≠ 0 → lv (.tup (.str t :: r)) l A = l + 1 := fun h => lv_s (by omega)
      split
      · rename_i hz
        obtain rfl : A = 0 := by omega
        obtain ⟨ta, ra, ea, hl⟩ := lv_of nd w hk rfl hAl
        walk_at "go"
        split
        · rename_i ht
          subst ht
          simp (config := {decide := true}) only [w_ixL e3, Dg.atI_nat, hit, ea, w_run, w_op, w_c, w_var, w_call, w_def, w_anil, w_acons, w_tup, w_lst, w_int, w_intB, w_lenT, w_addI, w_subI, w_modI, w_mulI, w_ltI, w_leI, w_gtI, w_geI, w_eq, w_ne, w_ixT, w_if, w_nt, w_an, w_or, w_all, w_tstB, w_tst, w_app, w_lc, w_for, w_iseqT, w_rg1, w_rev1, w_d0, Dg.eq_str, Dg.eq_int, s_seq, s_next, s_brk, s_cnt, s_expr, s_ret, s_retN, s_if, s_asg1, s_store, List.map_cons, List.map_nil, List.cons_append, List.nil_append, List.length_cons, List.length_nil, List.replicate_succ, List.replicate_zero, Nat.add_sub_cancel, Nat.sub_self, Nat.sub_zero, Nat.reduceAdd, Nat.reduceSub, Nat.zero_add, List.set_cons_succ, List.set_cons_zero, List.getElem?_cons_zero, List.getElem?_cons_succ, Option.some.injEq, exists_eq_left', exists_eq_left, exists_eq_right', U.bl.injEq, U.int.injEq, U.ref.injEq, U.str.injEq, atI_0, atI_1, atI_2, atI_3, atI_4, atI_5, if_true, if_false, true_and, and_true, decide_true, decide_false, Bool.not_true, Bool.not_false, reduceCtorEq, ite_true, ite_false, decide_eq_true_eq, Bool.true_eq_false, Bool.false_eq_true]
          split
          · rename_i hta
            subst hta
            simp (config := {decide := true}) only [lstU_L e2, w_ixL e3, Dg.atI_nat, hit, ea, w_run, w_op, w_c, w_var, w_call, w_def, w_anil, w_acons, w_tup, w_lst, w_int, w_intB, w_lenT, w_addI, w_subI, w_modI, w_mulI, w_ltI, w_leI, w_gtI, w_geI, w_eq, w_ne, w_ixT, w_if, w_nt, w_an, w_or, w_all, w_tstB, w_tst, w_app, w_lc, w_for, w_iseqT, w_rg1, w_rev1, w_d0, Dg.eq_str, Dg.eq_int, s_seq, s_next, s_brk, s_cnt, s_expr, s_ret, s_retN, s_if, s_asg1, s_store, List.map_cons, List.map_nil, List.cons_append, List.nil_append, List.length_cons, List.length_nil, List.replicate_succ, List.replicate_zero, Nat.add_sub_cancel, Nat.sub_self, Nat.sub_zero, Nat.reduceAdd, Nat.reduceSub, Nat.zero_add, List.set_cons_succ, List.set_cons_zero, List.getElem?_cons_zero, List.getElem?_cons_succ, Option.some.injEq, exists_eq_left', exists_eq_left, exists_eq_right', U.bl.injEq, U.int.injEq, U.ref.injEq, U.str.injEq, atI_0, atI_1, atI_2, atI_3, atI_4, atI_5, if_true, if_false, true_and, and_true, decide_true, decide_false, Bool.not_true, Bool.not_false, reduceCtorEq, ite_true, ite_false, decide_eq_true_eq, Bool.true_eq_false, Bool.false_eq_true]
            rw [w_append e2 hlim]
            refine ⟨by omega, ⟨_, _, _, rfl⟩, e1' _, ?_, e3' _, e5.put (by omega)⟩
            rw [get_set e2, ← hend l (by rw [hl]; simp), ea]
          · rename_i hta
            simp (config := {decide := true}) only [lstU_L e2, w_ixL e3, Dg.atI_nat, hit, ea, w_run, w_op, w_c, w_var, w_call, w_def, w_anil, w_acons, w_tup, w_lst, w_int, w_intB, w_lenT, w_addI, w_subI, w_modI, w_mulI, w_ltI, w_leI, w_gtI, w_geI, w_eq, w_ne, w_ixT, w_if, w_nt, w_an, w_or, w_all, w_tstB, w_tst, w_app, w_lc, w_for, w_iseqT, w_rg1, w_rev1, w_d0, Dg.eq_str, Dg.eq_int, s_seq, s_next, s_brk, s_cnt, s_expr, s_ret, s_retN, s_if, s_asg1, s_store, List.map_cons, List.map_nil, List.cons_append, List.nil_append, List.length_cons, List.length_nil, List.replicate_succ, List.replicate_zero, Nat.add_sub_cancel, Nat.sub_self, Nat.sub_zero, Nat.reduceAdd, Nat.reduceSub, Nat.zero_add, List.set_cons_succ, List.set_cons_zero, List.getElem?_cons_zero, List.getElem?_cons_succ, Option.some.injEq, exists_eq_left', exists_eq_left, exists_eq_right', U.bl.injEq, U.int.injEq, U.ref.injEq, U.str.injEq, atI_0, atI_1, atI_2, atI_3, atI_4, atI_5, if_true, if_false, true_and, and_true, decide_true, decide_false, Bool.not_true, Bool.not_false, reduceCtorEq, ite_true, ite_false, decide_eq_true_eq, Bool.true_eq_false, Bool.false_eq_true]
            rw [w_append e2 hlim]
            refine ⟨by omega, ⟨_, _, _, rfl⟩, e1' _, ?_, e3' _, e5.put (by omega)⟩
            rw [get_set e2, ← hend (l + 1) (by rw [hl]; simp [hta]), ea]
        · rename_i ht
          simp (config := {decide := true}) only [lstU_L e2, w_ixL e3, Dg.atI_nat, hit, ea, w_run, w_op, w_c, w_var, w_call, w_def, w_anil, w_acons, w_tup, w_lst, w_int, w_intB, w_lenT, w_addI, w_subI, w_modI, w_mulI, w_ltI, w_leI, w_gtI, w_geI, w_eq, w_ne, w_ixT, w_if, w_nt, w_an, w_or, w_all, w_tstB, w_tst, w_app, w_lc, w_for, w_iseqT, w_rg1, w_rev1, w_d0, Dg.eq_str, Dg.eq_int, s_seq, s_next, s_brk, s_cnt, s_expr, s_ret, s_retN, s_if, s_asg1, s_store, List.map_cons, List.map_nil, List.cons_append, List.nil_append, List.length_cons, List.length_nil, List.replicate_succ, List.replicate_zero, Nat.add_sub_cancel, Nat.sub_self, Nat.sub_zero, Nat.reduceAdd, Nat.reduceSub, Nat.zero_add, List.set_cons_succ, List.set_cons_zero, List.getElem?_cons_zero, List.getElem?_cons_succ, Option.some.injEq, exists_eq_left', exists_eq_left, exists_eq_right', U.bl.injEq, U.int.injEq, U.ref.injEq, U.str.injEq, atI_0, atI_1, atI_2, atI_3, atI_4, atI_5, if_true, if_false, true_and, and_true, decide_true, decide_false, Bool.not_true, Bool.not_false, reduceCtorEq, ite_true, ite_false, decide_eq_true_eq, Bool.true_eq_false, Bool.false_eq_true]
          rw [w_append e2 hlim]
          refine ⟨by omega, ⟨_, _, _, rfl⟩, e1' _, ?_, e3' _, e5.put (by omega)⟩
          rw [get_set e2, ← hend (l + 1) (by rw [hl]; simp [ht]), ea]
      · rename_i hz
        simp (config := {decide := true}) only [lstU_L e2, w_ixL e3, Dg.atI_nat, hit, w_run, w_op, w_c, w_var, w_call, w_def, w_anil, w_acons, w_tup, w_lst, w_int, w_intB, w_lenT, w_addI, w_subI, w_modI, w_mulI, w_ltI, w_leI, w_gtI, w_geI, w_eq, w_ne, w_ixT, w_if, w_nt, w_an, w_or, w_all, w_tstB, w_tst, w_app, w_lc, w_for, w_iseqT, w_rg1, w_rev1, w_d0, Dg.eq_str, Dg.eq_int, s_seq, s_next, s_brk, s_cnt, s_expr, s_ret, s_retN, s_if, s_asg1, s_store, List.map_cons, List.map_nil, List.cons_append, List.nil_append, List.length_cons, List.length_nil, List.replicate_succ, List.replicate_zero, Nat.add_sub_cancel, Nat.sub_self, Nat.sub_zero, Nat.reduceAdd, Nat.reduceSub, Nat.zero_add, List.set_cons_succ, List.set_cons_zero, List.getElem?_cons_zero, List.getElem?_cons_succ, Option.some.injEq, exists_eq_left', exists_eq_left, exists_eq_right', U.bl.injEq, U.int.injEq, U.ref.injEq, U.str.injEq, atI_0, atI_1, atI_2, atI_3, atI_4, atI_5, if_true, if_false, true_and, and_true, decide_true, decide_false, Bool.not_true, Bool.not_false, reduceCtorEq, ite_true, ite_false, decide_eq_true_eq, Bool.true_eq_false, Bool.false_eq_true]
        rw [w_append e2 hlim]
        refine ⟨by omega, ⟨_, _, _, rfl⟩, e1' _, ?_, e3' _, e5.put (by omega)⟩
        rw [get_set e2, ← hend (l + 1) (one hz)]
    · left
      refine ⟨by rw [if_neg (by simpa using e)], ?_⟩
      walk_at "go"
      have hie : i = (ks k').length := by omega
      subst hie
      refine ⟨by omega, ⟨_, _, _, _, _, _, rfl⟩, fo ++ [(k', u', l)], _, o, wk2, by simp, by simpa using ho, e1, ?_, e5⟩
      simpa [hn] using e2
theorem w_isi {T : String} {a : FE} {s : Slots} {μ : Mem} {Q : U → Mem → Prop} {E : Str → Mem → Prop} : wpE (fIsi T a s μ) Q E = wpE (a s μ) (fun u μ1 => ∃ t, tyU μ1 u = some t ∧ Q (.bl (isTy T t)) μ1) E := by
  unfold fIsi; rw [w_bind]; congr 1; funext u μ1
  cases tyU μ1 u <;> simp [wpE]
theorem ty_L {r : Nat} {us : List U} {μ : Mem} (h : μ[r]? = some (.lst us)) : tyU μ (.ref r) = some "list" := by unfold tyU; simp only [h]
theorem ty_T {us : List U} {μ : Mem} : tyU μ (.tup us) = some "tuple" := rfl
theorem isTy_l : isTy "list" "list" = true := by decide
theorem isTy_t : isTy "tuple" "tuple" = true := by decide
def PairsS (g : List U → Mem → Res U) : Prop := ∀ {a b : Nat} {us : List U} {μ : Mem} {Q : U → Mem → Prop} {E : Str → Mem → Prop}, μ[a]? = some (.lst us) → μ[b]? = some (.lst us) → us.length < 900000 → (∀ u ∈ us, (∃ xs, u = .tup xs) ∧ pu u = true ∧ dp u ≤ 800) → Q (.bl true) μ → wpE (g [.ref a, .ref b] μ) Q E
theorem pairs_s {C : Calls} : PairsS (runDef 3 (b__law_pairs C)) := by
  intro a b us μ Q E ha hb hl hu q
  unfold b__law_pairs
  simp (config := {decide := true}) only [w_isi, ty_L ha, isTy_l, w_lenL ha, w_lenL hb, truU, w_run, w_op, w_c, w_var, w_call, w_def, w_anil, w_acons, w_tup, w_lst, w_int, w_intB, w_lenT, w_addI, w_subI, w_modI, w_mulI, w_ltI, w_leI, w_gtI, w_geI, w_eq, w_ne, w_ixT, w_if, w_nt, w_an, w_or, w_all, w_tstB, w_tst, w_app, w_lc, w_for, w_iseqT, w_rg1, w_rev1, w_d0, Dg.eq_str, Dg.eq_int, s_seq, s_next, s_brk, s_cnt, s_expr, s_ret, s_retN, s_if, s_asg1, s_store, List.map_cons, List.map_nil, List.cons_append, List.nil_append, List.length_cons, List.length_nil, List.replicate_succ, List.replicate_zero, Nat.add_sub_cancel, Nat.sub_self, Nat.sub_zero, Nat.reduceAdd, Nat.reduceSub, Nat.zero_add, List.set_cons_succ, List.set_cons_zero, List.getElem?_cons_zero, List.getElem?_cons_succ, Option.some.injEq, exists_eq_left', exists_eq_left, exists_eq_right', U.bl.injEq, U.int.injEq, U.ref.injEq, U.str.injEq, atI_0, atI_1, atI_2, atI_3, atI_4, atI_5, if_true, if_false, true_and, and_true, decide_true, decide_false, Bool.not_true, Bool.not_false, reduceCtorEq, ite_true, ite_false, decide_eq_true_eq, Bool.true_eq_false, Bool.false_eq_true]
  refine ⟨by unfold okR; simp; omega, ?_⟩
  refine for_go (fun i s' μ' => i ≤ us.length ∧ μ' = μ ∧ ∃ x, s' = [some (.ref a), some (.ref b), x]) us.length (by omega) ⟨by omega, rfl, _, rfl⟩ (fun i _ μ h => h.1) ?_
  rintro i s' μ' ⟨hi, rfl, x, rfl⟩
  rw [item_rng]
  by_cases e : i < us.length
  · right
    refine ⟨_, _, by rw [if_pos (by simpa using e)], rfl, ?_⟩
    have hat : (0 + (i : Int) * 1) = (i : Int) := by omega
    obtain ⟨⟨xs, hx⟩, hp, hd⟩ := hu us[i] (List.getElem_mem e)
    have hit : us[i]? = some (.tup xs) := by rw [← hx]; simp [e]
    rw [hx] at hp hd
    simp (config := {decide := true}) only [w_isi, hat, w_ixL ha, w_ixL hb, Dg.atI_nat, hit, ty_T, isTy_t, truU, eq_self hp hd, w_run, w_op, w_c, w_var, w_call, w_def, w_anil, w_acons, w_tup, w_lst, w_int, w_intB, w_lenT, w_addI, w_subI, w_modI, w_mulI, w_ltI, w_leI, w_gtI, w_geI, w_eq, w_ne, w_ixT, w_if, w_nt, w_an, w_or, w_all, w_tstB, w_tst, w_app, w_lc, w_for, w_iseqT, w_rg1, w_rev1, w_d0, Dg.eq_str, Dg.eq_int, s_seq, s_next, s_brk, s_cnt, s_expr, s_ret, s_retN, s_if, s_asg1, s_store, List.map_cons, List.map_nil, List.cons_append, List.nil_append, List.length_cons, List.length_nil, List.replicate_succ, List.replicate_zero, Nat.add_sub_cancel, Nat.sub_self, Nat.sub_zero, Nat.reduceAdd, Nat.reduceSub, Nat.zero_add, List.set_cons_succ, List.set_cons_zero, List.getElem?_cons_zero, List.getElem?_cons_succ, Option.some.injEq, exists_eq_left', exists_eq_left, exists_eq_right', U.bl.injEq, U.int.injEq, U.ref.injEq, U.str.injEq, atI_0, atI_1, atI_2, atI_3, atI_4, atI_5, if_true, if_false, true_and, and_true, decide_true, decide_false, Bool.not_true, Bool.not_false, reduceCtorEq, ite_true, ite_false, decide_eq_true_eq, Bool.true_eq_false, Bool.false_eq_true]
    exact ⟨by omega, _, rfl⟩
  · left
    refine ⟨by rw [if_neg (by simpa using e)], ?_⟩
    walk_at "go"
    exact q
/-- a def that lists the steps of a row -/
def StepsS (g : List U → Mem → Res U) : Prop := ∀ {hd : U} {ss : List U} {μ : Mem} {Q : U → Mem → Prop} {E : Str → Mem → Prop}, nsq hd → ss.length < 1999 →
  (∀ r μ', Fr μ μ' → μ.length ≤ r → μ'[r]? = some (.lst (hd :: ss)) → Q (.ref r) μ') → wpE (g [rowU hd ss] μ) Q E
theorem w_addL {a b : Nat} {xs ys : List U} {μ : Mem} {Q : U → Mem → Prop} {E : Str → Mem → Prop} (h1 : μ[a]? = some (.lst xs)) (h2 : μ[b]? = some (.lst ys)) (hl : xs.length + ys.length ≤ lim) (q : Q (.ref μ.length) (μ ++ [.lst (xs ++ ys)])) : wpE (uAdd (.ref a) (.ref b) μ) Q E := by
  unfold uAdd
  simp only [h1, h2, hl, if_true]
  exact q
theorem w_revL {a : FE} {s : Slots} {μ : Mem} {Q : U → Mem → Prop} {E : Str → Mem → Prop} : wpE (fRevL a s μ) Q E = wpE (a s μ) (fun u μ1 => ∃ us, lstU μ1 u = some us ∧ Q (.ref μ1.length) (μ1 ++ [.lst us.reverse])) E := by
  unfold fRevL; rw [w_bind]; congr 1; funext u μ1
  cases lstU μ1 u <;> simp [wpE]
theorem steps_s {C : Calls} : StepsS (runDef 3 (b_steps_of C)) := by
  intro hd ss μ Q E nh hl q
  unfold b_steps_of
  walk_at "go"
  refine while_go (fun m s' μ' => ∃ pre post, ss = pre ++ post ∧ pre.length = m ∧ s' = [some (rowU hd ss), some (.ref μ.length), some (rowU hd pre)] ∧ μ'[μ.length]? = some (.lst post.reverse) ∧ Fr μ μ') (m := ss.length) (by omega) ⟨ss, [], by simp, rfl, rfl, by simp, Fr.refl.snoc⟩ ?_
  rintro m s' μ' ⟨pre, post, es, rfl, rfl, c1, fr⟩
  rcases List.eq_nil_or_concat pre with rfl | ⟨p, z, rfl⟩
  · obtain ⟨t, r, rfl, ht⟩ := nh
    have es' : post = ss := by simpa using es.symm
    subst es'
    simp (config := {decide := true}) only [show rowU (.tup (.str t :: r)) [] = .tup (.str t :: r) from rfl, ht, w_revL, w_run, w_op, w_c, w_var, w_call, w_def, w_anil, w_acons, w_tup, w_lst, w_int, w_intB, w_lenT, w_addI, w_subI, w_modI, w_mulI, w_ltI, w_leI, w_gtI, w_geI, w_eq, w_ne, w_ixT, w_if, w_nt, w_an, w_or, w_all, w_tstB, w_tst, w_app, w_lc, w_for, w_iseqT, w_rg1, w_rev1, w_d0, Dg.eq_str, Dg.eq_int, s_seq, s_next, s_brk, s_cnt, s_expr, s_ret, s_retN, s_if, s_asg1, s_store, List.map_cons, List.map_nil, List.cons_append, List.nil_append, List.length_cons, List.length_nil, List.replicate_succ, List.replicate_zero, Nat.add_sub_cancel, Nat.sub_self, Nat.sub_zero, Nat.reduceAdd, Nat.reduceSub, Nat.zero_add, List.set_cons_succ, List.set_cons_zero, List.getElem?_cons_zero, List.getElem?_cons_succ, Option.some.injEq, exists_eq_left', exists_eq_left, exists_eq_right', U.bl.injEq, U.int.injEq, U.ref.injEq, U.str.injEq, atI_0, atI_1, atI_2, atI_3, atI_4, atI_5, if_true, if_false, true_and, and_true, decide_true, decide_false, Bool.not_true, Bool.not_false, reduceCtorEq, ite_true, ite_false, decide_eq_true_eq, Bool.true_eq_false, Bool.false_eq_true]
    refine ⟨_, lstU_L (get_snoc_lt c1), ?_⟩
    refine w_addL (get_snoc_lt get_snoc) get_snoc (by simp [lim]; omega) ?_
    exact q _ _ ((fr.snoc).snoc.snoc) (by have := fr.le; simp; omega) (by rw [get_snoc]; simp)
  · rw [List.concat_eq_append] at *
    rw [rowU_snoc]
    simp (config := {decide := true}) only [lstU_L c1, w_run, w_op, w_c, w_var, w_call, w_def, w_anil, w_acons, w_tup, w_lst, w_int, w_intB, w_lenT, w_addI, w_subI, w_modI, w_mulI, w_ltI, w_leI, w_gtI, w_geI, w_eq, w_ne, w_ixT, w_if, w_nt, w_an, w_or, w_all, w_tstB, w_tst, w_app, w_lc, w_for, w_iseqT, w_rg1, w_rev1, w_d0, Dg.eq_str, Dg.eq_int, s_seq, s_next, s_brk, s_cnt, s_expr, s_ret, s_retN, s_if, s_asg1, s_store, List.map_cons, List.map_nil, List.cons_append, List.nil_append, List.length_cons, List.length_nil, List.replicate_succ, List.replicate_zero, Nat.add_sub_cancel, Nat.sub_self, Nat.sub_zero, Nat.reduceAdd, Nat.reduceSub, Nat.zero_add, List.set_cons_succ, List.set_cons_zero, List.getElem?_cons_zero, List.getElem?_cons_succ, Option.some.injEq, exists_eq_left', exists_eq_left, exists_eq_right', U.bl.injEq, U.int.injEq, U.ref.injEq, U.str.injEq, atI_0, atI_1, atI_2, atI_3, atI_4, atI_5, if_true, if_false, true_and, and_true, decide_true, decide_false, Bool.not_true, Bool.not_false, reduceCtorEq, ite_true, ite_false, decide_eq_true_eq, Bool.true_eq_false, Bool.false_eq_true]
    have hlen : ss.length = p.length + 1 + post.length := by rw [es]; simp; omega
    refine ⟨p.length, by simp, ?_⟩
    rw [w_append c1 (by simp [lim]; omega)]
    exact ⟨p, z :: post, by simpa using es, rfl, rfl, by simpa using get_set c1, fr.put (Nat.le_refl _)⟩
theorem lsteps_s {C : Calls} : StepsS (runDef 4 (b__law_steps C)) := by
  intro hd ss μ Q E nh hl q
  unfold b__law_steps
  walk_at "go"
  refine for_go (fun i s' μ' => i ≤ ss.length ∧ ∃ pre post x f, ss = pre ++ post ∧ post.length = i ∧ s' = [some (rowU hd ss), some (.ref f), some (rowU hd pre), x] ∧ μ'[f]? = some (.lst post) ∧ Fr μ μ') ss.length (by omega) ⟨by omega, ss, [], none, μ.length, by simp, rfl, by simp, by simp, Fr.refl.snoc⟩ (fun i _ μ h => h.1) ?_
  rintro i s' μ' ⟨hi, pre, post, x, f, es, el, rfl, c1, fr⟩
  rw [item_rng]
  right
  refine ⟨_, _, by rw [if_pos (show i < (2000 : Int).toNat by simp; omega)], rfl, ?_⟩
  rcases List.eq_nil_or_concat pre with rfl | ⟨p, z, rfl⟩
  · obtain ⟨t, r, rfl, ht⟩ := nh
    have es' : post = ss := by simpa using es.symm
    subst es'
    simp (config := {decide := true}) only [show rowU (.tup (.str t :: r)) [] = .tup (.str t :: r) from rfl, ht, w_run, w_op, w_c, w_var, w_call, w_def, w_anil, w_acons, w_tup, w_lst, w_int, w_intB, w_lenT, w_addI, w_subI, w_modI, w_mulI, w_ltI, w_leI, w_gtI, w_geI, w_eq, w_ne, w_ixT, w_if, w_nt, w_an, w_or, w_all, w_tstB, w_tst, w_app, w_lc, w_for, w_iseqT, w_rg1, w_rev1, w_d0, Dg.eq_str, Dg.eq_int, s_seq, s_next, s_brk, s_cnt, s_expr, s_ret, s_retN, s_if, s_asg1, s_store, List.map_cons, List.map_nil, List.cons_append, List.nil_append, List.length_cons, List.length_nil, List.replicate_succ, List.replicate_zero, Nat.add_sub_cancel, Nat.sub_self, Nat.sub_zero, Nat.reduceAdd, Nat.reduceSub, Nat.zero_add, List.set_cons_succ, List.set_cons_zero, List.getElem?_cons_zero, List.getElem?_cons_succ, Option.some.injEq, exists_eq_left', exists_eq_left, exists_eq_right', U.bl.injEq, U.int.injEq, U.ref.injEq, U.str.injEq, atI_0, atI_1, atI_2, atI_3, atI_4, atI_5, if_true, if_false, true_and, and_true, decide_true, decide_false, Bool.not_true, Bool.not_false, reduceCtorEq, ite_true, ite_false, decide_eq_true_eq, Bool.true_eq_false, Bool.false_eq_true]
    refine w_addL get_snoc (get_snoc_lt c1) (by simp [lim]; omega) ?_
    exact q _ _ (fr.snoc.snoc) (by have := fr.le; simp; omega) (by rw [get_snoc]; simp)
  · rw [List.concat_eq_append] at *
    rw [rowU_snoc]
    walk_at "go"
    have hlen : ss.length = p.length + 1 + post.length := by rw [es]; simp; omega
    refine w_addL get_snoc (get_snoc_lt c1) (by simp [lim]; omega) ?_
    exact ⟨by omega, p, z :: post, _, _, by simpa using es, by simp [el], rfl, by rw [get_snoc]; simp, fr.snoc.snoc⟩
def RowS (g : List U → Mem → Res U) : Prop := ∀ {a hd : U} {ss : List U} {μ : Mem} {Q : U → Mem → Prop} {E : Str → Mem → Prop}, nsq hd → ss.length < 1999 →
  (∀ μ', Fr μ μ' → Q (rowU a (hd :: ss)) μ') → wpE (g [a, rowU hd ss] μ) Q E
theorem row_s {C : Calls} (h3 : StepsS (C 3)) : RowS (runDef 4 (b_row C)) := by
  intro a hd ss μ Q E nh hl q
  unfold b_row
  walk_at "go"
  refine h3 nh hl fun r μ1 fr l1 c1 => ?_
  simp only
  refine ⟨_, listAt_L c1, ?_⟩
  refine for_go (fun i s' μ' => i ≤ ss.length + 1 ∧ μ' = μ1 ∧ ∃ x, s' = [some a, some (rowU hd ss), some (rowU a ((hd :: ss).take i)), x]) (ss.length + 1) (by omega) ⟨by omega, rfl, _, rfl⟩ (fun i _ μ h => h.1) ?_
  rintro i s' μ' ⟨hi, rfl, x, rfl⟩
  rw [item_live c1]
  by_cases e : i < (hd :: ss).length
  · right
    refine ⟨(hd :: ss)[i], _, by rw [List.getElem?_eq_getElem e], rfl, ?_⟩
    walk_at "go"
    have : (hd :: ss).take (i + 1) = (hd :: ss).take i ++ [(hd :: ss)[i]] := by rw [List.take_succ_eq_append_getElem e]
    rw [this, rowU_snoc]
    exact ⟨by simp at e; omega, _, rfl⟩
  · left
    refine ⟨by rw [List.getElem?_eq_none (by omega)], ?_⟩
    walk_at "go"
    rw [List.take_of_length_le (by omega)]
    exact q _ fr
def TermOk (u : U) : Prop := WT u ∧ pu u = true ∧ dp u ≤ 390
def RowedS (g : List U → Mem → Res U) : Prop := ∀ {s n : Nat} {a b : U} {μ : Mem} {Q : U → Mem → Prop} {E : Str → Mem → Prop}, St s n μ → TermOk a → TermOk b → (∀ μ', G s n μ μ' → Q (.bl true) μ') → wpE (g [a, b] μ) Q E
theorem rowed_s {C : Calls} (h4 : RowS (C 4)) (h16 : JoinS (C 16)) (h25 : StepsS (C 25)) : RowedS (runDef 4 (b__law_rowed C)) := by
  intro s n a b μ Q E h ha hb q
  obtain ⟨wa, pa, da⟩ := ha
  obtain ⟨wb, pb, db⟩ := hb
  obtain ⟨h1, ss1, rfl, n1, m1⟩ := wa.row
  obtain ⟨h2, ss2, rfl, n2, m2⟩ := wb.row
  rw [row_pu] at pa pb
  obtain ⟨pa1, pa2⟩ := Bool.and_eq_true_iff.mp pa
  obtain ⟨pb1, pb2⟩ := Bool.and_eq_true_iff.mp pb
  obtain ⟨x1, x2, x3⟩ := row_dp (ss := ss1) (hd := h1)
  obtain ⟨y1, y2, y3⟩ := row_dp (ss := ss2) (hd := h2)
  obtain ⟨z1, z2, z3⟩ := row_dp (ss := h2 :: ss2) (hd := rowU h1 ss1)
  have pt : pu (rowU (rowU h1 ss1) (h2 :: ss2)) = true := by rw [row_pu, row_pu]; simp [pus, pa1, pa2, pb1, pb2]
  have dt : dp (rowU (rowU h1 ss1) (h2 :: ss2)) ≤ 790 := by
    simp only [dps, List.length_cons] at z3
    omega
  have et : rowU (rowU h1 ss1) (h2 :: ss2) = rowU h1 (ss1 ++ h2 :: ss2) := rowU_app
  have ps : pus (h1 :: (ss1 ++ h2 :: ss2)) = true := by
    rw [et, row_pu] at pt
    simpa [pus] using pt
  have ds : dps (h1 :: (ss1 ++ h2 :: ss2)) ≤ 799 := by
    obtain ⟨w1, w2, w3⟩ := row_dp (ss := ss1 ++ h2 :: ss2) (hd := h1)
    rw [← et] at w1 w2
    simp only [dps]
    omega
  unfold b__law_rowed
  try walk_at "go"
  refine h4 n2 (by omega) fun μ1 f1 => ?_
  rw [et]
  try walk_at "go"
  refine h25 n1 (by simp; omega) fun r1 μ2 f2 l2 c2 => ?_
  refine h25 n1 (by omega) fun r2 μ3 f3 l3 c3 => ?_
  refine h25 n2 (by omega) fun r3 μ4 f4 l4 c4 => ?_
  refine w_addL (f4.at_ _ _ c3) c4 (by simp [lim]; omega) ?_
  have f5 : Fr μ2 (μ4 ++ [Cell.lst ((h1 :: ss1) ++ (h2 :: ss2))]) := (f3.trans f4).snoc
  try walk_at "go"
  refine ⟨_, eq_lists (f5.at_ _ _ c2) get_snoc ps ds, ?_⟩
  simp only [Bool.not_true, Bool.false_eq_true, if_false]
  refine h25 n1 (by simp; omega) fun r6 μ6 f6 l6 c6 => ?_
  simp only
  refine ⟨_, listAt_L c6, ?_⟩
  have fA : Fr μ μ6 := ((f1.trans f2).trans f5).trans f6
  refine for_go (fun i s' μ' => i ≤ (h1 :: (ss1 ++ h2 :: ss2)).length ∧ μ' = μ6 ∧ ∃ x, s' = [some (rowU h1 ss1), some (rowU h2 ss2), some (rowU h1 (ss1 ++ h2 :: ss2)), x]) (h1 :: (ss1 ++ h2 :: ss2)).length (by simp; omega) ⟨by omega, rfl, _, rfl⟩ (fun i _ μ h => h.1) ?_
  rintro i s' μ' ⟨hi, rfl, x, rfl⟩
  rw [item_live c6]
  by_cases e : i < (h1 :: (ss1 ++ h2 :: ss2)).length
  · right
    refine ⟨(h1 :: (ss1 ++ h2 :: ss2))[i], _, by rw [List.getElem?_eq_getElem e], rfl, ?_⟩
    have hn : nsq (h1 :: (ss1 ++ h2 :: ss2))[i] := by
      have hm := List.getElem_mem e
      rcases List.mem_cons.mp hm with m | m
      · rw [m]; exact n1
      · rcases List.mem_append.mp m with m | m
        · exact m1 _ m
        · rcases List.mem_cons.mp m with m | m
          · rw [m]; exact n2
          · exact m2 _ m
    obtain ⟨t, r, ex, ht⟩ := hn
    rw [ex]
    simp (config := {decide := true}) only [ht, w_run, w_op, w_c, w_var, w_call, w_def, w_anil, w_acons, w_tup, w_lst, w_int, w_intB, w_lenT, w_addI, w_subI, w_modI, w_mulI, w_ltI, w_leI, w_gtI, w_geI, w_eq, w_ne, w_ixT, w_if, w_nt, w_an, w_or, w_all, w_tstB, w_tst, w_app, w_lc, w_for, w_iseqT, w_rg1, w_rev1, w_d0, Dg.eq_str, Dg.eq_int, s_seq, s_next, s_brk, s_cnt, s_expr, s_ret, s_retN, s_if, s_asg1, s_store, List.map_cons, List.map_nil, List.cons_append, List.nil_append, List.length_cons, List.length_nil, List.replicate_succ, List.replicate_zero, Nat.add_sub_cancel, Nat.sub_self, Nat.sub_zero, Nat.reduceAdd, Nat.reduceSub, Nat.zero_add, List.set_cons_succ, List.set_cons_zero, List.getElem?_cons_zero, List.getElem?_cons_succ, Option.some.injEq, exists_eq_left', exists_eq_left, exists_eq_right', U.bl.injEq, U.int.injEq, U.ref.injEq, U.str.injEq, atI_0, atI_1, atI_2, atI_3, atI_4, atI_5, if_true, if_false, true_and, and_true, decide_true, decide_false, Bool.not_true, Bool.not_false, reduceCtorEq, ite_true, ite_false, decide_eq_true_eq, Bool.true_eq_false, Bool.false_eq_true]
    exact ⟨e, _, rfl⟩
  · left
    refine ⟨by rw [List.getElem?_eq_none (by omega)], ?_⟩
    try walk_at "go"
    have g6 := fA.g h
    refine h16 g6.st n2 (by omega) fun μ7 g7 => ?_
    rw [et, ← et]
    simp (config := {decide := true}) only [eq_self pt (by omega : dp (rowU (rowU h1 ss1) (h2 :: ss2)) ≤ 800), w_run, w_op, w_c, w_var, w_call, w_def, w_anil, w_acons, w_tup, w_lst, w_int, w_intB, w_lenT, w_addI, w_subI, w_modI, w_mulI, w_ltI, w_leI, w_gtI, w_geI, w_eq, w_ne, w_ixT, w_if, w_nt, w_an, w_or, w_all, w_tstB, w_tst, w_app, w_lc, w_for, w_iseqT, w_rg1, w_rev1, w_d0, Dg.eq_str, Dg.eq_int, s_seq, s_next, s_brk, s_cnt, s_expr, s_ret, s_retN, s_if, s_asg1, s_store, List.map_cons, List.map_nil, List.cons_append, List.nil_append, List.length_cons, List.length_nil, List.replicate_succ, List.replicate_zero, Nat.add_sub_cancel, Nat.sub_self, Nat.sub_zero, Nat.reduceAdd, Nat.reduceSub, Nat.zero_add, List.set_cons_succ, List.set_cons_zero, List.getElem?_cons_zero, List.getElem?_cons_succ, Option.some.injEq, exists_eq_left', exists_eq_left, exists_eq_right', U.bl.injEq, U.int.injEq, U.ref.injEq, U.str.injEq, atI_0, atI_1, atI_2, atI_3, atI_4, atI_5, if_true, if_false, true_and, and_true, decide_true, decide_false, Bool.not_true, Bool.not_false, reduceCtorEq, ite_true, ite_false, decide_eq_true_eq, Bool.true_eq_false, Bool.false_eq_true]
    exact q _ (g6.trans g7)
/-! the numbers of a script -/
theorem w_powI {i j : Int} {μ : Mem} {Q : U → Mem → Prop} {E : Str → Mem → Prop} : wpE (uPow (.int i) (.int j) μ) Q E = ((0 ≤ j ∧ j ≤ 1000000 ∧ i.natAbs < 2 ^ 64) ∧ Q (.int (i ^ j.toNat)) μ) := by
  show wpE (if 0 ≤ j ∧ j ≤ 1000000 ∧ i.natAbs < 2 ^ 64 then _ else _) Q E = _
  split
  · rename_i h; simp only [h, wpE, true_and]
  · rename_i h; simp only [h, wpE, false_and]
theorem w_slF {us : List U} {s : Slots} {μ : Mem} {i : Nat} {j : Int} {Q : U → Mem → Prop} {E : Str → Mem → Prop} (h : s[i]? = some (some (.frl us))) (q : ∀ ws, ws.length ≤ us.length → (∀ u ∈ ws, u ∈ us) → Q (.ref μ.length) (μ ++ [.lst ws])) : wpE (fSl (fVar i) oNone (oSome (fC (.int j))) s μ) Q E := by
  have e : fSl (fVar i) oNone (oSome (fC (.int j))) s μ = .ok (.ref μ.length) (μ ++ [.lst (cutU us none (some j))]) := by
    unfold fSl fVar
    rw [h]
    rfl
  rw [e]
  refine q _ ?_ ?_
  · unfold cutU
    simp
    omega
  · intro u hu
    exact List.mem_of_mem_drop (List.mem_of_mem_take hu)
theorem bigA : big64 48271 = true := by decide
theorem bigB : big64 69621 = true := by decide
theorem big7 : big64 7 = true := by decide
def StreamS (g : List U → Mem → Res U) : Prop := ∀ {ns : List Int} {μ : Mem} {Q : U → Mem → Prop} {E : Str → Mem → Prop}, ns.length ≤ 63 →
  (∀ (nums : List Int) μ', μ.length < μ'.length → μ'[μ.length]? = some (.lst (nums.map U.int)) → nums ≠ [] → Q (.ref μ.length) μ') → wpE (g [.frl (ns.map U.int)] μ) Q E
theorem stream_s {C : Calls} : StreamS (runDef 6 (b__law_stream C)) := by
  intro ns μ Q E hl q
  unfold b__law_stream
  try walk_at "go"
  refine w_slF rfl fun ws hw1 hw2 => ?_
  have hi : ∀ u ∈ ws, ∃ i, u = U.int i := fun u hu => by obtain ⟨i, _, e⟩ := List.mem_map.mp (hw2 u hu); exact ⟨i, e.symm⟩
  simp only [List.length_map] at hw1
  simp only
  refine ⟨_, listAt_L get_snoc, ?_⟩
  have e1 : (μ ++ [Cell.lst []]).length = μ.length + 1 := by simp
  rw [e1]
  refine for_go (fun i s' μ' => i ≤ ws.length ∧ (∃ x1 x2 x3 x4, s' = [some (.frl (ns.map U.int)), some (.ref μ.length), x1, x2, x3, x4]) ∧ μ'[μ.length + 1]? = some (.lst ws) ∧ ∃ nums : List Int, nums.length ≤ 60 * i ∧ μ'[μ.length]? = some (.lst (nums.map U.int))) ws.length (by omega) ⟨by omega, ⟨_, _, _, _, rfl⟩, by rw [← e1]; exact get_snoc, [], by simp, get_snoc_lt get_snoc⟩ (fun i _ μ h => h.1) ?_
  rintro i s' μ' ⟨hiw, ⟨x1, x2, x3, x4, rfl⟩, c2, nums, hn, c1⟩
  rw [item_live c2]
  by_cases e : i < ws.length
  · right
    obtain ⟨z, hz⟩ := hi ws[i] (List.getElem_mem e)
    refine ⟨.int z, _, by rw [List.getElem?_eq_getElem e, hz], rfl, ?_⟩
    simp (config := {decide := true}) only [w_powI, w_run, w_op, w_c, w_var, w_call, w_def, w_anil, w_acons, w_tup, w_lst, w_int, w_intB, w_lenT, w_addI, w_subI, w_modI, w_mulI, w_ltI, w_leI, w_gtI, w_geI, w_eq, w_ne, w_ixT, w_if, w_nt, w_an, w_or, w_all, w_tstB, w_tst, w_app, w_lc, w_for, w_iseqT, w_rg1, w_rev1, w_d0, Dg.eq_str, Dg.eq_int, s_seq, s_next, s_brk, s_cnt, s_expr, s_ret, s_retN, s_if, s_asg1, s_store, List.map_cons, List.map_nil, List.cons_append, List.nil_append, List.length_cons, List.length_nil, List.replicate_succ, List.replicate_zero, Nat.add_sub_cancel, Nat.sub_self, Nat.sub_zero, Nat.reduceAdd, Nat.reduceSub, Nat.zero_add, List.set_cons_succ, List.set_cons_zero, List.getElem?_cons_zero, List.getElem?_cons_succ, Option.some.injEq, exists_eq_left', exists_eq_left, exists_eq_right', U.bl.injEq, U.int.injEq, U.ref.injEq, U.str.injEq, atI_0, atI_1, atI_2, atI_3, atI_4, atI_5, if_true, if_false, true_and, and_true, decide_true, decide_false, Bool.not_true, Bool.not_false, reduceCtorEq, ite_true, ite_false, decide_eq_true_eq, Bool.true_eq_false, Bool.false_eq_true]
    split
    · refine for_go (fun j s' μ' => j ≤ 60 ∧ (∃ r x2 x3 x4, s' = [some (.frl (ns.map U.int)), some (.ref μ.length), x2, some (.int r), x3, x4]) ∧ μ'[μ.length + 1]? = some (.lst ws) ∧ ∃ nums : List Int, nums.length ≤ 60 * i + j ∧ μ'[μ.length]? = some (.lst (nums.map U.int))) 60 (by omega) ⟨by omega, ⟨_, _, _, _, rfl⟩, c2, nums, by omega, c1⟩ (fun i _ μ h => h.1) ?_
      rintro j s' μ'' ⟨hj, ⟨r, y2, y3, y4, rfl⟩, d2, nums2, hn2, d1⟩
      rw [item_rng]
      by_cases ej : j < 60
      · right
        refine ⟨_, _, by rw [if_pos (by simpa using ej)], rfl, ?_⟩
        simp (config := {decide := true}) only [lstU_L d1, w_fdivI, w_run, w_op, w_c, w_var, w_call, w_def, w_anil, w_acons, w_tup, w_lst, w_int, w_intB, w_lenT, w_addI, w_subI, w_modI, w_mulI, w_ltI, w_leI, w_gtI, w_geI, w_eq, w_ne, w_ixT, w_if, w_nt, w_an, w_or, w_all, w_tstB, w_tst, w_app, w_lc, w_for, w_iseqT, w_rg1, w_rev1, w_d0, Dg.eq_str, Dg.eq_int, s_seq, s_next, s_brk, s_cnt, s_expr, s_ret, s_retN, s_if, s_asg1, s_store, List.map_cons, List.map_nil, List.cons_append, List.nil_append, List.length_cons, List.length_nil, List.replicate_succ, List.replicate_zero, Nat.add_sub_cancel, Nat.sub_self, Nat.sub_zero, Nat.reduceAdd, Nat.reduceSub, Nat.zero_add, List.set_cons_succ, List.set_cons_zero, List.getElem?_cons_zero, List.getElem?_cons_succ, Option.some.injEq, exists_eq_left', exists_eq_left, exists_eq_right', U.bl.injEq, U.int.injEq, U.ref.injEq, U.str.injEq, atI_0, atI_1, atI_2, atI_3, atI_4, atI_5, if_true, if_false, true_and, and_true, decide_true, decide_false, Bool.not_true, Bool.not_false, reduceCtorEq, ite_true, ite_false, decide_eq_true_eq, Bool.true_eq_false, Bool.false_eq_true]
        rw [w_append d1 (by simp [lim]; omega)]
        have fin : μ''.length = μ''.length → (∃ nums : List Int, nums.length ≤ 60 * i + (j + 1) ∧ (μ''.set μ.length (.lst (nums2.map U.int ++ [.int (r.fmod 1009)])))[μ.length]? = some (.lst (nums.map U.int))) := fun _ => ⟨nums2 ++ [r.fmod 1009], by simp; omega, by simpa using get_set d1⟩
        obtain ⟨n3, f1, f2⟩ := fin rfl
        split
        · exact ⟨by omega, ⟨_, _, _, _, rfl⟩, get_set_ne d2 (by omega), n3, by omega, f2⟩
        · exact ⟨by omega, ⟨_, _, _, _, rfl⟩, get_set_ne d2 (by omega), n3, by omega, f2⟩
      · left
        refine ⟨by rw [if_neg (by simpa using ej)], ?_⟩
        exact ⟨by omega, ⟨_, _, _, _, rfl⟩, d2, nums2, by omega, d1⟩
    · try simp (config := {decide := true}) only [w_modI, w_run, w_op, w_c, w_var, w_call, w_def, w_anil, w_acons, w_tup, w_lst, w_int, w_intB, w_lenT, w_addI, w_subI, w_modI, w_mulI, w_ltI, w_leI, w_gtI, w_geI, w_eq, w_ne, w_ixT, w_if, w_nt, w_an, w_or, w_all, w_tstB, w_tst, w_app, w_lc, w_for, w_iseqT, w_rg1, w_rev1, w_d0, Dg.eq_str, Dg.eq_int, s_seq, s_next, s_brk, s_cnt, s_expr, s_ret, s_retN, s_if, s_asg1, s_store, List.map_cons, List.map_nil, List.cons_append, List.nil_append, List.length_cons, List.length_nil, List.replicate_succ, List.replicate_zero, Nat.add_sub_cancel, Nat.sub_self, Nat.sub_zero, Nat.reduceAdd, Nat.reduceSub, Nat.zero_add, List.set_cons_succ, List.set_cons_zero, List.getElem?_cons_zero, List.getElem?_cons_succ, Option.some.injEq, exists_eq_left', exists_eq_left, exists_eq_right', U.bl.injEq, U.int.injEq, U.ref.injEq, U.str.injEq, atI_0, atI_1, atI_2, atI_3, atI_4, atI_5, if_true, if_false, true_and, and_true, decide_true, decide_false, Bool.not_true, Bool.not_false, reduceCtorEq, ite_true, ite_false, decide_eq_true_eq, Bool.true_eq_false, Bool.false_eq_true]
      refine for_go (fun j s' μ' => j ≤ 10 ∧ (∃ r x2 x3 x4, s' = [some (.frl (ns.map U.int)), some (.ref μ.length), x2, x3, x4, some (.int r)]) ∧ μ'[μ.length + 1]? = some (.lst ws) ∧ ∃ nums : List Int, nums.length ≤ 60 * i + j ∧ μ'[μ.length]? = some (.lst (nums.map U.int))) 10 (by omega) ⟨by omega, ⟨_, _, _, _, rfl⟩, c2, nums, by omega, c1⟩ (fun i _ μ h => h.1) ?_
      rintro j s' μ'' ⟨hj, ⟨r, y2, y3, y4, rfl⟩, d2, nums2, hn2, d1⟩
      rw [item_rng]
      by_cases ej : j < 10
      · right
        refine ⟨_, _, by rw [if_pos (by simpa using ej)], rfl, ?_⟩
        simp (config := {decide := true}) only [lstU_L d1, bigA, bigB, big7, Bool.or_true, Bool.true_or, w_run, w_op, w_c, w_var, w_call, w_def, w_anil, w_acons, w_tup, w_lst, w_int, w_intB, w_lenT, w_addI, w_subI, w_modI, w_mulI, w_ltI, w_leI, w_gtI, w_geI, w_eq, w_ne, w_ixT, w_if, w_nt, w_an, w_or, w_all, w_tstB, w_tst, w_app, w_lc, w_for, w_iseqT, w_rg1, w_rev1, w_d0, Dg.eq_str, Dg.eq_int, s_seq, s_next, s_brk, s_cnt, s_expr, s_ret, s_retN, s_if, s_asg1, s_store, List.map_cons, List.map_nil, List.cons_append, List.nil_append, List.length_cons, List.length_nil, List.replicate_succ, List.replicate_zero, Nat.add_sub_cancel, Nat.sub_self, Nat.sub_zero, Nat.reduceAdd, Nat.reduceSub, Nat.zero_add, List.set_cons_succ, List.set_cons_zero, List.getElem?_cons_zero, List.getElem?_cons_succ, Option.some.injEq, exists_eq_left', exists_eq_left, exists_eq_right', U.bl.injEq, U.int.injEq, U.ref.injEq, U.str.injEq, atI_0, atI_1, atI_2, atI_3, atI_4, atI_5, if_true, if_false, true_and, and_true, decide_true, decide_false, Bool.not_true, Bool.not_false, reduceCtorEq, ite_true, ite_false, decide_eq_true_eq, Bool.true_eq_false, Bool.false_eq_true]
        rw [w_append d1 (by simp [lim]; omega)]
        exact ⟨by omega, ⟨_, _, _, _, rfl⟩, get_set_ne d2 (by omega), nums2 ++ [_], by simp; omega, by simpa using get_set d1⟩
      · left
        refine ⟨by rw [if_neg (by simpa using ej)], ?_⟩
        exact ⟨by omega, ⟨_, _, _, _, rfl⟩, d2, nums2, by omega, d1⟩
  · left
    refine ⟨by rw [List.getElem?_eq_none (by omega)], ?_⟩
    try walk_at "go"
    rw [w_lenL c1]
    try walk_at "go"
    have l1 := get_lt c1
    split
    · refine ⟨_, lstU_L c1, ?_⟩
      rw [w_append c1 (by simp [lim]; omega)]
      exact q (nums ++ [0]) _ (by simpa using l1) (by simpa using get_set c1) (by simp)
    · rename_i hne
      exact q nums _ l1 c1 (by rintro rfl; simp at hne)
def lawB (C : Calls) : FS :=
    (sSeq (sAsg (.one 8) (fOp uAdd (fLc (iSeq (fVar 5)) [7] (.one 7) (tstB (fOp uEq (fOp ixU (fVar 7) (fC (.int 0))) (fC (.str "com")))) (fOp ixU (fVar 7) (fC (.int 1)))) (fLst (aCons (fTup (aCons (fC (.str "skip")) aNil)) aNil))))
    (sSeq (sFor (iRg1 (fC (.int 4))) (.one 4) (sSeq (sAsg (.one 9) (fOp ixU (fVar 8) (fDef 2 (C 7) (aCons (fVar 1) (aCons (fCall bLen (aCons (fVar 8) aNil)) aNil)))))
    (sIf (tNt (tst (fDef 2 (C 26) (aCons (fVar 9) (aCons (fOp ixU (fVar 8) (fDef 2 (C 7) (aCons (fVar 1) (aCons (fCall bLen (aCons (fVar 8) aNil)) aNil)))) aNil))))) (sRet (fC (.bl false))) sNext)))
    (sRet (fC (.bl true)))))
def lawA (C : Calls) : FS :=
    (sSeq (sAsg (.one 5) (fDef 2 (C 23) (aCons (fOp ixU (fVar 2) (fC (.int 1))) (aCons (fOp ixU (fVar 2) (fC (.int 2))) aNil))))
    (sSeq (sAsg (.one 6) (fDef 2 (C 2) (aCons (fOp ixU (fVar 2) (fC (.int 2))) (aCons (fOp ixU (fVar 2) (fC (.int 1))) aNil))))
    (sSeq (sIf (tNt (tst (fDef 2 (C 24) (aCons (fVar 6) (aCons (fVar 5) aNil))))) (sRet (fC (.bl false))) sNext)
    (sSeq (sExpr (fMtL gAppend (fVar 6) (aCons (fTup (aCons (fC (.str "com")) (aCons (fTup (aCons (fC (.str "skip")) aNil)) (aCons (fC (.int 1)) aNil)))) aNil)))
    (sSeq (sIf (tNt (tst (fDef 2 (C 24) (aCons (fDef 2 (C 2) (aCons (fOp ixU (fVar 2) (fC (.int 2))) (aCons (fOp ixU (fVar 2) (fC (.int 1))) aNil))) (aCons (fVar 5) aNil))))) (sRet (fC (.bl false))) sNext)
    (sSeq (sFor (iSeq (fSl (fVar 5) oNone (oSome (fC (.int 40))))) (.one 7) (sIf (tNt (tst (fDef 2 (C 24) (aCons (fDef 2 (C 0) (aCons (fOp ixU (fVar 7) (fC (.int 1))) (aCons (fOp ixU (fVar 7) (fC (.int 0))) aNil))) (aCons (fDef 2 (C 22) (aCons (fOp ixU (fVar 7) (fC (.int 1))) (aCons (fOp ixU (fVar 7) (fC (.int 0))) aNil))) aNil))))) (sRet (fC (.bl false))) sNext))
    (lawB C)))))))
theorem b_law_is (C : Calls) : b_law C =
    (sSeq (sAsg (.one 1) (fLst (aCons (fDef 1 (C 5) (aCons (fVar 0) aNil)) (aCons (fC (.int 0)) aNil))))
    (sSeq (sAsg (.one 2) (fDef 2 (C 21) (aCons (fVar 1) (aCons (fOp uAdd (fC (.int 1)) (fDef 2 (C 7) (aCons (fVar 1) (aCons (fC (.int 5)) aNil)))) aNil))))
    (sSeq (sIf (tstB (fOp uEq (fDef 2 (C 7) (aCons (fVar 1) (aCons (fC (.int 6)) aNil))) (fC (.int 0)))) (sSeq (sAsg (.one 3) (fTup (aCons (fC (.str "skip")) aNil)))
    (sSeq (sFor (iRg1 (fDef 2 (C 7) (aCons (fVar 1) (aCons (fC (.int 60)) aNil)))) (.one 4) (sAsg (.one 3) (fTup (aCons (fC (.str "seq")) (aCons (fVar 3) (aCons (fDef 3 (C 11) (aCons (fVar 1) (aCons (fC (.str "com")) (aCons (fDef 1 (C 20) (aCons (fOp ixU (fVar 2) (fC (.int 0))) aNil)) aNil)))) aNil))))))
    (sAsg (.one 2) (fTup (aCons (fOp ixU (fVar 2) (fC (.int 0))) (aCons (fC (.str "com")) (aCons (fVar 3) aNil))))))) sNext)
    (lawA C)))) := rfl
theorem tru_b {b : Bool} {μ : Mem} : truU μ (.bl b) = some b := rfl
theorem cutU_len {α : Type} {xs : List α} {j : Int} : (cutU xs none (some j)).length ≤ xs.length := by
  unfold cutU
  simp
  omega
theorem cutU_mem {α : Type} {xs : List α} {j : Int} : ∀ u ∈ cutU xs none (some j), u ∈ xs := fun u hu => List.mem_of_mem_drop (List.mem_of_mem_take hu)
theorem w_slL {r : Nat} {us : List U} {s : Slots} {μ : Mem} {i : Nat} {j : Int} {Q : U → Mem → Prop} {E : Str → Mem → Prop} (h : s[i]? = some (some (.ref r))) (hr : μ[r]? = some (.lst us)) (q : ∀ ws, ws.length ≤ us.length → (∀ u ∈ ws, u ∈ us) → Q (.ref μ.length) (μ ++ [.lst ws])) : wpE (fSl (fVar i) oNone (oSome (fC (.int j))) s μ) Q E := by
  have e : fSl (fVar i) oNone (oSome (fC (.int j))) s μ = .ok (.ref μ.length) (μ ++ [.lst (cutU us none (some j))]) := by
    have e1 : fSl (fVar i) oNone (oSome (fC (.int j))) s μ = slU (.ref r) none (some j) μ := by
      unfold fSl fVar
      rw [h]
      rfl
    rw [e1]
    unfold slU
    simp only [lstU_L hr]
  rw [e]
  exact q _ cutU_len cutU_mem
def DnL (Q : U → Mem → Prop) (E : Str → Mem → Prop) : Dn := ⟨fun _ μ' => Q .non μ', Q, fun _ _ => False, fun _ _ => False, fun c _ μ' => E c μ'⟩
theorem skip_ok : TermOk (.tup [.str "skip"]) := ⟨tm_skip.wt, tm_skip.pure, by have := tm_skip.deep; rw [Dz_0] at this; omega⟩
theorem lawB_ok {C : Calls} (h7 : NextS (C 7)) (h26 : RowedS (C 26)) {s n : Nat} {μ0 μ : Mem} {a b d e f g : Option U} {r : Nat} {out : List Tr} {Q : U → Mem → Prop} {E : Str → Mem → Prop} (st : G s n μ0 μ) (hr : μ[r]? = some (.lst (out.map tri))) (hrs : r ≠ s) (hl : out.length < 9000) (ho : ∀ x ∈ out, NdOk 389 x)
    (q : ∀ μ', Q (.bl true) μ') : wpS (lawB C [a, some (.ref s), b, d, e, some (.ref r), f, g, none, none] μ) (DnL Q E) := by
  unfold lawB DnL
  walk_at "go"
  refine ⟨_, listAt_L hr, ?_⟩
  have lr := get_lt hr
  have ls := st.st.lt
  refine lc_go (fun i μ' => i ≤ out.length ∧ (∃ acc : List U, acc.length ≤ i ∧ (∀ u ∈ acc, TermOk u) ∧ μ'[μ.length]? = some (.lst acc)) ∧ G s n μ μ') out.length (by omega) ⟨by omega, ⟨[], by simp, by simp, get_snoc⟩, (G.refl st.st).snoc⟩ (fun i μ h => h.1) ?_
  rintro i μ' ⟨hi, ⟨acc, a1, a2, a3⟩, g1⟩
  have hr' := g1.get hr hrs
  rw [item_live hr']
  by_cases ei : i < out.length
  · right
    refine ⟨tri out[i], _, by simp [ei], rfl, ?_⟩
    obtain ⟨w, p, dd⟩ := ho out[i] (List.getElem_mem ei)
    simp only [wipeU, tri]
    walk_at "go"
    split
    · refine ⟨_, a3, by simp [lim]; omega, by omega, ⟨acc ++ [out[i].2.1], by simp; omega, ?_, get_set a3⟩, g1.put (Nat.le_refl _)⟩
      intro u hu
      rcases List.mem_append.mp hu with m | m
      · exact a2 u m
      · rw [List.mem_singleton.mp m]; exact ⟨w, p, by omega⟩
    · exact ⟨by omega, ⟨acc, by omega, a2, a3⟩, g1⟩
  · left
    refine ⟨by simp; omega, ?_⟩
    refine w_addL (get_snoc_lt a3) get_snoc (by simp [lim]; omega) ?_
    have hcs : ∀ u ∈ acc ++ [U.tup [U.str "skip"]], TermOk u := by
      intro u hu
      rcases List.mem_append.mp hu with m | m
      · exact a2 u m
      · rw [List.mem_singleton.mp m]; exact skip_ok
    generalize hA : acc ++ [U.tup [U.str "skip"]] = cs at hcs
    have hpos : (0 : Int) < cs.length := by rw [← hA]; simp
    have g2 := (g1.snoc (c := .lst [U.tup [U.str "skip"]])).snoc (c := .lst cs)
    generalize hM : (μ' ++ [Cell.lst [U.tup [U.str "skip"]]] ++ [Cell.lst cs]) = μ1 at g2
    have hc : μ1[(μ' ++ [Cell.lst [U.tup [U.str "skip"]]]).length]? = some (.lst cs) := by rw [← hM]; exact get_snoc
    have hcl : (μ' ++ [Cell.lst [U.tup [U.str "skip"]]]).length = μ'.length + 1 := by simp
    rw [hcl] at hc ⊢
    have l1 := g1.le
    try walk_at "go"
    refine for_go (fun j s' μ2 => j ≤ 4 ∧ (∃ x y z, s' = [a, some (.ref s), b, d, x, some (.ref r), f, g, some (.ref (μ'.length + 1)), y] ∧ z = x) ∧ G s n μ1 μ2) 4 (by omega) ⟨by omega, ⟨_, _, _, rfl, rfl⟩, G.refl g2.st⟩ (fun i _ μ h => h.1) ?_
    rintro j s' μ2 ⟨hj, ⟨x, y, z, rfl, _⟩, g3⟩
    rw [item_rng]
    by_cases ej : j < 4
    · right
      refine ⟨_, _, by rw [if_pos (by simpa using ej)], rfl, ?_⟩
      have hc2 := g3.get hc (by omega)
      simp (config := {decide := true}) only [w_lenL hc2, w_run, w_op, w_c, w_var, w_call, w_def, w_anil, w_acons, w_tup, w_lst, w_int, w_intB, w_lenT, w_addI, w_subI, w_modI, w_mulI, w_ltI, w_leI, w_gtI, w_geI, w_eq, w_ne, w_ixT, w_if, w_nt, w_an, w_or, w_all, w_tstB, w_tst, w_app, w_lc, w_for, w_iseqT, w_rg1, w_rev1, w_d0, Dg.eq_str, Dg.eq_int, s_seq, s_next, s_brk, s_cnt, s_expr, s_ret, s_retN, s_if, s_asg1, s_store, List.map_cons, List.map_nil, List.cons_append, List.nil_append, List.length_cons, List.length_nil, List.replicate_succ, List.replicate_zero, Nat.add_sub_cancel, Nat.sub_self, Nat.sub_zero, Nat.reduceAdd, Nat.reduceSub, Nat.zero_add, List.set_cons_succ, List.set_cons_zero, List.getElem?_cons_zero, List.getElem?_cons_succ, Option.some.injEq, exists_eq_left', exists_eq_left, exists_eq_right', U.bl.injEq, U.int.injEq, U.ref.injEq, U.str.injEq, atI_0, atI_1, atI_2, atI_3, atI_4, atI_5, if_true, if_false, true_and, and_true, decide_true, decide_false, Bool.not_true, Bool.not_false, reduceCtorEq, ite_true, ite_false, decide_eq_true_eq, Bool.true_eq_false, Bool.false_eq_true]
      refine h7 g3 hpos fun v μ3 v0 v1 g4 g4' _ => ?_
      have hc3 := g4.get hc (by omega)
      refine pick_l (s := s) (n := n) (μ0 := μ) hc3 v0 (by simpa using v1) ?_
      intro u1 hu1
      simp (config := {decide := true}) only [w_lenL hc3, w_run, w_op, w_c, w_var, w_call, w_def, w_anil, w_acons, w_tup, w_lst, w_int, w_intB, w_lenT, w_addI, w_subI, w_modI, w_mulI, w_ltI, w_leI, w_gtI, w_geI, w_eq, w_ne, w_ixT, w_if, w_nt, w_an, w_or, w_all, w_tstB, w_tst, w_app, w_lc, w_for, w_iseqT, w_rg1, w_rev1, w_d0, Dg.eq_str, Dg.eq_int, s_seq, s_next, s_brk, s_cnt, s_expr, s_ret, s_retN, s_if, s_asg1, s_store, List.map_cons, List.map_nil, List.cons_append, List.nil_append, List.length_cons, List.length_nil, List.replicate_succ, List.replicate_zero, Nat.add_sub_cancel, Nat.sub_self, Nat.sub_zero, Nat.reduceAdd, Nat.reduceSub, Nat.zero_add, List.set_cons_succ, List.set_cons_zero, List.getElem?_cons_zero, List.getElem?_cons_succ, Option.some.injEq, exists_eq_left', exists_eq_left, exists_eq_right', U.bl.injEq, U.int.injEq, U.ref.injEq, U.str.injEq, atI_0, atI_1, atI_2, atI_3, atI_4, atI_5, if_true, if_false, true_and, and_true, decide_true, decide_false, Bool.not_true, Bool.not_false, reduceCtorEq, ite_true, ite_false, decide_eq_true_eq, Bool.true_eq_false, Bool.false_eq_true]
      refine h7 g4 hpos fun v μ4 v0 v1 g5 g5' _ => ?_
      have hc4 := g5.get hc (by omega)
      refine pick_l (s := s) (n := n) (μ0 := μ) hc4 v0 (by simpa using v1) ?_
      intro u2 hu2
      refine h26 g5.st (hcs u1 hu1) (hcs u2 hu2) fun μ5 g6 => ?_
      simp (config := {decide := true}) only [tru_b, w_run, w_op, w_c, w_var, w_call, w_def, w_anil, w_acons, w_tup, w_lst, w_int, w_intB, w_lenT, w_addI, w_subI, w_modI, w_mulI, w_ltI, w_leI, w_gtI, w_geI, w_eq, w_ne, w_ixT, w_if, w_nt, w_an, w_or, w_all, w_tstB, w_tst, w_app, w_lc, w_for, w_iseqT, w_rg1, w_rev1, w_d0, Dg.eq_str, Dg.eq_int, s_seq, s_next, s_brk, s_cnt, s_expr, s_ret, s_retN, s_if, s_asg1, s_store, List.map_cons, List.map_nil, List.cons_append, List.nil_append, List.length_cons, List.length_nil, List.replicate_succ, List.replicate_zero, Nat.add_sub_cancel, Nat.sub_self, Nat.sub_zero, Nat.reduceAdd, Nat.reduceSub, Nat.zero_add, List.set_cons_succ, List.set_cons_zero, List.getElem?_cons_zero, List.getElem?_cons_succ, Option.some.injEq, exists_eq_left', exists_eq_left, exists_eq_right', U.bl.injEq, U.int.injEq, U.ref.injEq, U.str.injEq, atI_0, atI_1, atI_2, atI_3, atI_4, atI_5, if_true, if_false, true_and, and_true, decide_true, decide_false, Bool.not_true, Bool.not_false, reduceCtorEq, ite_true, ite_false, decide_eq_true_eq, Bool.true_eq_false, Bool.false_eq_true]
      exact ⟨by omega, ⟨_, _, _, rfl, rfl⟩, g5.trans g6⟩
    · left
      refine ⟨by rw [if_neg (by simpa using ej)], ?_⟩
      walk_at "go"
      exact q _
theorem prs_ok {as : List (Str × U)} {D : Nat} (h : ∀ p ∈ as, pu p.2 = true ∧ dp p.2 ≤ D) (hD : D ≤ 790) : ∀ u ∈ as.map pr, (∃ xs, u = .tup xs) ∧ pu u = true ∧ dp u ≤ 800 := by
  intro u hu
  obtain ⟨p, hp, rfl⟩ := List.mem_map.mp hu
  obtain ⟨a, b⟩ := h p hp
  exact ⟨⟨_, rfl⟩, by simp [pr, pu, pus, a], by simp [pr, dp, dps]; omega⟩
theorem tris_ok {out : List Tr} (h : ∀ x ∈ out, NdOk 389 x) : ∀ u ∈ out.map tri, (∃ xs, u = .tup xs) ∧ pu u = true ∧ dp u ≤ 800 := by
  intro u hu
  obtain ⟨p, hp, rfl⟩ := List.mem_map.mp hu
  obtain ⟨w, a, b⟩ := h p hp
  exact ⟨⟨_, rfl⟩, by simp [tri, pu, pus, a], by simp [tri, dp, dps]; omega⟩
theorem lawA_ok {C : Calls} (h0 : KidsS (C 0)) (h2 : WalkS 900000 fun k u => C 2 [u, .str k]) (h7 : NextS (C 7)) (h22 : KidsS (C 22)) (h23 : WalkS 9000 fun k u => C 23 [.str k, u]) (h24 : PairsS (C 24)) (h26 : RowedS (C 26))
    {s n : Nat} {μ : Mem} {a b c : Option U} {ds : U} {kd : Str} {u : U} {Q : U → Mem → Prop} {E : Str → Mem → Prop} (st : St s n μ) (hw : WT u) (hp : pu u = true) (hd : dp u ≤ 389) (hz : sz u < 9000)
    (q : ∀ μ', Q (.bl true) μ') : wpS (lawA C [a, some (.ref s), some (.tup [ds, .str kd, u]), b, c, none, none, none, none, none] μ) (DnL Q E) := by
  have hn : NdOk 389 (kd, u, 1) := ⟨hw, hp, hd⟩
  obtain ⟨out, wk, hl, ho⟩ := wk_all (D := 389) (sz u) [(kd, u, 1)] (by simp [szt]) (by simpa using hn)
  simp [szt] at hl
  have ls := st.lt
  unfold lawA DnL
  walk_at "go"
  refine h23 wk (by omega) fun r1 μ1 f1 l1 c1 => ?_
  try walk_at "go"
  refine h2 wk (by omega) fun r2 μ2 f2 l2 c2 => ?_
  have c1' := f2.at_ _ _ c1
  try walk_at "go"
  refine h24 c2 c1' (by simp; omega) (tris_ok ho) ?_
  simp (config := {decide := true}) only [tru_b, lstU_L c2, w_run, w_op, w_c, w_var, w_call, w_def, w_anil, w_acons, w_tup, w_lst, w_int, w_intB, w_lenT, w_addI, w_subI, w_modI, w_mulI, w_ltI, w_leI, w_gtI, w_geI, w_eq, w_ne, w_ixT, w_if, w_nt, w_an, w_or, w_all, w_tstB, w_tst, w_app, w_lc, w_for, w_iseqT, w_rg1, w_rev1, w_d0, Dg.eq_str, Dg.eq_int, s_seq, s_next, s_brk, s_cnt, s_expr, s_ret, s_retN, s_if, s_asg1, s_store, List.map_cons, List.map_nil, List.cons_append, List.nil_append, List.length_cons, List.length_nil, List.replicate_succ, List.replicate_zero, Nat.add_sub_cancel, Nat.sub_self, Nat.sub_zero, Nat.reduceAdd, Nat.reduceSub, Nat.zero_add, List.set_cons_succ, List.set_cons_zero, List.getElem?_cons_zero, List.getElem?_cons_succ, Option.some.injEq, exists_eq_left', exists_eq_left, exists_eq_right', U.bl.injEq, U.int.injEq, U.ref.injEq, U.str.injEq, atI_0, atI_1, atI_2, atI_3, atI_4, atI_5, if_true, if_false, true_and, and_true, decide_true, decide_false, Bool.not_true, Bool.not_false, reduceCtorEq, ite_true, ite_false, decide_eq_true_eq, Bool.true_eq_false, Bool.false_eq_true]
  rw [w_append c2 (by simp [lim]; omega)]
  have lr1 := get_lt c1
  have c1'' := get_set_ne (i := r2) (c := .lst (out.map tri ++ [.tup [.str "com", .tup [.str "skip"], .int 1]])) c1' (by omega)
  have f3 := (f1.trans f2).put (i := r2) (c := .lst (out.map tri ++ [.tup [.str "com", .tup [.str "skip"], .int 1]])) (by have := f1.le; omega)
  refine h2 wk (by omega) fun r3 μ3 f4 l3 c3 => ?_
  have c1a := f4.at_ _ _ c1''
  have f5 := f3.trans f4
  try walk_at "go"
  refine h24 c3 c1a (by simp; omega) (tris_ok ho) ?_
  simp (config := {decide := true}) only [tru_b, w_run, w_op, w_c, w_var, w_call, w_def, w_anil, w_acons, w_tup, w_lst, w_int, w_intB, w_lenT, w_addI, w_subI, w_modI, w_mulI, w_ltI, w_leI, w_gtI, w_geI, w_eq, w_ne, w_ixT, w_if, w_nt, w_an, w_or, w_all, w_tstB, w_tst, w_app, w_lc, w_for, w_iseqT, w_rg1, w_rev1, w_d0, Dg.eq_str, Dg.eq_int, s_seq, s_next, s_brk, s_cnt, s_expr, s_ret, s_retN, s_if, s_asg1, s_store, List.map_cons, List.map_nil, List.cons_append, List.nil_append, List.length_cons, List.length_nil, List.replicate_succ, List.replicate_zero, Nat.add_sub_cancel, Nat.sub_self, Nat.sub_zero, Nat.reduceAdd, Nat.reduceSub, Nat.zero_add, List.set_cons_succ, List.set_cons_zero, List.getElem?_cons_zero, List.getElem?_cons_succ, Option.some.injEq, exists_eq_left', exists_eq_left, exists_eq_right', U.bl.injEq, U.int.injEq, U.ref.injEq, U.str.injEq, atI_0, atI_1, atI_2, atI_3, atI_4, atI_5, if_true, if_false, true_and, and_true, decide_true, decide_false, Bool.not_true, Bool.not_false, reduceCtorEq, ite_true, ite_false, decide_eq_true_eq, Bool.true_eq_false, Bool.false_eq_true]
  refine w_slL rfl c1a fun ws hw1 hw2 => ?_
  simp only [List.length_map] at hw1
  simp only
  refine ⟨_, listAt_L get_snoc, ?_⟩
  have f6 := f5.snoc (c := .lst ws)
  refine for_go (fun i s' μ4 => i ≤ ws.length ∧ (∃ x, s' = [a, some (.ref s), some (.tup [ds, .str kd, u]), b, c, some (.ref r1), some (.ref r2), x, none, none]) ∧ Fr (μ3 ++ [.lst ws]) μ4) ws.length (by omega) ⟨by omega, ⟨_, rfl⟩, Fr.refl⟩ (fun i _ μ h => h.1) ?_
  rintro i s' μ4 ⟨hi, ⟨x, rfl⟩, f7⟩
  rw [item_live (f7.at_ _ _ get_snoc)]
  by_cases ei : i < ws.length
  · right
    obtain ⟨y, hy, ey⟩ := List.mem_map.mp (hw2 ws[i] (List.getElem_mem ei))
    refine ⟨tri y, _, by rw [List.getElem?_eq_getElem ei, ey], rfl, ?_⟩
    obtain ⟨w, p, dd⟩ := ho y hy
    obtain ⟨ks, nd, hk⟩ : ∃ ks, Nd y.2.1 ks ∧ ∀ k p, p ∈ ks k → WT p.2 := by
      cases w with
      | mk n a b => exact ⟨_, n, a⟩
    obtain ⟨q1, q2, q3⟩ := nd.facts p y.1
    simp only [tri]
    walk_at "go"
    refine h0 (k := y.1) nd ?_
    refine h22 (k := y.1) nd ?_
    refine h24 (get_snoc_lt get_snoc) get_snoc (by simp; omega) (prs_ok (D := 389) (fun p hp => ⟨(q1 p hp).1, Nat.le_trans (q1 p hp).2 dd⟩) (by omega)) ?_
    simp (config := {decide := true}) only [tru_b, w_run, w_op, w_c, w_var, w_call, w_def, w_anil, w_acons, w_tup, w_lst, w_int, w_intB, w_lenT, w_addI, w_subI, w_modI, w_mulI, w_ltI, w_leI, w_gtI, w_geI, w_eq, w_ne, w_ixT, w_if, w_nt, w_an, w_or, w_all, w_tstB, w_tst, w_app, w_lc, w_for, w_iseqT, w_rg1, w_rev1, w_d0, Dg.eq_str, Dg.eq_int, s_seq, s_next, s_brk, s_cnt, s_expr, s_ret, s_retN, s_if, s_asg1, s_store, List.map_cons, List.map_nil, List.cons_append, List.nil_append, List.length_cons, List.length_nil, List.replicate_succ, List.replicate_zero, Nat.add_sub_cancel, Nat.sub_self, Nat.sub_zero, Nat.reduceAdd, Nat.reduceSub, Nat.zero_add, List.set_cons_succ, List.set_cons_zero, List.getElem?_cons_zero, List.getElem?_cons_succ, Option.some.injEq, exists_eq_left', exists_eq_left, exists_eq_right', U.bl.injEq, U.int.injEq, U.ref.injEq, U.str.injEq, atI_0, atI_1, atI_2, atI_3, atI_4, atI_5, if_true, if_false, true_and, and_true, decide_true, decide_false, Bool.not_true, Bool.not_false, reduceCtorEq, ite_true, ite_false, decide_eq_true_eq, Bool.true_eq_false, Bool.false_eq_true]
    exact ⟨by omega, ⟨_, rfl⟩, f7.snoc.snoc⟩
  · left
    refine ⟨by rw [List.getElem?_eq_none (by omega)], ?_⟩
    have f8 := f6.trans f7
    exact lawB_ok (E := E) h7 h26 (f8.g st) (f7.at_ _ _ (get_snoc_lt c1a)) (by have := f1.le; omega) (by omega) ho q
theorem Dz_le5 {d : Nat} (h : d ≤ 5) : Dz d ≤ 220 := by
  have : d = 0 ∨ d = 1 ∨ d = 2 ∨ d = 3 ∨ d = 4 ∨ d = 5 := by omega
  rcases this with rfl | rfl | rfl | rfl | rfl | rfl <;> decide
theorem law_ok {C : Calls} (h0 : KidsS (C 0)) (h2 : WalkS 900000 fun k u => C 2 [u, .str k]) (h5 : StreamS (C 5)) (h7 : NextS (C 7)) (h11 : LeafS (C 11)) (h20 : ScopeS (C 20)) (h21 : ∀ d, d ≤ 5 → PieceS d (C 21)) (h22 : KidsS (C 22)) (h23 : WalkS 9000 fun k u => C 23 [.str k, u]) (h24 : PairsS (C 24)) (h26 : RowedS (C 26))
    {ns : List Int} (hl : ns.length ≤ 63) {Q : U → Mem → Prop} {E : Str → Mem → Prop} (q : ∀ μ', Q (.bl true) μ') : wpE (runDef 10 (b_law C) [.frl (ns.map U.int)] []) Q E := by
  rw [b_law_is]
  walk_at "go"
  refine h5 hl fun nums μ1 l1 c1 hne => ?_
  simp only [List.length_nil] at l1 c1 ⊢
  have st : St μ1.length 0 (μ1 ++ [.lst [.ref 0, .int 0]]) := ⟨by omega, 0, nums, get_snoc, get_snoc_lt c1, hne⟩
  refine h7 (G.refl st) (by decide) fun v μ2 v0 v1 g1 _ _ => ?_
  obtain ⟨j, rfl⟩ := Int.eq_ofNat_of_zero_le v0
  have ej : (1 + (j : Int)) = ((j + 1 : Nat) : Int) := by omega
  try walk_at "go"
  rw [ej]
  refine h21 (j + 1) (by omega) g1.st fun ds kd u μ3 hds hk tm g2 => ?_
  have g3 := g1.trans g2
  try walk_at "go"
  refine h7 g3 (by decide) fun v2 μ4 v20 v21 g4 _ _ => ?_
  try walk_at "go"
  split
  · try walk_at "go"
    refine h7 g4 (by decide) fun v3 μ5 w0 w1 g5 _ _ => ?_
    refine ⟨v3, rfl, by unfold okR; simp; omega, ?_⟩
    refine for_go (fun i s' μ' => i ≤ v3.toNat ∧ (∃ t x, s' = [some (.frl (ns.map U.int)), some (.ref μ1.length), some (.tup [.tup ds, .str kd, u]), some t, x, none, none, none, none, none] ∧ WT t ∧ pu t = true ∧ dp t ≤ 4 + i ∧ sz t ≤ 4 + 12 * i) ∧ St μ1.length 0 μ') v3.toNat (by omega) ⟨by omega, ⟨_, none, rfl, tm_skip.wt, tm_skip.pure, by simp [dp, dps], by simp [sz, szs]⟩, g5.st⟩ (fun i _ μ h => h.1) ?_
    rintro i s' μ6 ⟨hi, ⟨t, x, rfl, tw, tp, td, tz⟩, st6⟩
    rw [item_rng]
    by_cases ei : i < v3.toNat
    · right
      refine ⟨_, _, by rw [if_pos ei], rfl, ?_⟩
      try walk_at "go"
      refine h20 st6 hds fun r μ7 hr sc g7 => ?_
      try walk_at "go"
      refine h11 g7.st hr sc (by simp) fun u2 μ8 tu nu g8 => ?_
      have d1 := tu.deep
      have z1 := tu.size
      rw [Dz_0] at d1
      rw [Tz_0] at z1
      refine ⟨by omega, ⟨_, _, rfl, wt_seq tw tu.wt nu, by simp [pu, pus, tp, tu.pure], by simp [dp, dps]; omega, by simp [sz, szs]; omega⟩, g8.st⟩
    · left
      refine ⟨by rw [if_neg ei], ?_⟩
      try walk_at "go"
      exact lawA_ok (E := E) h0 h2 h7 h22 h23 h24 h26 st6 tw tp (by omega) (by omega) q
  · have := tm.deep
    have := tm.size
    have := Dz_le5 (d := j + 1) (by omega)
    have := Tz_le (d := j + 1) (by omega)
    exact lawA_ok (E := E) h0 h2 h7 h22 h23 h24 h26 g4.st tm.wt tm.pure (by omega) (by omega) q
/-! the table of calls -/
theorem next_t (k : Nat) : NextS (call (k + 1) 7) := next_s (C := call k)
theorem pool_t (k : Nat) : PoolS (call (k + 2) 13) := pool_s (C := call (k + 1)) (next_t k)
theorem sorts_t (k : Nat) : SortsS (call (k + 1) 9) := sorts_s (C := call k)
theorem callable_t (k : Nat) : CallableS (call (k + 1) 8) := callable_s (C := call k)
theorem inner_t (k : Nat) : InnerS (call (k + 1) 12) := inner_s (C := call k)
theorem joined_t (k : Nat) : JoinS (call (k + 1) 16) := joined_s (C := call k)
theorem call_t (k d : Nat) (h18 : ∀ d', d = d' + 1 → TermS d' (call (k + 1) 18)) : CallS d (call (k + 2) 10) := call_s (C := call (k + 1)) (next_t k) (callable_t k) h18
theorem leaf_t (k : Nat) : LeafS (call (k + 3) 11) := leaf_s (C := call (k + 2)) (next_t _) (sorts_t _) (call_t k 0 fun d' e => nomatch e)
theorem term_t : ∀ (d k : Nat), d ≤ 6 → TermS d (call (3 * d + 8 + k) 18)
  | 0, k, _ => by
    rw [show 3 * 0 + 8 + k = (k + 4) + 3 + 1 by omega]
    exact term0_s (C := call (k + 4 + 3)) (leaf_t _)
  | d + 1, k, hd => by
    have t0 := @term_t d k (by omega)
    have t1 := @term_t d (k + 1) (by omega)
    have t2 := @term_t d (k + 2) (by omega)
    rw [show 3 * (d + 1) + 8 + k = (3 * d + 6 + k) + 5 by omega]
    rw [show 3 * d + 8 + (k + 1) = (3 * d + 6 + k) + 3 by omega] at t1
    rw [show 3 * d + 8 + (k + 2) = (3 * d + 6 + k) + 4 by omega] at t2
    rw [show 3 * d + 8 + k = (3 * d + 6 + k) + 2 by omega] at t0
    generalize 3 * d + 6 + k = m at *
    have hc : CallS (d + 1) (call (m + 3) 10) := call_t (m + 1) (d + 1) fun d' e => by cases e; exact t0
    have hp : TermS (d + 1) (call (m + 3) 14) := proc_s (C := call (m + 2)) (next_t _) (inner_t _) (pool_t _) t0
    exact term_s (C := call (m + 4)) (next_t _) (common_s (C := call (m + 3)) hc (leaf_t _) (inner_t _) (pool_t _) hp t1) (command_s (C := call (m + 3)) (by omega) (next_t _) (sorts_t _) (inner_t _) (pool_t _) (joined_t _) t1) t2
theorem kids_t (k : Nat) : KidsS (call (k + 1) 0) := kids_s (C := call k)
theorem lkids_t (k : Nat) : KidsS (call (k + 1) 22) := lkids_s (C := call k)
theorem lv_t (k : Nat) : LvS (call (k + 1) 1) := lv_ok (C := call k)
theorem nodes_t (k : Nat) : WalkS 900000 fun a u => call (k + 2) 2 [u, .str a] := nodes_s (C := call (k + 1)) (kids_t k) (lv_t k)
theorem levels_t (k : Nat) : WalkS 9000 fun a u => call (k + 2) 23 [.str a, u] := levels_s (C := call (k + 1)) (lkids_t k)
theorem steps_t (k : Nat) : StepsS (call (k + 1) 3) := steps_s (C := call k)
theorem lsteps_t (k : Nat) : StepsS (call (k + 1) 25) := lsteps_s (C := call k)
theorem row_t (k : Nat) : RowS (call (k + 2) 4) := row_s (C := call (k + 1)) (steps_t k)
theorem rowed_t (k : Nat) : RowedS (call (k + 3) 26) := rowed_s (C := call (k + 2)) (row_t k) (joined_t _) (lsteps_t _)
theorem pairs_t (k : Nat) : PairsS (call (k + 1) 24) := pairs_s (C := call k)
theorem stream_t (k : Nat) : StreamS (call (k + 1) 5) := stream_s (C := call k)
theorem scope_t (k : Nat) : ScopeS (call (k + 1) 20) := scope_s (C := call k)
theorem decls_t (k : Nat) : DeclsS (call (k + 3) 19) := decls_s (C := call (k + 2)) (next_t _) (pool_t k)
theorem piece_t (k d : Nat) (hd : d ≤ 5) : PieceS d (call (k + 40) 21) := by
  refine piece_s (C := call (k + 39)) (by omega) (next_t _) ?_ (decls_t _) (scope_t _)
  have := @term_t d (k + 31 - 3 * d) (by omega)
  rwa [show 3 * d + 8 + (k + 31 - 3 * d) = k + 39 by omega] at this
theorem law_t (k : Nat) {ns : List Int} (h : ns.length ≤ 63) : ∃ μ, call (k + 41) 27 [.frl (ns.map U.int)] [] = .ok (.bl true) μ := by
  have w : wpE (call (k + 41) 27 [.frl (ns.map U.int)] []) (fun v _ => v = .bl true) fun _ _ => False :=
    law_ok (C := call (k + 40)) (kids_t _) (nodes_t _) (stream_t _) (next_t _) (leaf_t _) (scope_t _) (fun d hd => piece_t k d hd) (lkids_t _) (levels_t _) (pairs_t _) (rowed_t _) h fun _ => rfl
  obtain ⟨a, μ, e, rfl⟩ := w.get
  exact ⟨μ, e⟩
theorem law_true (ns : List Int) (h : ns.length ≤ 63) : ∃ μ, call 190 27 [.frl (ns.map U.int)] [] = .ok (.bl true) μ := law_t 149 h
end Lw
open PySem PySem.W PySem.Calls PyProof.Rows
set_option maxRecDepth 100000 in
set_option maxHeartbeats 0 in
theorem PySem.Challenge.cw_doppelganger_k01_parts_and_nodes_holds : PySem.Challenge.rw_doppelganger_k01_parts_and_nodes.Holds := by
  w_on; o_law
  refine HandSHeadRun.head_any (r := OpenLaw.row PySem.Challenge.rw_doppelganger_k01_parts_and_nodes) (q := view (OpenLaw.row PySem.Challenge.rw_doppelganger_k01_parts_and_nodes).prog [31]) (H := Lw.hk) (ob := Lw.ob) (M := 3000) (loose := Lw.hloose) (d := HandSHeadRun.topDef (OpenLaw.row PySem.Challenge.rw_doppelganger_k01_parts_and_nodes).prog 31) (kwd := []) Lw.ob_eq
    (by kernel_rfl) (fun s => by kernel_rfl) Lw.run (by kernel_rfl) (by kernel_rfl) (by kernel_rfl) (by rfl) (by first | assumption | decide +kernel) (by decide +kernel) ⟨rfl, rfl, rfl, rfl, rfl, by decide +kernel⟩ ?hw ?hc
  case hw => w_witness2
  case hc =>
    refine Dg.walk_dg (l := PySem.Challenge.rw_doppelganger_k01_parts_and_nodes) (n := 63) (k := 190 + 40) (x := "script") (CX := fun w => L2.CX (PySem.Challenge.rw_doppelganger_k01_parts_and_nodes).prog w) rfl (by decide) (by kernel_rfl) ⟨rfl, by decide, by decide⟩ (fun w H s e s2 z => Dg.cx_none H s e s2 z) ?F
    intro w mg fa h Y G hmg0
    obtain ⟨K, KX, c⟩ := Y
    have hmg : mg ("law" : PySem.Str) = some (.ref fa) := by
      have e : (HandSHeadRun.topDef (OpenLaw.row PySem.Challenge.rw_doppelganger_k01_parts_and_nodes).prog 31).name = ("law" : PySem.Str) := by kernel_rfl
      rw [← e]
      exact hmg0
    obtain ⟨fd, Fx⟩ := Lw.facts (w := w) KX G c
    have ea := hmg.symm.trans Fx.m27
    cases ea
    exact ⟨K, fd 27, Dg.spF K mg 1 (Lw.call 190 27), KX, fun s v => L2.FunD.bindsA (ps := ["script"]) Fx.F27 (fun _ _ _ _ _ _ us hl => match us, hl with | [_], _ => rfl) s [v] rfl, fun H a ns hl ho hS => Dg.end_of (Lw.law_true ns hl) ho hS, fun base _ _ => (Lw.tab Fx 190).G27⟩

